import Derived.Test.YtdcainmlcpafbaaGreatDoorP3
import Derived.Test.YtdcainmlcpafbaaGreatDoorFF
set_option linter.unusedSimpArgs false
set_option linter.unusedVariables false
set_option maxRecDepth 100000
namespace Go.Proofs.YtdcainmlcpafbaaGreatDoor
open Go.ChangeShapes Go.WideShapes Go.ChangeAt Go.RowKit

theorem c32 : Tryz.prog.cellsOf 32 = 5 := by kernel_rfl
theorem sum_bulk {H α : Type} (m : α → Nat) : ∀ (l : List α) (ds : List (DataW H)), l.length = ds.length → (∀ i (h : i < l.length) (h' : i < ds.length), m l[i] ≤ Rows.uptoBulk ds[i]) → (l.map m).sum ≤ Rows.uptoBulkAll ds := by
  intro l
  induction l with
  | nil => intro ds _ _; simp
  | cons x l ih =>
    intro ds hl h
    match ds, hl with
    | d :: ds, hl =>
      have h0 := h 0 (by simp) (by simp)
      have h1 := ih ds (by simpa using hl) (fun i hi hi' => by
        have := h (i + 1) (by simpa using hi) (by simpa using hi')
        simpa using this)
      simp only [List.getElem_cons_zero] at h0
      simp only [List.map_cons, List.sum_cons, Rows.uptoBulkAll]
      omega
section
variable {H : Type} {enc : TypeId × Value → H} {W : World} {base : Nat} {spare : Nat → Bool} {held : Bool}
theorem open_act {n : Nat} {cs : List Value} {y : DataW H × List MemPlace} (h : DataW.trod enc Tryz.prog W base spare held n 32 cs = some y) : ∃ o : ActD, cs = o.cells ∧ o.ok ∧ o.t.length ≤ Rows.uptoBulk y.1 := by
  obtain ⟨xs, m, _, rfl, hcl, hlen, hfs⟩ := DataW.trod_struct Tryz.underlying32 h
  have hlen : xs.length = 5 := hlen
  rw [c32] at hcl
  match cs, hcl with
  | [v0, v1, v2, v3, v4], _ =>
    have g : ∀ i, i < 5 → ∃ y, xs[i]? = some y := fun i hi => ⟨xs[i], by simp⟩
    have q0 : DataW.trod enc Tryz.prog W base spare held m 3 (([v0, v1, v2, v3, v4].drop 0).take (Tryz.prog.cellsOf 3)) = xs[0]? := hfs 0 _ rfl
    have q1 : DataW.trod enc Tryz.prog W base spare held m 3 (([v0, v1, v2, v3, v4].drop 1).take (Tryz.prog.cellsOf 3)) = xs[1]? := hfs 1 _ rfl
    have q2 : DataW.trod enc Tryz.prog W base spare held m 3 (([v0, v1, v2, v3, v4].drop 2).take (Tryz.prog.cellsOf 3)) = xs[2]? := hfs 2 _ rfl
    have q3 : DataW.trod enc Tryz.prog W base spare held m 9 (([v0, v1, v2, v3, v4].drop 3).take (Tryz.prog.cellsOf 9)) = xs[3]? := hfs 3 _ rfl
    have q4 : DataW.trod enc Tryz.prog W base spare held m 9 (([v0, v1, v2, v3, v4].drop 4).take (Tryz.prog.cellsOf 9)) = xs[4]? := hfs 4 _ rfl
    rw [c3] at q0 q1 q2
    rw [c9] at q3 q4
    obtain ⟨y0, hy0⟩ := g 0 (by omega)
    obtain ⟨y1, hy1⟩ := g 1 (by omega)
    obtain ⟨y2, hy2⟩ := g 2 (by omega)
    obtain ⟨y3, hy3⟩ := g 3 (by omega)
    obtain ⟨y4, hy4⟩ := g 4 (by omega)
    rw [hy0] at q0
    rw [hy1] at q1
    rw [hy2] at q2
    rw [hy3] at q3
    rw [hy4] at q4
    obtain ⟨K, rfl, bK⟩ := int_of q0
    obtain ⟨On, rfl, bO⟩ := int_of q1
    obtain ⟨n, rfl, bN⟩ := int_of q2
    obtain ⟨S, hS, _, hSz⟩ := DataW.trod_string Tryz.underlying9 q3
    obtain rfl : v3 = .string S := by simpa using hS
    have hb := bulk_fields (Nat.le_refl _) hy4
    obtain ⟨T, hT, rfl, hTz⟩ := DataW.trod_string Tryz.underlying9 q4
    obtain rfl : v4 = .string T := by simpa using hT
    refine ⟨⟨K, On, n, S.data.toList, T.data.toList⟩, ?_, ⟨bO, bN⟩, ?_⟩
    · simp only [ActD.cells, strOf_data]
    · simp only [Rows.uptoBulk] at hb ⊢
      omega
end
theorem open_acts {H : Type} {enc : TypeId × Value → H} {W : World} {base : Nat} {v : Value} {d : DataW H} {ps : List MemPlace} (hv : Value.okWide Tryz.prog W .any base 29 v) (h : DataW.Trod enc Tryz.prog W 0 (fun _ => true) true 29 v d ps) (hN : Rows.uptoBulk d ≤ 1048576) :
    ∃ (ao : Option Addr) (c : Nat) (os : List ActD), v = .slice ao os.length c ∧ os.length ≤ 1048576 ∧ (∀ o ∈ os, o.ok) ∧ actsAt W ao os ∧ sumT os ≤ 1048576 := by
  obtain ⟨a', l', c', rfl⟩ := okWide_slice Tryz.underlying29 hv
  obtain ⟨fuel, hf⟩ := h
  rcases DataW.trod_slice Tryz.underlying29 hf with ⟨h0, _⟩ | ⟨a, len, cap, elems, rest, n, _, hcs, hx, hb, hl, hm, hlen, hel, _, _⟩
  · simp [Value.cells] at h0
    obtain ⟨rfl, rfl, rfl⟩ := h0
    exact ⟨none, 0, [], rfl, by simp, by simp, .inl rfl, by simp [sumT]⟩
  · simp [Value.cells] at hcs
    obtain ⟨rfl, rfl, rfl⟩ := hcs
    have hd : d = .slice (elems.map (·.1)) (rest.map (·.1)) := congrArg Prod.fst hx
    rw [hd] at hN
    simp only [Rows.uptoBulk] at hN
    have hsum := bulk_sum (elems.map (·.1))
    have hlN : l' ≤ 1048576 := by have := hsum.1; rw [List.length_map] at this; omega
    have each : ∀ i, i < l' → ∃ r : ActD, (W.cells? 0 (a.add (i * 5)) 5 = some r.cells ∧ r.ok) ∧ ∀ h : i < (elems.map (·.1)).length, r.t.length ≤ Rows.uptoBulk (elems.map (·.1))[i] := by
      intro i hi
      have h1 := hel i hi
      rw [c32] at h1
      have h2 : elems[i]? = some elems[i] := by simp
      rw [h2, Option.bind_eq_some_iff] at h1
      obtain ⟨cs', h3, h4⟩ := h1
      obtain ⟨r, rfl, hr, hr2⟩ := open_act h4
      exact ⟨r, ⟨h3, hr⟩, fun h => by rw [List.getElem_map]; exact hr2⟩
    obtain ⟨l, hll, hp⟩ := list_of_each _ l' each
    refine ⟨some a, c', l, by rw [hll], by omega, fun r hr => ?_, ?_, ?_⟩
    · obtain ⟨i, hi, rfl⟩ := List.getElem_of_mem hr
      exact (hp i hi).1.2
    · by_cases h0 : l' = 0
      · exact .inl (List.length_eq_zero_iff.mp (by omega))
      · have cell : ∀ j (hj : j < l.length) i, i < 5 → W.cell? ((a.add (j * 5)).add i) = some (l[j].cells.getD i undef) := by
          intro j hj i hi
          obtain ⟨_, _, h3⟩ := World.cells?_some (hp j hj).1.1
          rw [h3 i hi, List.getD_eq_getElem?_getD, List.getElem?_eq_getElem (by exact hi)]
          rfl
        obtain ⟨g, off, spot⟩ := a
        have hs := World.cell?_spot (cell 0 (by omega) 0 (by omega))
        have hspot : spot = none := by simpa [Addr.add] using hs
        subst hspot
        refine .inr ⟨g, off, rfl, ?_, ?_⟩
        · have := World.block_lt_of_cell? W _ (cell 0 (by omega) 0 (by omega))
          simpa [Addr.add] using this
        · intro j hj i hi
          have := cell j hj i hi
          rw [add_plain, add_plain] at this
          exact this
    · unfold sumT
      have := sum_bulk (fun o : ActD => o.t.length) l (elems.map (·.1)) (by rw [List.length_map]; omega) (fun i hi hi' => (hp i hi).2 hi')
      omega
theorem disks_reads (os : Os) {H : Type} (enc : TypeId × Value → H) : ∃ places, DataW.whole enc Tryz.prog ((World.doorLaid Tryz.prog 400 os).forCall (fun _ _ => 0) ⟨#[], #[.slice none 0 0], []⟩).memory Tryz.f5.params.toList Rows.disksSpec.vars false #[Value.slice none 0 0].toList 8 = some ([.nil], [], places) :=
  ⟨[], by kernel_rfl⟩
theorem disks_lifted (os : Os) (started : os.Started) (H : Type) (enc : TypeId × Value → H) (F : Stop.Interp) :
    ReturnsInHanded {} Tryz.checked os 5 .any ((Rows.OpenSpec.upto Rows.disksSpec).preRow enc Tryz.prog Tryz.f5 Rows.disksUptoRow.domain false Rows.disksUptoRow.laid) (((Rows.OpenSpec.upto Rows.disksSpec).at F).post enc Tryz.prog Tryz.f5 false true false false) := by
  obtain ⟨places, hx⟩ := disks_reads os enc
  refine returnsInHanded_of_row (C := Tryz.checked) (s := Rows.OpenSpec.upto Rows.disksSpec) own started (by kernel_rfl) Tryz.func5
    (witness_row_atRef (enc := enc) (C := Tryz.checked) false (World.doorLaid Tryz.prog 400 os) #[.slice none 0 0] rfl (by kernel_rfl) (by kernel_rfl) (by kernel_rfl)
      (OpenSpec.preRow_of_cond 8 hx (by kernel_rfl) (fun k hk => by cases hk; kernel_rfl) (by kernel_rfl) (door_met os _))) ?_
  intro W base args ds gs before hval0 hW _ hcond _ hL _ _
  have hk : Rows.uptoSmall H (ds ++ gs) = true := hcond _ rfl
  have hval : ∀ (j : Nat) t v, Tryz.f5.params[j]? = some t → args[j]? = some v → Value.okWide Tryz.prog W .any base t v := hval0
  have hW' := hW
  obtain ⟨p, q, hA0, hV, rfl, hfz, hnd⟩ := hW
  have hA : DataW.TrodAll enc Tryz.prog W 0 (fun _ => true) true Tryz.f5.params.toList args.toList ds p := hA0
  rw [Tryz.params5] at hA hval
  obtain ⟨v0, vs0, d0, ds0, p0, q0, hargs, rfl, rfl, h0, r0⟩ := trodAll_cons hA
  obtain ⟨rfl, rfl, rfl⟩ := trodAll_nil r0
  obtain rfl : args = #[v0] := by cases args; simp_all
  obtain ⟨rfl, rfl⟩ := trodVars_none hV
  have hN := of_decide_eq_true hk
  simp only [List.append_nil, Rows.uptoBulkAll] at hN
  have h0k := h0
  obtain ⟨ao, c, ops, rfl, hl, hok, hos, hsum⟩ := open_acts (hval 0 29 v0 rfl rfl) h0 (by omega)
  clear hA0 hval0
  simp only [List.append_nil] at hW'
  refine (disks_any ao c ops W (tabs_of_laid hL) hos hok hl hsum).mono fun e W' ⟨he, hb⟩ => ?_
  subst he
  refine ⟨_, rfl, _, _, _, [], p0, [], hW', trodAll_mk1 (shut_bool Tryz.underlying4 _), trodAll_mk1 (Below.trod laidOut (by kernel_rfl) (of_decide_eq_true (by kernel_rfl)) h0k hb (fun x hx => ?_)), rfl, hb.frame _, fun h => by cases h⟩
  simpa using hW'.lt x (by simp [hx])
end Go.Proofs.YtdcainmlcpafbaaGreatDoor
