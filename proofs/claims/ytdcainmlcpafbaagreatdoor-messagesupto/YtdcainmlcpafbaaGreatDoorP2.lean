import Derived.Test.YtdcainmlcpafbaaGreatDoorP1
import Derived.Test.YtdcainmlcpafbaaGreatDoorE14
import Derived.Test.YtdcainmlcpafbaaGreatDoorCards
import Derived.Test.YtdcainmlcpafbaaGreatDoorTie
import Derived.Lib.SmallJoins
set_option linter.unusedSimpArgs false
set_option linter.unusedVariables false
set_option maxRecDepth 100000
namespace Go.Proofs.YtdcainmlcpafbaaGreatDoor
open Go.ChangeShapes Go.WideShapes Go.ChangeAt Go.RowKit

theorem c9 : Tryz.prog.cellsOf 9 = 1 := by kernel_rfl
theorem c22 : Tryz.prog.cellsOf 22 = 1 := by kernel_rfl
theorem c23 : Tryz.prog.cellsOf 23 = 1 := by kernel_rfl
theorem c25 : Tryz.prog.cellsOf 25 = 2 := by kernel_rfl
theorem c61 : Tryz.prog.cellsOf 93 = 5 := by kernel_rfl
theorem c89 : Tryz.prog.cellsOf 66 = 3 := by kernel_rfl
theorem wf_bd {k : Int} (h : (Lit.int .i64 k).wf = true) : -9223372036854775808 ≤ k ∧ k ≤ 9223372036854775807 := by
  simpa [Lit.wf, IntKind.min, IntKind.max, IntKind.bits, IntKind.signed] using h

theorem list_of_each {α : Type} (P : Nat → α → Prop) : ∀ n, (∀ i, i < n → ∃ r, P i r) → ∃ l : List α, l.length = n ∧ ∀ i (h : i < l.length), P i l[i] := by
  intro n
  induction n with
  | zero => intro _; exact ⟨[], rfl, fun i h => by simp at h⟩
  | succ n ih =>
    intro h
    obtain ⟨l, hl, hp⟩ := ih (fun i hi => h i (by omega))
    obtain ⟨r, hr⟩ := h n (by omega)
    refine ⟨l ++ [r], by simp [hl], fun i hi => ?_⟩
    by_cases hin : i < l.length
    · rw [List.getElem_append_left hin]; exact hp i hin
    · have : i = n := by simp at hi; omega
      subst this
      rw [List.getElem_append_right (by omega)]
      simpa [hl] using hr

section
variable {H : Type} {enc : TypeId × Value → H} {W : World} {base : Nat} {spare : Nat → Bool} {held : Bool}
theorem open_structs {α : Type} (cellsF : α → List Value) (ok : α → Prop) (c : Nat) (hc0 : 0 < c) {t e : TypeId} (ht : Tryz.prog.underlying t = some (.slice e)) (hc : Tryz.prog.cellsOf e = c) (hcl : ∀ r, (cellsF r).length = c)
    (hdec : ∀ n cs y, DataW.trod enc Tryz.prog W base spare held n e cs = some y → ∃ r, cs = cellsF r ∧ ok r) {fuel : Nat} {cs : List Value} {x : DataW H × List MemPlace} (h : DataW.trod enc Tryz.prog W base spare held fuel t cs = some x) :
    ∃ (ao : Option Addr) (cap : Nat) (rs : List α), cs = [.slice ao rs.length cap] ∧ rs.length ≤ maxLen ∧ (∀ r ∈ rs, ok r) ∧
      (rs = [] ∨ ∃ g off, ao = some ⟨g, off, none⟩ ∧ g < W.heap.size ∧ ∀ j (h : j < rs.length) i, i < c → W.cell? ⟨g, off + j * c + i, none⟩ = some ((cellsF rs[j]).getD i undef)) := by
  rcases DataW.trod_slice ht h with ⟨h0, _⟩ | ⟨a, len, cap, elems, rest, n, _, rfl, _, hb, hl, hm, hlen, hel, _, _⟩
  · exact ⟨none, 0, [], h0, by simp, by simp, .inl rfl⟩
  · have each : ∀ i, i < len → ∃ r, W.cells? base (a.add (i * c)) c = some (cellsF r) ∧ ok r := by
      intro i hi
      have h1 := hel i hi
      rw [hc] at h1
      have h2 : elems[i]? = some elems[i] := by simp
      rw [h2, Option.bind_eq_some_iff] at h1
      obtain ⟨cs', h3, h4⟩ := h1
      obtain ⟨r, rfl, hr⟩ := hdec n cs' _ h4
      exact ⟨r, h3, hr⟩
    obtain ⟨l, hll, hp⟩ := list_of_each _ len each
    refine ⟨some a, cap, l, by rw [hll], by omega, fun r hr => ?_, ?_⟩
    · obtain ⟨i, hi, rfl⟩ := List.getElem_of_mem hr
      exact (hp i hi).2
    · by_cases h0 : len = 0
      · exact .inl (List.length_eq_zero_iff.mp (by omega))
      · have cell : ∀ j (hj : j < l.length) i, i < c → W.cell? ((a.add (j * c)).add i) = some ((cellsF l[j]).getD i undef) := by
          intro j hj i hi
          obtain ⟨_, _, h3⟩ := World.cells?_some (hp j hj).1
          rw [h3 i hi, List.getD_eq_getElem?_getD, List.getElem?_eq_getElem (by rw [hcl]; exact hi)]
          rfl
        obtain ⟨g, off, spot⟩ := a
        have hs := World.cell?_spot (cell 0 (by omega) 0 hc0)
        have hspot : spot = none := by simpa [Addr.add] using hs
        subst hspot
        refine .inr ⟨g, off, rfl, ?_, ?_⟩
        · have := World.block_lt_of_cell? W _ (cell 0 (by omega) 0 hc0)
          simpa [Addr.add] using this
        · intro j hj i hi
          have := cell j hj i hi
          rw [add_plain, add_plain] at this
          exact this
theorem int_of {n : Nat} {u : Value} {y : DataW H × List MemPlace} (hy : DataW.trod enc Tryz.prog W base spare held n 3 [u] = some y) : ∃ k, u = .int .i64 k ∧ (-9223372036854775808 ≤ k ∧ k ≤ 9223372036854775807) := by
  obtain ⟨k, hk, _, hw⟩ := DataW.trod_int Tryz.underlying3 hy
  exact ⟨k, by simpa using hk, wf_bd hw⟩
theorem open_rec {n : Nat} {cs : List Value} {y : DataW H × List MemPlace} (h : DataW.trod enc Tryz.prog W base spare held n 66 cs = some y) : ∃ r : RecD, cs = r.cells ∧ r.ok := by
  obtain ⟨xs, m, _, _, hcl, hlen, hfs⟩ := DataW.trod_struct Tryz.underlying66 h
  have hlen : xs.length = 3 := hlen
  rw [c89] at hcl
  match cs, hcl with
  | [v0, v1, v2], _ =>
    have g : ∀ i, i < 3 → ∃ y, xs[i]? = some y := fun i hi => ⟨xs[i], by simp⟩
    have q0 : DataW.trod enc Tryz.prog W base spare held m 3 (([v0, v1, v2].drop 0).take (Tryz.prog.cellsOf 3)) = xs[0]? := hfs 0 _ rfl
    have q1 : DataW.trod enc Tryz.prog W base spare held m 3 (([v0, v1, v2].drop 1).take (Tryz.prog.cellsOf 3)) = xs[1]? := hfs 1 _ rfl
    have q2 : DataW.trod enc Tryz.prog W base spare held m 3 (([v0, v1, v2].drop 2).take (Tryz.prog.cellsOf 3)) = xs[2]? := hfs 2 _ rfl
    rw [c3] at q0 q1 q2
    obtain ⟨y0, hy0⟩ := g 0 (by omega)
    obtain ⟨y1, hy1⟩ := g 1 (by omega)
    obtain ⟨y2, hy2⟩ := g 2 (by omega)
    rw [hy0] at q0
    rw [hy1] at q1
    rw [hy2] at q2
    obtain ⟨E, rfl, bE⟩ := int_of q0
    obtain ⟨P, rfl, bP⟩ := int_of q1
    obtain ⟨S, rfl, bS⟩ := int_of q2
    exact ⟨⟨E, P, S⟩, rfl, bE, bP, bS⟩
theorem open_op {n : Nat} {cs : List Value} {y : DataW H × List MemPlace} (h : DataW.trod enc Tryz.prog W base spare held n 93 cs = some y) : ∃ o : OpD, cs = o.cells ∧ o.ok := by
  obtain ⟨xs, m, _, _, hcl, hlen, hfs⟩ := DataW.trod_struct Tryz.underlying93 h
  have hlen : xs.length = 5 := hlen
  rw [c61] at hcl
  match cs, hcl with
  | [v0, v1, v2, v3, v4], _ =>
    have g : ∀ i, i < 5 → ∃ y, xs[i]? = some y := fun i hi => ⟨xs[i], by simp⟩
    have q0 : DataW.trod enc Tryz.prog W base spare held m 3 (([v0, v1, v2, v3, v4].drop 0).take (Tryz.prog.cellsOf 3)) = xs[0]? := hfs 0 _ rfl
    have q1 : DataW.trod enc Tryz.prog W base spare held m 3 (([v0, v1, v2, v3, v4].drop 1).take (Tryz.prog.cellsOf 3)) = xs[1]? := hfs 1 _ rfl
    have q2 : DataW.trod enc Tryz.prog W base spare held m 3 (([v0, v1, v2, v3, v4].drop 2).take (Tryz.prog.cellsOf 3)) = xs[2]? := hfs 2 _ rfl
    have q3 : DataW.trod enc Tryz.prog W base spare held m 3 (([v0, v1, v2, v3, v4].drop 3).take (Tryz.prog.cellsOf 3)) = xs[3]? := hfs 3 _ rfl
    have q4 : DataW.trod enc Tryz.prog W base spare held m 9 (([v0, v1, v2, v3, v4].drop 4).take (Tryz.prog.cellsOf 9)) = xs[4]? := hfs 4 _ rfl
    rw [c3] at q0 q1 q2 q3
    rw [c9] at q4
    obtain ⟨y0, hy0⟩ := g 0 (by omega)
    obtain ⟨y1, hy1⟩ := g 1 (by omega)
    obtain ⟨y2, hy2⟩ := g 2 (by omega)
    obtain ⟨y3, hy3⟩ := g 3 (by omega)
    obtain ⟨y4, hy4⟩ := g 4 (by omega)
    rw [hy0] at q0
    rw [hy1] at q1
    rw [hy2] at q2
    rw [hy3] at q3
    rw [hy4] at q4
    obtain ⟨K, rfl, bK⟩ := int_of q0
    obtain ⟨A, rfl, bA⟩ := int_of q1
    obtain ⟨B, rfl, bB⟩ := int_of q2
    obtain ⟨C, rfl, bC⟩ := int_of q3
    obtain ⟨S, hS, _, hSz⟩ := DataW.trod_string Tryz.underlying9 q4
    obtain rfl : v4 = .string S := by simpa using hS
    exact ⟨⟨K, A, B, C, S⟩, rfl, bA, bB, hSz⟩
end

theorem open_ops {H : Type} {enc : TypeId × Value → H} {W : World} {base : Nat} {v : Value} {d : DataW H} {ps : List MemPlace} (hv : Value.okWide Tryz.prog W .any base 26 v) (h : DataW.Trod enc Tryz.prog W 0 (fun _ => true) true 26 v d ps) :
    ∃ (ao : Option Addr) (c : Nat) (os : List OpD), v = .slice ao os.length c ∧ os.length ≤ maxLen ∧ (∀ o ∈ os, o.ok) ∧ opsAt W ao os := by
  obtain ⟨a', l', c', rfl⟩ := okWide_slice Tryz.underlying26 hv
  obtain ⟨fuel, hf⟩ := h
  obtain ⟨ao, cap, rs, h1, h2, h3, h4⟩ := open_structs OpD.cells OpD.ok 5 (by omega) Tryz.underlying26 c61 (fun _ => rfl) (fun n cs y => open_op) hf
  simp [Value.cells] at h1
  obtain ⟨rfl, rfl, rfl⟩ := h1
  exact ⟨a', c', rs, rfl, h2, h3, h4⟩

theorem open_goods {H : Type} {enc : TypeId × Value → H} {W : World} {base : Nat} {v : Value} {d : DataW H} {ps : List MemPlace} (hv : Value.okWide Tryz.prog W .any base 25 v) (h : DataW.Trod enc Tryz.prog W 0 (fun _ => true) true 25 v d ps) :
    ∃ (gm : Value) (m : Nat) (y : DataW H × List MemPlace) (ao : Option Addr) (c : Nat) (rs : List RecD), v = .agg #[gm, .slice ao rs.length c] ∧ DataW.trod enc Tryz.prog W 0 (fun _ => true) true m 22 [gm] = some y ∧ rs.length ≤ maxLen ∧ (∀ r ∈ rs, r.ok) ∧ recsAt W ao rs := by
  obtain ⟨cs, rfl, hsz⟩ := okWide_struct Tryz.underlying25 hv
  rw [c25] at hsz
  obtain ⟨l⟩ := cs
  simp only [List.size_toArray] at hsz
  match l, hsz with
  | [v0, v1], _ =>
    obtain ⟨fuel, hf⟩ := h
    obtain ⟨xs, n, _, _, _, hlen, hfs⟩ := DataW.trod_struct Tryz.underlying25 hf
    have hlen : xs.length = 2 := hlen
    have g : ∀ i, i < 2 → ∃ y, xs[i]? = some y := fun i hi => ⟨xs[i], by simp⟩
    have q0 : DataW.trod enc Tryz.prog W 0 (fun _ => true) true n 22 (([v0, v1].drop 0).take (Tryz.prog.cellsOf 22)) = xs[0]? := hfs 0 _ rfl
    have q1 : DataW.trod enc Tryz.prog W 0 (fun _ => true) true n 23 (([v0, v1].drop 1).take (Tryz.prog.cellsOf 23)) = xs[1]? := hfs 1 _ rfl
    rw [c22] at q0
    rw [c23] at q1
    obtain ⟨y0, hy0⟩ := g 0 (by omega)
    obtain ⟨y1, hy1⟩ := g 1 (by omega)
    rw [hy0] at q0
    rw [hy1] at q1
    obtain ⟨ao, cap, rs, h1, h2, h3, h4⟩ := open_structs RecD.cells RecD.ok 3 (by omega) Tryz.underlying23 c89 (fun _ => rfl) (fun n cs y => open_rec) q1
    obtain rfl : v1 = .slice ao rs.length cap := by simpa using h1
    exact ⟨v0, n, y0, ao, cap, rs, rfl, q0, h2, h3, h4⟩

theorem followers_lifted (os : Os) (started : os.Started) (H : Type) (enc : TypeId × Value → H) :
    ReturnsInHanded {} Tryz.checked os 4 .any (fun w args => (Rows.followersSpec.pre enc Tryz.prog Tryz.f4 [] false w args ∧ laidMetH Tryz.prog laid2 w) ∧ sizedMet enc Tryz.prog Tryz.f4 (OpenSpec.ofChange Rows.followersSpec) false w args)
      (Rows.followersSpec.post enc Tryz.prog Tryz.f4 false true false false) := by
  refine returnsInHanded_of_change_and (C := Tryz.checked) (X := fun w _ => laidMetH Tryz.prog laid2 w) (fun _ _ _ hh h => h.of_heap hh) own started (by kernel_rfl) Tryz.func4
    (ChangeSpec.witness_shaped (enc := enc) (C := Tryz.checked) (os := os) (X := fun w _ => laidMetH Tryz.prog laid2 w) false (World.doorLaid Tryz.prog 400 os) #[.agg #[.slice none 0 0, .slice none 0 0], .slice none 0 0] 8 rfl (World.shaped_of_RefB (by kernel_rfl) (by kernel_rfl)) (by kernel_rfl) (by kernel_rfl) (by kernel_rfl) (door_met os _)) ?_
  intro W base args ds gs before hval0 hW _ _ hL _
  have hval : ∀ (j : Nat) t v, Tryz.f4.params[j]? = some t → args[j]? = some v → Value.okWide Tryz.prog W .any base t v := hval0
  have hW' := hW
  obtain ⟨p, q, hA0, hV, rfl, hfz, hnd⟩ := hW
  have hA : DataW.TrodAll enc Tryz.prog W 0 (fun _ => true) true Tryz.f4.params.toList args.toList ds p := hA0
  rw [Tryz.params4] at hA hval
  obtain ⟨v0, v1, d0, d1, p0, p1, rfl, rfl, rfl, h0, h1⟩ := trodAll_two hA
  obtain ⟨rfl, rfl⟩ := trodVars_none hV
  have h0k := h0
  have h1k := h1
  obtain ⟨gm, _, _, ar, cr, rs, rfl, _, hlr, hrok, hrs⟩ := open_goods (hval 0 25 v0 rfl rfl) h0
  obtain ⟨ao, c, ops, rfl, hl, hok, hos⟩ := open_ops (hval 1 26 v1 rfl rfl) h1
  clear hA0 hval0
  simp only [List.append_nil] at hW'
  refine (followers_any gm ar cr rs ao c ops W hl hok hos hlr hrok hrs).mono fun e W' ⟨he, hb⟩ => ?_
  subst he
  refine ⟨_, rfl, _, _, _, [], p0 ++ p1, [], hW', trodAll_mk1 (shut_bool Tryz.underlying4 _), trodAll_mk2 (Below.trod laidOut (by kernel_rfl) (of_decide_eq_true (by kernel_rfl)) h0k hb (fun x hx => ?_)) (Below.trod laidOut (by kernel_rfl) (of_decide_eq_true (by kernel_rfl)) h1k hb (fun x hx => ?_)), rfl, hb.frame _, fun h => by cases h⟩
  · simpa using hW'.lt x (by simp [hx])
  · simpa using hW'.lt x (by simp [hx])

end Go.Proofs.YtdcainmlcpafbaaGreatDoor
