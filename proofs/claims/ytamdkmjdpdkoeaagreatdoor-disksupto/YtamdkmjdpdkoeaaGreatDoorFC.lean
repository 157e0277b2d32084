import Derived.Test.YtamdkmjdpdkoeaaGreatDoorFB
import Derived.Test.YtamdkmjdpdkoeaaGreatDoorG4
set_option linter.unusedSimpArgs false
set_option linter.unusedVariables false
namespace Go.Proofs.YtamdkmjdpdkoeaaGreatDoor
open Go.RowKit

theorem file_get (fs : List FD) (j : Nat) : (fs.flatMap FD.cells)[j]? = if h : j / 3 < fs.length then some (fs[j / 3].cells.getD (j % 3) undef) else none := by
  by_cases h : j / 3 < fs.length
  · rw [dif_pos h]
    have := file_at fs (j / 3) h (j % 3) (by omega)
    rwa [show j / 3 * 3 + j % 3 = j by omega] at this
  · rw [dif_neg h, List.getElem?_eq_none (by rw [file_len]; omega)]
theorem flat_set (fs : List FD) (i : Nat) (h : i < fs.length) (k : Nat) (hk : k < 3) (f' : FD) (ho : ∀ k', k' < 3 → k' ≠ k → f'.cells.getD k' undef = fs[i].cells.getD k' undef) :
    (fs.flatMap FD.cells).set (i * 3 + k) (f'.cells.getD k undef) = (fs.set i f').flatMap FD.cells := by
  apply List.ext_getElem?
  intro j
  rw [file_get (fs.set i f') j]
  by_cases hj : j = i * 3 + k
  · subst hj
    rw [List.getElem?_set_self (by rw [file_len]; omega)]
    have e1 : (i * 3 + k) / 3 = i := by omega
    have e2 : (i * 3 + k) % 3 = k := by omega
    rw [dif_pos (by rw [List.length_set, e1]; exact h)]
    simp only [e1, e2, List.getElem_set_self]
  · rw [List.getElem?_set_ne (by omega), file_get fs j]
    by_cases hl : j / 3 < fs.length
    · rw [dif_pos hl, dif_pos (by rw [List.length_set]; exact hl)]
      by_cases hi : j / 3 = i
      · have hm : j % 3 ≠ k := by omega
        have := ho (j % 3) (by omega) hm
        simp only [hi, List.getElem_set_self]
        rw [this]
      · rw [List.getElem_set_ne (by omega)]
    · rw [dif_neg hl, dif_neg (by rw [List.length_set]; exact hl)]
theorem DS.poke {ty e : TypeId} {low : Nat} {w : World} {S g c : Nat} {fs : List FD} {left : Int} (h : DS ty e low w S (.slice (some ⟨g, 0, none⟩) fs.length c) fs left) (hSg : S ≠ g) (i : Nat) (hi : i < fs.length) (k : Nat) (hk : k < 3) (f' : FD) (ho : ∀ k', k' < 3 → k' ≠ k → f'.cells.getD k' undef = fs[i].cells.getD k' undef) :
    DS ty e low (w.setCell ⟨g, i * 3 + k, none⟩ (f'.cells.getD k undef)) S (.slice (some ⟨g, 0, none⟩) fs.length c) (fs.set i f') left := by
  refine ⟨((But.setCell w ⟨g, i * 3 + k, none⟩ _).block S hSg).trans h.st, ?_⟩
  have := (h.row.stored (i * 3 + k) (f'.cells.getD k undef)).1
  rw [flat_set fs i hi k hk f' ho] at this
  rw [List.length_set]
  exact this
theorem Kpt.mono {A B : Nat → Prop} {w w' : World} (h : Kpt A w w') (hAB : ∀ b, A b → B b) : Kpt B w w' := ⟨h.os, h.tape, h.output, h.size, fun k hk hB => h.block k hk (fun hA => hB (hAB k hA))⟩
theorem row_type {w : World} {base e n g c : Nat} {xs : List Value} (h : w.ownsRow base e 3 (.slice (some ⟨g, 0, none⟩) n c) n xs) : ∃ cur, w.heap[g]? = some (.cells cur e (0, 0)) := by
  rcases h.2 with ⟨h1, _⟩ | ⟨g', cap, cur, h1, _, hg, _⟩
  · cases h1
  · cases h1; exact ⟨cur, hg⟩
theorem Did.drew {ty e : TypeId} {low S : Nat} {w w' : World} {v : Value} {fs' : List FD} {left' : Int} (h : Did ty e low w S v fs' left' w') : Did ty e low w S v fs' left' w'.drew := by
  obtain ⟨v', h1, h2, h3⟩ := h
  exact ⟨v', h1.drew, ⟨h2.os, h2.tape, h2.output, h2.size, h2.block⟩, h3⟩
def aSyn (fs : List FD) (nm : List UInt8) : List FD := match fIdx fs nm with
  | none => fs
  | some i => fs.set i ⟨(fs.getD i noFile).n, (fs.getD i noFile).d, (fs.getD i noFile).d.length⟩
def aApp (fs : List FD) (nm dt : List UInt8) : List FD := match fIdx fs nm with
  | none => fs ++ [⟨nm, dt, 0⟩]
  | some i => fs.set i ⟨(fs.getD i noFile).n, (fs.getD i noFile).d ++ dt, (fs.getD i noFile).s⟩

set_option maxHeartbeats 2000000 in
set_option maxRecDepth 20000 in
theorem async_zero (low D H S : Nat) (v : Value) (fs : List FD) (nm : List UInt8) (w : World) (hH : Hands w D H S) (h : DS 98 107 low w S v fs 0) :
    Calls Tryz.prog 34 #[.pointer (some ⟨D, 0, none⟩), .string (strOf nm)] w fun r w' => r = .returned (.bool false) ∧ Did 98 107 low w S v fs (stepL 0) w' := by
  have cd := hH.cd
  clear hH
  go_enter Tryz.func34, Tryz.ntmps34
  go_wp2_with fail
  refine (astep_any low S v fs 0 w h (by omega)).mono ?_
  rintro r w1 ⟨rfl, hw1⟩
  obtain ⟨h1, hk1, hs1⟩ := step_did h (by decide) w1 hw1
  clear hw1
  rw [show decide ((0 : Int) ≠ 0) = false from rfl]
  have HD : Hid _ := Did.same h1 hk1
  clear h1 hk1 h
  go_wp2
  go_ret
  exact ⟨rfl, HD.out⟩

set_option maxHeartbeats 4000000 in
set_option maxRecDepth 20000 in
theorem async_go (low D H S : Nat) (v : Value) (fs : List FD) (left : Int) (nm : List UInt8) (w : World) (hH : Hands w D H S) (hDS : D ≠ S) (h : DS 98 107 low w S v fs left) (h0 : left ≠ 0) (hb : -9223372036854775808 ≤ left ∧ left ≤ 9223372036854775807) (hl : fs.length ≤ 3000000000) (hlow : low ≤ w.heap.size) (hdl : ∀ f ∈ fs, f.d.length ≤ 3000000000) :
    Calls Tryz.prog 34 #[.pointer (some ⟨D, 0, none⟩), .string (strOf nm)] w fun r w' => r = .returned (.bool true) ∧ Did 98 107 low w S v (aSyn fs nm) (stepL left) w' := by
  have cd := hH.cd
  have hDlt : D < w.heap.size := (Array.getElem?_eq_some_iff.1 hH.d).1
  have HD0 := hH.d
  clear hH
  go_enter Tryz.func34, Tryz.ntmps34
  go_wp2_with fail
  refine (astep_any low S v fs left w h hb).mono ?_
  rintro r w1 ⟨rfl, hw1⟩
  obtain ⟨h1, hk1, hs1⟩ := step_did h (by decide) w1 hw1
  clear hw1
  rw [show decide (left ≠ 0) = true by simpa using h0]
  have hd1 : w1.heap[D]? = some (.cells #[.pointer (some ⟨S, 0, none⟩)] 100 (0, 0)) := (hk1.block D hDlt hDS).trans HD0
  have cd1 : w1.cell? ⟨D, 0, none⟩ = some (.pointer (some ⟨S, 0, none⟩)) := by simp [World.cell?, hd1]
  have cs1 := h1.cell 0
  have fs1 := h1.free 0
  simp at cs1
  have H1 : Hid (DS 98 107 low w1 S v fs (stepL left)) := h1
  have HK : Hid (Kpt (fun b => b = S) w w1) := hk1
  have HD1 : Hid _ := hd1
  have hS1 := h1.lt
  have hD1 : D < w1.heap.size := by omega
  clear h h1 hk1 cd HD0 hd1
  go_wp2_with fail
  refine (find_any low S v fs (stepL left) nm w1 H1.out (by omega)).mono ?_
  rintro r w' ⟨rfl, hh⟩
  replace hh := hh.symm
  subst hh
  rcases fNum_bd fs nm with ⟨e1, e2⟩ | ⟨i, e1, e2, e3⟩
  · have HR : Hid (aSyn fs nm = fs) := by unfold Hid aSyn; rw [e2]
    rw [e1]
    have HD : Hid (Did 98 107 low w S v (aSyn fs nm) (stepL left) w1) := by unfold Hid; rw [HR.out]; exact Did.same H1.out HK.out
    clear e1 e2
    go_wp2
    go_ret
    exact ⟨rfl, HD.out⟩
  · have hdi := hdl fs[i] (List.getElem_mem e3)
    rw [e1]
    have eD : fs.getD i noFile = fs[i] := by rw [List.getD_eq_getElem?_getD, List.getElem?_eq_getElem e3, Option.getD_some]
    obtain ⟨a, c, hv, hrow⟩ := row3 H1.out.row
    subst hv
    obtain ⟨g, ha, _, hgl, hcc⟩ := hrow.resolve_left (by omega)
    subst ha
    obtain ⟨cur, hgt⟩ := row_type H1.out.row
    have hSg : S ≠ g := by intro hh; subst hh; rw [H1.out.st] at hgt; simp at hgt
    have hDg : D ≠ g := by intro hh; subst hh; rw [HD1.out] at hgt; simp at hgt
    have j0 := hcc _ _ (file_at fs i e3 0 (by omega))
    have j1 := hcc _ _ (file_at fs i e3 1 (by omega))
    have j2 := hcc _ _ (file_at fs i e3 2 (by omega))
    simp [FD.cells] at j0 j1 j2
    have k1 := H1.out.row.frozenAt (i * 3 + 1)
    have k2 := H1.out.row.frozenAt (i * 3 + 2)
    have e3i : (i : Int) < (fs.length : Int) := by omega
    have HR : Hid (aSyn fs nm = fs.set i ⟨fs[i].n, fs[i].d, fs[i].d.length⟩) := by unfold Hid aSyn; rw [e2]; simp only [eD]
    have hp := H1.out.poke hSg i e3 2 (by omega) ⟨fs[i].n, fs[i].d, fs[i].d.length⟩ (by intro k' h1 h2; rcases (show k' = 0 ∨ k' = 1 by omega) with rfl | rfl <;> rfl)
    have HD : Hid (Did 98 107 low w S (.slice (some ⟨g, 0, none⟩) fs.length c) (aSyn fs nm) (stepL left) (w1.setCell ⟨g, i * 3 + 2, none⟩ (.int .i64 (fs[i].d.length : Int)))) := by
      unfold Hid
      rw [HR.out]
      exact Did.pre HK.out ⟨_, hp, (Kpt.set w1 g (i * 3 + 2) _).mono (fun b hb => .inr (by rw [hb]; rfl)), fun g' hg' => .inl hg'⟩
    have hsz : (strOf fs[i].d).size = fs[i].d.length := strOf_size _
    clear hp hcc hrow e1 e2 hgt hdl eD
    generalize fs[i] = F at *
    have z1 : (w1.setCell ⟨g, i * 3 + 2, none⟩ (.int .i64 (F.d.length : Int))).drew.cell? ⟨D, 0, none⟩ = some (.pointer (some ⟨S, 0, none⟩)) := (World.cell?_setCell_other _ _ _ _ (by intro hh; have h9 := congrArg Addr.block hh; simp at h9; omega)).trans cd1
    have z2 : (w1.setCell ⟨g, i * 3 + 2, none⟩ (.int .i64 (F.d.length : Int))).drew.cell? ⟨S, 0, none⟩ = some (.slice (some ⟨g, 0, none⟩) fs.length c) := (World.cell?_setCell_other _ _ _ _ (by intro hh; have h9 := congrArg Addr.block hh; simp at h9; omega)).trans cs1
    have z3 : (w1.setCell ⟨g, i * 3 + 2, none⟩ (.int .i64 (F.d.length : Int))).drew.cell? ⟨g, i * 3 + 1, none⟩ = some (.string (strOf F.d)) := (World.cell?_setCell_other _ _ _ _ (by intro hh; have h9 := congrArg Addr.off hh; simp at h9)).trans j1
    go_wp2_with fail
    go_region_held3 (fun w' => w'.cell? ⟨D, 0, none⟩ = some (.pointer (some ⟨S, 0, none⟩)) ∧ w'.cell? ⟨S, 0, none⟩ = some (.slice (some ⟨g, 0, none⟩) fs.length c) ∧ w'.cell? ⟨g, i * 3 + 1, none⟩ = some (.string (strOf F.d))) (first | (exact ⟨z1, z2, z3⟩) | go_keep) (fail)
    all_goals go_wp2
    all_goals go_ret
    all_goals exact ⟨rfl, HD.out.drew⟩


set_option maxHeartbeats 2000000 in
set_option maxRecDepth 20000 in
theorem aappend_zero (low D H S : Nat) (v : Value) (fs : List FD) (nm dt : List UInt8) (w : World) (hH : Hands w D H S) (h : DS 98 107 low w S v fs 0) :
    Calls Tryz.prog 32 #[.pointer (some ⟨D, 0, none⟩), .string (strOf nm), .string (strOf dt)] w fun r w' => r = .returned (.bool false) ∧ Did 98 107 low w S v fs (stepL 0) w' := by
  have cd := hH.cd
  clear hH
  go_enter Tryz.func32, Tryz.ntmps32
  go_wp2_with fail
  refine (astep_any low S v fs 0 w h (by omega)).mono ?_
  rintro r w1 ⟨rfl, hw1⟩
  obtain ⟨h1, hk1, hs1⟩ := step_did h (by decide) w1 hw1
  clear hw1
  rw [show decide ((0 : Int) ≠ 0) = false from rfl]
  have HD : Hid _ := Did.same h1 hk1
  clear h1 hk1 h
  go_wp2
  go_ret
  exact ⟨rfl, HD.out⟩

set_option maxHeartbeats 4000000 in
set_option maxRecDepth 20000 in
theorem aappend_go (low D H S : Nat) (v : Value) (fs : List FD) (left : Int) (nm dt : List UInt8) (w : World) (hH : Hands w D H S) (hDS : D ≠ S) (h : DS 98 107 low w S v fs left) (h0 : left ≠ 0) (hb : -9223372036854775808 ≤ left ∧ left ≤ 9223372036854775807) (hl : fs.length ≤ 3000000000) (hlow : low ≤ w.heap.size) (hcat : ∀ f ∈ fs, f.d.length + dt.length ≤ 3000000000) (hdt : dt.length ≤ 3000000000) :
    Calls Tryz.prog 32 #[.pointer (some ⟨D, 0, none⟩), .string (strOf nm), .string (strOf dt)] w fun r w' => r = .returned (.bool true) ∧ Did 98 107 low w S v (aApp fs nm dt) (stepL left) w' := by
  have cd := hH.cd
  have hDlt : D < w.heap.size := (Array.getElem?_eq_some_iff.1 hH.d).1
  have HD0 := hH.d
  clear hH
  go_enter Tryz.func32, Tryz.ntmps32
  go_wp2_with fail
  refine (astep_any low S v fs left w h hb).mono ?_
  rintro r w1 ⟨rfl, hw1⟩
  obtain ⟨h1, hk1, hs1⟩ := step_did h (by decide) w1 hw1
  clear hw1
  rw [show decide (left ≠ 0) = true by simpa using h0]
  have hd1 : w1.heap[D]? = some (.cells #[.pointer (some ⟨S, 0, none⟩)] 100 (0, 0)) := (hk1.block D hDlt hDS).trans HD0
  have cd1 : w1.cell? ⟨D, 0, none⟩ = some (.pointer (some ⟨S, 0, none⟩)) := by simp [World.cell?, hd1]
  have cs1 := h1.cell 0
  have fs1 := h1.free 0
  simp at cs1
  have H1 : Hid (DS 98 107 low w1 S v fs (stepL left)) := h1
  have HK : Hid (Kpt (fun b => b = S) w w1) := hk1
  have HD1 : Hid _ := hd1
  have hS1 := h1.lt
  have hD1 : D < w1.heap.size := by omega
  clear h h1 hk1 cd HD0 hd1
  go_wp2_with fail
  refine (find_any low S v fs (stepL left) nm w1 H1.out (by omega)).mono ?_
  rintro r w' ⟨rfl, hh⟩
  replace hh := hh.symm
  subst hh
  rcases fNum_bd fs nm with ⟨e1, e2⟩ | ⟨i, e1, e2, e3⟩
  · have HR : Hid (aApp fs nm dt = fs ++ [⟨nm, dt, 0⟩]) := by unfold Hid aApp; rw [e2]
    rw [e1]
    obtain ⟨i0, hi0, hz0, hz1, hz2⟩ := info_parts info76
    obtain ⟨a, c, hv, hrow⟩ := row3 H1.out.row
    subst hv
    have hoff := H1.out.off (by decide)
    have hoffD : Value.ownBlock (.slice a fs.length c) ≠ some D := by
      intro hh
      rcases H1.out.row.2 with ⟨h1, _⟩ | ⟨g', cap, cur, h1, _, hg, _⟩
      · rw [h1] at hh; simp [Value.ownBlock] at hh
      · rw [h1] at hh
        simp [Value.ownBlock] at hh
        subst hh
        rw [HD1.out] at hg
        simp at hg
    have q1 : (w1.alloc (Obj.cells #[Value.string (strOf nm), Value.string ⟨#[]⟩, Value.int IntKind.i64 0] 107)).drew.cell? ⟨S, 0, none⟩ = some (.slice a fs.length c) := (World.cell?_alloc_past _ _ _ hS1).trans cs1
    have q2 : (w1.alloc (Obj.cells #[Value.string (strOf nm), Value.string ⟨#[]⟩, Value.int IntKind.i64 0] 107)).drew.cell? ⟨D, 0, none⟩ = some (.pointer (some ⟨S, 0, none⟩)) := (World.cell?_alloc_past _ _ _ hD1).trans cd1
    clear e1 e2 hrow hcat
    go_wp2_with fail
    go_cut [7] from 22 to 38 (fun x wc => x = .int .i64 (-1) ∧ ∃ v2, DS 98 107 low wc S v2 (fs ++ [⟨nm, [], 0⟩]) (stepL left) ∧ Kpt (fun b => b = S ∨ some b = Value.ownBlock (.slice a fs.length c)) w1 wc ∧ (∀ g, v2.ownBlock = some g → Value.ownBlock (.slice a fs.length c) = some g ∨ w1.heap.size ≤ g) ∧ wc.heap[D]? = w1.heap[D]?)
    case first =>
      go_region_law (refine step_append_keep rfl (.tmp 32) (.tmp 35) 96 rfl low 107 i0 (.agg #[.string ⟨#[]⟩, .string ⟨#[]⟩, .int .i64 0]) 3 40 Tryz.underlying96 hi0 hz0 hz1 hz2 rfl (by decide) (.slice a fs.length c) fs.length (fs.flatMap FD.cells) (by simp [Act.eval]) (by exact (World.ownsRow.alloc H1.out.row _).drew) ⟨w1.heap.size, 0, none⟩ 1 1 [Value.string (strOf nm), Value.string ⟨#[]⟩, Value.int IntKind.i64 0] (by omega) (by simp [Act.eval]) rfl (by intro j u hu; rw [Go.WideShapes.add_plain]; refine (World.cell?_alloc_at _ _ _ _ rfl).trans ?_; simpa using hu) (by intro u hu; simp at hu; rcases hu with rfl | rfl | rfl <;> rfl) (by unfold maxLen; omega) (by omega) (by show _ ≤ (World.alloc _ _).heap.size; simp; omega) ?_; intro v' w2 ho2 hg2 hloc; obtain ⟨va, vc, rfl⟩ := shape_of ho2; have hSb : w2.heap[S]? = w1.heap[S]? := (hg2.block S (by show _ < (World.alloc _ _).heap.size; simp; omega) (Ne.symm hoff)).trans (heap_alloc_old w1 _ hS1); have hDb : w2.heap[D]? = w1.heap[D]? := (hg2.block D (by show _ < (World.alloc _ _).heap.size; simp; omega) (Ne.symm hoffD)).trans (heap_alloc_old w1 _ hD1); have ks : w2.cell? ⟨S, 0, none⟩ = some (.slice a fs.length c) := (World.cell?_of_block (w := w1) (a := ⟨S, 0, none⟩) hSb).trans cs1; have kf : w2.frozen? ⟨S, 0, none⟩ = false := (World.frozen?_of_block (w := w1) (a := ⟨S, 0, none⟩) hSb).trans fs1; have kd : w2.cell? ⟨D, 0, none⟩ = some (.pointer (some ⟨S, 0, none⟩)) := (World.cell?_of_block (w := w1) (a := ⟨D, 0, none⟩) hDb).trans cd1)
      all_goals go_wp2_with fail
      all_goals go_meet
      all_goals
        refine ⟨rfl, .slice va (fs.length + 1) vc, DS.store (low := low) (low' := low) (hSb.trans H1.out.st) ?_ (Nat.le_refl _) ?_, ?_, ?_, ?_⟩
        · rw [List.length_append, List.flatMap_append]
          simp only [List.length_cons, List.length_nil, List.flatMap_cons, List.flatMap_nil, List.append_nil]
          exact ho2
        · intro hh
          obtain ⟨g', e1, e2⟩ := hloc
          rw [e1] at hh
          have hgS : g' = S := by simpa using hh
          subst hgS
          rcases e2 with e2 | ⟨e2, _⟩
          · exact hoff e2
          · have : (World.alloc w1 (Obj.cells #[Value.string (strOf nm), Value.string ⟨#[]⟩, Value.int IntKind.i64 0] 107)).heap.size ≤ g' := e2
            simp at this; omega
        · have k1 : Kpt (fun b => b = S ∨ some b = Value.ownBlock (.slice a fs.length c)) w1 w2 := ⟨hg2.os, hg2.tape, hg2.output, Nat.le_trans (by show _ ≤ (World.alloc _ _).heap.size; simp) hg2.size, fun k hk hA => (hg2.block k (by show _ < (World.alloc _ _).heap.size; simp; omega) (fun hh => hA (.inr hh))).trans (heap_alloc_old w1 _ hk)⟩
          exact k1.trans (Kpt.set w2 S 0 _) (fun b _ hb => .inl hb)
        · intro g hg
          obtain ⟨g', e1, e2⟩ := hloc
          rw [e1] at hg
          have hgg : g' = g := by simpa using hg
          subst hgg
          rcases e2 with e2 | ⟨e2, _⟩
          · exact .inl e2
          · right
            have : (World.alloc w1 (Obj.cells #[Value.string (strOf nm), Value.string ⟨#[]⟩, Value.int IntKind.i64 0] 107)).heap.size ≤ g' := e2
            simp at this; omega
        · exact ((But.setCell w2 ⟨S, 0, none⟩ _).block D hDS).trans hDb
    case rest =>
    obtain ⟨rfl, v2, hd2, hk2, hown2, hDb2⟩ := hcut
    have hl2 : (fs ++ [(⟨nm, [], 0⟩ : FD)]).length = fs.length + 1 := by simp
    have e3 : fs.length < (fs ++ [(⟨nm, [], 0⟩ : FD)]).length := by omega
    have eF : (fs ++ [(⟨nm, [], 0⟩ : FD)])[fs.length] = ⟨nm, [], 0⟩ := by simp
    have HSet : Hid ((fs ++ [(⟨nm, [], 0⟩ : FD)]).set fs.length ⟨nm, dt, 0⟩ = fs ++ [⟨nm, dt, 0⟩]) := by simp [Hid]
    obtain ⟨a2, c2, hv2, hrow2⟩ := row3 hd2.row
    subst hv2
    obtain ⟨g, ha, _, hgl, hcc⟩ := hrow2.resolve_left (by omega)
    subst ha
    obtain ⟨cur, hgt⟩ := row_type hd2.row
    have hSg : S ≠ g := by intro hh; subst hh; rw [hd2.st] at hgt; simp at hgt
    have hp := hd2.poke hSg fs.length e3 1 (by omega) ⟨nm, dt, 0⟩ (by intro k' h1 h2; rw [eF]; rcases (show k' = 0 ∨ k' = 2 by omega) with rfl | rfl <;> rfl)
    rw [HSet.out] at hp
    have j1 := hcc _ _ (file_at _ fs.length e3 1 (by omega))
    rw [eF] at j1
    have k1 := hd2.row.frozenAt (fs.length * 3 + 1)
    have cs2 := hd2.cell 0
    simp at cs2
    have cd2 : wc.cell? ⟨D, 0, none⟩ = some (.pointer (some ⟨S, 0, none⟩)) := (World.cell?_of_block (w := w1) (a := ⟨D, 0, none⟩) hDb2).trans cd1
    have ee : strOf [] ++ strOf dt = strOf dt := by rw [strOf_append]; rfl
    have HD : Hid (Did 98 107 low w S (.slice a fs.length c) (aApp fs nm dt) (stepL left) (wc.setCell ⟨g, fs.length * 3 + 1, none⟩ (.string (strOf [] ++ strOf dt)))) := by
      unfold Hid
      rw [HR.out, ee]
      refine Did.pre HK.out ⟨_, hp, hk2.trans (Kpt.set wc g (fs.length * 3 + 1) _) (fun b hb1 hb2 => ?_), fun g' hg' => hown2 g' hg'⟩
      subst hb2
      rcases hown2 b rfl with hh | hh
      · exact .inr hh.symm
      · omega
    have hsz : (strOf ([] : List UInt8)).size + (strOf dt).size ≤ 3000000000 := by rw [strOf_size, strOf_size]; simpa using hdt
    simp [FD.cells] at j1
    clear hp hd2 hcc hrow2 hgt hown2 hk2 hDb2 eF e3 ee
    go_wp2
    go_ret
    exact ⟨rfl, HD.out⟩
  · have hdi := hcat fs[i] (List.getElem_mem e3)
    rw [e1]
    have eD : fs.getD i noFile = fs[i] := by rw [List.getD_eq_getElem?_getD, List.getElem?_eq_getElem e3, Option.getD_some]
    obtain ⟨a, c, hv, hrow⟩ := row3 H1.out.row
    subst hv
    obtain ⟨g, ha, _, hgl, hcc⟩ := hrow.resolve_left (by omega)
    subst ha
    obtain ⟨cur, hgt⟩ := row_type H1.out.row
    have hSg : S ≠ g := by intro hh; subst hh; rw [H1.out.st] at hgt; simp at hgt
    have hDg : D ≠ g := by intro hh; subst hh; rw [HD1.out] at hgt; simp at hgt
    have j0 := hcc _ _ (file_at fs i e3 0 (by omega))
    have j1 := hcc _ _ (file_at fs i e3 1 (by omega))
    have j2 := hcc _ _ (file_at fs i e3 2 (by omega))
    simp [FD.cells] at j0 j1 j2
    have k1 := H1.out.row.frozenAt (i * 3 + 1)
    have k2 := H1.out.row.frozenAt (i * 3 + 2)
    have e3i : (i : Int) < (fs.length : Int) := by omega
    have HR : Hid (aApp fs nm dt = fs.set i ⟨fs[i].n, fs[i].d ++ dt, fs[i].s⟩) := by unfold Hid aApp; rw [e2]; simp only [eD]
    have hp := H1.out.poke hSg i e3 1 (by omega) ⟨fs[i].n, fs[i].d ++ dt, fs[i].s⟩ (by intro k' h1 h2; rcases (show k' = 0 ∨ k' = 2 by omega) with rfl | rfl <;> rfl)
    have HD : Hid (Did 98 107 low w S (.slice (some ⟨g, 0, none⟩) fs.length c) (aApp fs nm dt) (stepL left) (w1.setCell ⟨g, i * 3 + 1, none⟩ (.string (strOf fs[i].d ++ strOf dt)))) := by
      unfold Hid
      rw [HR.out, strOf_append]
      exact Did.pre HK.out ⟨_, hp, (Kpt.set w1 g (i * 3 + 1) _).mono (fun b hb => .inr (by rw [hb]; rfl)), fun g' hg' => .inl hg'⟩
    have hsz : (strOf fs[i].d).size + (strOf dt).size ≤ 3000000000 := by rw [strOf_size, strOf_size]; exact hdi
    clear hp hcc hrow e1 e2 hgt hcat eD
    generalize fs[i] = F at *
    go_wp2
    go_ret
    exact ⟨rfl, HD.out⟩


end Go.Proofs.YtamdkmjdpdkoeaaGreatDoor
