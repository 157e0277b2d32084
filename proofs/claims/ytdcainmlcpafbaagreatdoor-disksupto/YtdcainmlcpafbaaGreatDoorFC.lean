import Derived.Test.YtdcainmlcpafbaaGreatDoorFB
import Derived.Test.YtdcainmlcpafbaaGreatDoorG4
set_option linter.unusedSimpArgs false
set_option linter.unusedVariables false
namespace Go.Proofs.YtdcainmlcpafbaaGreatDoor
open Go.RowKit

theorem file_get (fs : List FD) (j : Nat) : (fs.flatMap FD.cells)[j]? = if h : j / 3 < fs.length then some (fs[j / 3].cells.getD (j % 3) undef) else none := by
  by_cases h : j / 3 < fs.length
  · rw [dif_pos h]
    have := file_at fs (j / 3) h (j % 3) (by omega)
    rwa [show j / 3 * 3 + j % 3 = j by omega] at this
  · rw [dif_neg h, List.getElem?_eq_none (by rw [file_len]; omega)]
theorem flat_set (fs : List FD) (i : Nat) (h : i < fs.length) (k : Nat) (hk : k < 3) (f' : FD) (ho : ∀ k', k' < 3 → k' ≠ k → f'.cells.getD k' undef = fs[i].cells.getD k' undef) :
    (fs.flatMap FD.cells).set (i * 3 + k) (f'.cells.getD k undef) = (fs.set i f').flatMap FD.cells := by
  apply List.ext_getElem?
  intro j
  rw [file_get (fs.set i f') j]
  by_cases hj : j = i * 3 + k
  · subst hj
    rw [List.getElem?_set_self (by rw [file_len]; omega)]
    have e1 : (i * 3 + k) / 3 = i := by omega
    have e2 : (i * 3 + k) % 3 = k := by omega
    rw [dif_pos (by rw [List.length_set, e1]; exact h)]
    simp only [e1, e2, List.getElem_set_self]
  · rw [List.getElem?_set_ne (by omega), file_get fs j]
    by_cases hl : j / 3 < fs.length
    · rw [dif_pos hl, dif_pos (by rw [List.length_set]; exact hl)]
      by_cases hi : j / 3 = i
      · have hm : j % 3 ≠ k := by omega
        have := ho (j % 3) (by omega) hm
        simp only [hi, List.getElem_set_self]
        rw [this]
      · rw [List.getElem_set_ne (by omega)]
    · rw [dif_neg hl, dif_neg (by rw [List.length_set]; exact hl)]
theorem DS.poke {ty e : TypeId} {low : Nat} {w : World} {S g c : Nat} {fs : List FD} {left : Int} (h : DS ty e low w S (.slice (some ⟨g, 0, none⟩) fs.length c) fs left) (hSg : S ≠ g) (i : Nat) (hi : i < fs.length) (k : Nat) (hk : k < 3) (f' : FD) (ho : ∀ k', k' < 3 → k' ≠ k → f'.cells.getD k' undef = fs[i].cells.getD k' undef) :
    DS ty e low (w.setCell ⟨g, i * 3 + k, none⟩ (f'.cells.getD k undef)) S (.slice (some ⟨g, 0, none⟩) fs.length c) (fs.set i f') left := by
  refine ⟨((But.setCell w ⟨g, i * 3 + k, none⟩ _).block S hSg).trans h.st, ?_⟩
  have := (h.row.stored (i * 3 + k) (f'.cells.getD k undef)).1
  rw [flat_set fs i hi k hk f' ho] at this
  rw [List.length_set]
  exact this
theorem Kpt.mono {A B : Nat → Prop} {w w' : World} (h : Kpt A w w') (hAB : ∀ b, A b → B b) : Kpt B w w' := ⟨h.os, h.tape, h.output, h.size, fun k hk hB => h.block k hk (fun hA => hB (hAB k hA))⟩
theorem row_type {w : World} {base e n g c : Nat} {xs : List Value} (h : w.ownsRow base e 3 (.slice (some ⟨g, 0, none⟩) n c) n xs) : ∃ cur, w.heap[g]? = some (.cells cur e (0, 0)) := by
  rcases h.2 with ⟨h1, _⟩ | ⟨g', cap, cur, h1, _, hg, _⟩
  · cases h1
  · cases h1; exact ⟨cur, hg⟩
theorem Did.drew {ty e : TypeId} {low S : Nat} {w w' : World} {v : Value} {fs' : List FD} {left' : Int} (h : Did ty e low w S v fs' left' w') : Did ty e low w S v fs' left' w'.drew := by
  obtain ⟨v', h1, h2, h3⟩ := h
  exact ⟨v', h1.drew, ⟨h2.os, h2.tape, h2.output, h2.size, h2.block⟩, h3⟩
def aSyn (fs : List FD) (nm : List UInt8) : List FD := match fIdx fs nm with
  | none => fs
  | some i => fs.set i ⟨(fs.getD i noFile).n, (fs.getD i noFile).d, (fs.getD i noFile).d.length⟩
def aApp (fs : List FD) (nm dt : List UInt8) : List FD := match fIdx fs nm with
  | none => fs ++ [⟨nm, dt, 0⟩]
  | some i => fs.set i ⟨(fs.getD i noFile).n, (fs.getD i noFile).d ++ dt, (fs.getD i noFile).s⟩

set_option maxHeartbeats 2000000 in
set_option maxRecDepth 20000 in
theorem async_zero (low D H S : Nat) (v : Value) (fs : List FD) (nm : List UInt8) (w : World) (hH : Hands w D H S) (h : DS 98 107 low w S v fs 0) :
    Calls Tryz.prog 34 #[.pointer (some ⟨D, 0, none⟩), .string (strOf nm)] w fun r w' => r = .returned (.bool false) ∧ Did 98 107 low w S v fs (stepL 0) w' := by
  have cd := hH.cd
  clear hH
  go_enter Tryz.func34, Tryz.ntmps34
  go_wp2_with fail
  refine (astep_any low S v fs 0 w h (by omega)).mono ?_
  rintro r w1 ⟨rfl, hw1⟩
  obtain ⟨h1, hk1, hs1⟩ := step_did h (by decide) w1 hw1
  clear hw1
  rw [show decide ((0 : Int) ≠ 0) = false from rfl]
  have HD : Hid _ := Did.same h1 hk1
  clear h1 hk1 h
  go_wp2
  go_ret
  exact ⟨rfl, HD.out⟩

set_option maxHeartbeats 4000000 in
set_option maxRecDepth 20000 in
theorem async_go (low D H S : Nat) (v : Value) (fs : List FD) (left : Int) (nm : List UInt8) (w : World) (hH : Hands w D H S) (hDS : D ≠ S) (h : DS 98 107 low w S v fs left) (h0 : left ≠ 0) (hb : -9223372036854775808 ≤ left ∧ left ≤ 9223372036854775807) (hl : fs.length ≤ 3000000000) (hlow : low ≤ w.heap.size) (hdl : ∀ f ∈ fs, f.d.length ≤ 3000000000) :
    Calls Tryz.prog 34 #[.pointer (some ⟨D, 0, none⟩), .string (strOf nm)] w fun r w' => r = .returned (.bool true) ∧ Did 98 107 low w S v (aSyn fs nm) (stepL left) w' := by
  have cd := hH.cd
  have hDlt : D < w.heap.size := (Array.getElem?_eq_some_iff.1 hH.d).1
  have HD0 := hH.d
  clear hH
  go_enter Tryz.func34, Tryz.ntmps34
  go_wp2_with fail
  refine (astep_any low S v fs left w h hb).mono ?_
  rintro r w1 ⟨rfl, hw1⟩
  obtain ⟨h1, hk1, hs1⟩ := step_did h (by decide) w1 hw1
  clear hw1
  rw [show decide (left ≠ 0) = true by simpa using h0]
  have hd1 : w1.heap[D]? = some (.cells #[.pointer (some ⟨S, 0, none⟩)] 100 (0, 0)) := (hk1.block D hDlt hDS).trans HD0
  have cd1 : w1.cell? ⟨D, 0, none⟩ = some (.pointer (some ⟨S, 0, none⟩)) := by simp [World.cell?, hd1]
  have cs1 := h1.cell 0
  have fs1 := h1.free 0
  simp at cs1
  have H1 : Hid (DS 98 107 low w1 S v fs (stepL left)) := h1
  have HK : Hid (Kpt (fun b => b = S) w w1) := hk1
  have HD1 : Hid _ := hd1
  have hS1 := h1.lt
  have hD1 : D < w1.heap.size := by omega
  clear h h1 hk1 cd HD0 hd1
  go_wp2_with fail
  refine (find_any low S v fs (stepL left) nm w1 H1.out (by omega)).mono ?_
  rintro r w' ⟨rfl, hh⟩
  replace hh := hh.symm
  subst hh
  rcases fNum_bd fs nm with ⟨e1, e2⟩ | ⟨i, e1, e2, e3⟩
  · have HR : Hid (aSyn fs nm = fs) := by unfold Hid aSyn; rw [e2]
    rw [e1]
    have HD : Hid (Did 98 107 low w S v (aSyn fs nm) (stepL left) w1) := by unfold Hid; rw [HR.out]; exact Did.same H1.out HK.out
    clear e1 e2
    go_wp2
    go_ret
    exact ⟨rfl, HD.out⟩
  · have hdi := hdl fs[i] (List.getElem_mem e3)
    rw [e1]
    have eD : fs.getD i noFile = fs[i] := by rw [List.getD_eq_getElem?_getD, List.getElem?_eq_getElem e3, Option.getD_some]
    obtain ⟨a, c, hv, hrow⟩ := row3 H1.out.row
    subst hv
    obtain ⟨g, ha, _, hgl, hcc⟩ := hrow.resolve_left (by omega)
    subst ha
    obtain ⟨cur, hgt⟩ := row_type H1.out.row
    have hSg : S ≠ g := by intro hh; subst hh; rw [H1.out.st] at hgt; simp at hgt
    have hDg : D ≠ g := by intro hh; subst hh; rw [HD1.out] at hgt; simp at hgt
    have j0 := hcc _ _ (file_at fs i e3 0 (by omega))
    have j1 := hcc _ _ (file_at fs i e3 1 (by omega))
    have j2 := hcc _ _ (file_at fs i e3 2 (by omega))
    simp [FD.cells] at j0 j1 j2
    have k1 := H1.out.row.frozenAt (i * 3 + 1)
    have k2 := H1.out.row.frozenAt (i * 3 + 2)
    have e3i : (i : Int) < (fs.length : Int) := by omega
    have HR : Hid (aSyn fs nm = fs.set i ⟨fs[i].n, fs[i].d, fs[i].d.length⟩) := by unfold Hid aSyn; rw [e2]; simp only [eD]
    have hp := H1.out.poke hSg i e3 2 (by omega) ⟨fs[i].n, fs[i].d, fs[i].d.length⟩ (by intro k' h1 h2; rcases (show k' = 0 ∨ k' = 1 by omega) with rfl | rfl <;> rfl)
    have HD : Hid (Did 98 107 low w S (.slice (some ⟨g, 0, none⟩) fs.length c) (aSyn fs nm) (stepL left) (w1.setCell ⟨g, i * 3 + 2, none⟩ (.int .i64 (fs[i].d.length : Int)))) := by
      unfold Hid
      rw [HR.out]
      exact Did.pre HK.out ⟨_, hp, (Kpt.set w1 g (i * 3 + 2) _).mono (fun b hb => .inr (by rw [hb]; rfl)), fun g' hg' => .inl hg'⟩
    have hsz : (strOf fs[i].d).size = fs[i].d.length := strOf_size _
    clear hp hcc hrow e1 e2 hgt hdl eD
    generalize fs[i] = F at *
    have z1 : (w1.setCell ⟨g, i * 3 + 2, none⟩ (.int .i64 (F.d.length : Int))).drew.cell? ⟨D, 0, none⟩ = some (.pointer (some ⟨S, 0, none⟩)) := (World.cell?_setCell_other _ _ _ _ (by intro hh; have h9 := congrArg Addr.block hh; simp at h9; omega)).trans cd1
    have z2 : (w1.setCell ⟨g, i * 3 + 2, none⟩ (.int .i64 (F.d.length : Int))).drew.cell? ⟨S, 0, none⟩ = some (.slice (some ⟨g, 0, none⟩) fs.length c) := (World.cell?_setCell_other _ _ _ _ (by intro hh; have h9 := congrArg Addr.block hh; simp at h9; omega)).trans cs1
    have z3 : (w1.setCell ⟨g, i * 3 + 2, none⟩ (.int .i64 (F.d.length : Int))).drew.cell? ⟨g, i * 3 + 1, none⟩ = some (.string (strOf F.d)) := (World.cell?_setCell_other _ _ _ _ (by intro hh; have h9 := congrArg Addr.off hh; simp at h9)).trans j1
    go_wp2_with fail
    go_region_held3 (fun w' => w'.cell? ⟨D, 0, none⟩ = some (.pointer (some ⟨S, 0, none⟩)) ∧ w'.cell? ⟨S, 0, none⟩ = some (.slice (some ⟨g, 0, none⟩) fs.length c) ∧ w'.cell? ⟨g, i * 3 + 1, none⟩ = some (.string (strOf F.d))) (first | (exact ⟨z1, z2, z3⟩) | go_keep) (fail)
    all_goals go_wp2
    all_goals go_ret
    all_goals exact ⟨rfl, HD.out.drew⟩


set_option maxHeartbeats 2000000 in
set_option maxRecDepth 20000 in
theorem aappend_zero (low D H S : Nat) (v : Value) (fs : List FD) (nm dt : List UInt8) (w : World) (hH : Hands w D H S) (h : DS 98 107 low w S v fs 0) :
    Calls Tryz.prog 32 #[.pointer (some ⟨D, 0, none⟩), .string (strOf nm), .string (strOf dt)] w fun r w' => r = .returned (.bool false) ∧ Did 98 107 low w S v fs (stepL 0) w' := by
  have cd := hH.cd
  clear hH
  go_enter Tryz.func32, Tryz.ntmps32
  go_wp2_with fail
  refine (astep_any low S v fs 0 w h (by omega)).mono ?_
  rintro r w1 ⟨rfl, hw1⟩
  obtain ⟨h1, hk1, hs1⟩ := step_did h (by decide) w1 hw1
  clear hw1
  rw [show decide ((0 : Int) ≠ 0) = false from rfl]
  have HD : Hid _ := Did.same h1 hk1
  clear h1 hk1 h
  go_wp2
  go_ret
  exact ⟨rfl, HD.out⟩

set_option maxHeartbeats 4000000 in
set_option maxRecDepth 20000 in
theorem aappend_go (low D H S : Nat) (v : Value) (fs : List FD) (left : Int) (nm dt : List UInt8) (w : World) (hH : Hands w D H S) (hDS : D ≠ S) (h : DS 98 107 low w S v fs left) (h0 : left ≠ 0) (hb : -9223372036854775808 ≤ left ∧ left ≤ 9223372036854775807) (hl : fs.length ≤ 3000000000) (hlow : low ≤ w.heap.size) (hcat : ∀ f ∈ fs, f.d.length + dt.length ≤ 3000000000) (hdt : dt.length ≤ 3000000000) :
    Calls Tryz.prog 32 #[.pointer (some ⟨D, 0, none⟩), .string (strOf nm), .string (strOf dt)] w fun r w' => r = .returned (.bool true) ∧ Did 98 107 low w S v (aApp fs nm dt) (stepL left) w' := by
  have cd := hH.cd
  have hDlt : D < w.heap.size := (Array.getElem?_eq_some_iff.1 hH.d).1
  have HD0 := hH.d
  clear hH
  go_enter Tryz.func32, Tryz.ntmps32
  go_wp2_with fail
  refine (astep_any low S v fs left w h hb).mono ?_
  rintro r w1 ⟨rfl, hw1⟩
  obtain ⟨h1, hk1, hs1⟩ := step_did h (by decide) w1 hw1
  clear hw1
  rw [show decide (left ≠ 0) = true by simpa using h0]
  have hd1 : w1.heap[D]? = some (.cells #[.pointer (some ⟨S, 0, none⟩)] 100 (0, 0)) := (hk1.block D hDlt hDS).trans HD0
  have cd1 : w1.cell? ⟨D, 0, none⟩ = some (.pointer (some ⟨S, 0, none⟩)) := by simp [World.cell?, hd1]
  have cs1 := h1.cell 0
  have fs1 := h1.free 0
  simp at cs1
  have H1 : Hid (DS 98 107 low w1 S v fs (stepL left)) := h1
  have HK : Hid (Kpt (fun b => b = S) w w1) := hk1
  have HD1 : Hid _ := hd1
  have hS1 := h1.lt
  have hD1 : D < w1.heap.size := by omega
  clear h h1 hk1 cd HD0 hd1
  go_wp2_with fail
  refine (find_any low S v fs (stepL left) nm w1 H1.out (by omega)).mono ?_
  rintro r w' ⟨rfl, hh⟩
  replace hh := hh.symm
  subst hh
  rcases fNum_bd fs nm with ⟨e1, e2⟩ | ⟨i, e1, e2, e3⟩
  · have HR : Hid (aApp fs nm dt = fs ++ [⟨nm, dt, 0⟩]) := by unfold Hid aApp; rw [e2]
    rw [e1]
    obtain ⟨i0, hi0, hz0, hz1, hz2⟩ := info_parts info76
    obtain ⟨a, c, hv, hrow⟩ := row3 H1.out.row
    subst hv
    have hoff := H1.out.off (by decide)
    have hoffD : Value.ownBlock (.slice a fs.length c) ≠ some D := by
      intro hh
      rcases H1.out.row.2 with ⟨h1, _⟩ | ⟨g', cap, cur, h1, _, hg, _⟩
      · rw [h1] at hh; simp [Value.ownBlock] at hh
      · rw [h1] at hh
        simp [Value.ownBlock] at hh
        subst hh
        rw [HD1.out] at hg
        simp at hg
    have q1 : (w1.alloc (Obj.cells #[Value.string (strOf nm), Value.string ⟨#[]⟩, Value.int IntKind.i64 0] 107)).drew.cell? ⟨S, 0, none⟩ = some (.slice a fs.length c) := (World.cell?_alloc_past _ _ _ hS1).trans cs1
    have q2 : (w1.alloc (Obj.cells #[Value.string (strOf nm), Value.string ⟨#[]⟩, Value.int IntKind.i64 0] 107)).drew.cell? ⟨D, 0, none⟩ = some (.pointer (some ⟨S, 0, none⟩)) := (World.cell?_alloc_past _ _ _ hD1).trans cd1
    clear e1 e2 hrow hcat
    go_wp2_with fail
    go_cut [7] from 22 to 38 (fun x wc => x = .int .i64 (-1) ∧ ∃ v2, DS 98 107 low wc S v2 (fs ++ [⟨nm, [], 0⟩]) (stepL left) ∧ Kpt (fun b => b = S ∨ some b = Value.ownBlock (.slice a fs.length c)) w1 wc ∧ (∀ g, v2.ownBlock = some g → Value.ownBlock (.slice a fs.length c) = some g ∨ w1.heap.size ≤ g) ∧ wc.heap[D]? = w1.heap[D]?)
    case first =>
      go_region_law (refine step_append_keep rfl (.tmp 32) (.tmp 35) 96 rfl low 107 i0 (.agg #[.string ⟨#[]⟩, .string ⟨#[]⟩, .int .i64 0]) 3 40 Tryz.underlying96 hi0 hz0 hz1 hz2 rfl (by decide) (.slice a fs.length c) fs.length (fs.flatMap FD.cells) (by simp [Act.eval]) (by exact (World.ownsRow.alloc H1.out.row _).drew) ⟨w1.heap.size, 0, none⟩ 1 1 [Value.string (strOf nm), Value.string ⟨#[]⟩, Value.int IntKind.i64 0] (by omega) (by simp [Act.eval]) rfl (by intro j u hu; rw [Go.WideShapes.add_plain]; refine (World.cell?_alloc_at _ _ _ _ rfl).trans ?_; simpa using hu) (by intro u hu; simp at hu; rcases hu with rfl | rfl | rfl <;> rfl) (by unfold maxLen; omega) (by omega) (by show _ ≤ (World.alloc _ _).heap.size; simp; omega) ?_; intro v' w2 ho2 hg2 hloc; obtain ⟨va, vc, rfl⟩ := shape_of ho2; have hSb : w2.heap[S]? = w1.heap[S]? := (hg2.block S (by show _ < (World.alloc _ _).heap.size; simp; omega) (Ne.symm hoff)).trans (heap_alloc_old w1 _ hS1); have hDb : w2.heap[D]? = w1.heap[D]? := (hg2.block D (by show _ < (World.alloc _ _).heap.size; simp; omega) (Ne.symm hoffD)).trans (heap_alloc_old w1 _ hD1); have ks : w2.cell? ⟨S, 0, none⟩ = some (.slice a fs.length c) := (World.cell?_of_block (w := w1) (a := ⟨S, 0, none⟩) hSb).trans cs1; have kf : w2.frozen? ⟨S, 0, none⟩ = false := (World.frozen?_of_block (w := w1) (a := ⟨S, 0, none⟩) hSb).trans fs1; have kd : w2.cell? ⟨D, 0, none⟩ = some (.pointer (some ⟨S, 0, none⟩)) := (World.cell?_of_block (w := w1) (a := ⟨D, 0, none⟩) hDb).trans cd1)
      all_goals go_wp2_with fail
      all_goals go_meet
      all_goals
        refine ⟨rfl, .slice va (fs.length + 1) vc, DS.store (low := low) (low' := low) (hSb.trans H1.out.st) ?_ (Nat.le_refl _) ?_, ?_, ?_, ?_⟩
        · rw [List.length_append, List.flatMap_append]
          simp only [List.length_cons, List.length_nil, List.flatMap_cons, List.flatMap_nil, List.append_nil]
          exact ho2
        · intro hh
          obtain ⟨g', e1, e2⟩ := hloc
          rw [e1] at hh
          have hgS : g' = S := by simpa using hh
          subst hgS
          rcases e2 with e2 | ⟨e2, _⟩
          · exact hoff e2
          · have : (World.alloc w1 (Obj.cells #[Value.string (strOf nm), Value.string ⟨#[]⟩, Value.int IntKind.i64 0] 107)).heap.size ≤ g' := e2
            simp at this; omega
        · have k1 : Kpt (fun b => b = S ∨ some b = Value.ownBlock (.slice a fs.length c)) w1 w2 := ⟨hg2.os, hg2.tape, hg2.output, Nat.le_trans (by show _ ≤ (World.alloc _ _).heap.size; simp) hg2.size, fun k hk hA => (hg2.block k (by show _ < (World.alloc _ _).heap.size; simp; omega) (fun hh => hA (.inr hh))).trans (heap_alloc_old w1 _ hk)⟩
          exact k1.trans (Kpt.set w2 S 0 _) (fun b _ hb => .inl hb)
        · intro g hg
          obtain ⟨g', e1, e2⟩ := hloc
          rw [e1] at hg
          have hgg : g' = g := by simpa using hg
          subst hgg
          rcases e2 with e2 | ⟨e2, _⟩
          · exact .inl e2
          · right
            have : (World.alloc w1 (Obj.cells #[Value.string (strOf nm), Value.string ⟨#[]⟩, Value.int IntKind.i64 0] 107)).heap.size ≤ g' := e2
            simp at this; omega
        · exact ((But.setCell w2 ⟨S, 0, none⟩ _).block D hDS).trans hDb
    case rest =>
    obtain ⟨rfl, v2, hd2, hk2, hown2, hDb2⟩ := hcut
    have hl2 : (fs ++ [(⟨nm, [], 0⟩ : FD)]).length = fs.length + 1 := by simp
    have e3 : fs.length < (fs ++ [(⟨nm, [], 0⟩ : FD)]).length := by omega
    have eF : (fs ++ [(⟨nm, [], 0⟩ : FD)])[fs.length] = ⟨nm, [], 0⟩ := by simp
    have HSet : Hid ((fs ++ [(⟨nm, [], 0⟩ : FD)]).set fs.length ⟨nm, dt, 0⟩ = fs ++ [⟨nm, dt, 0⟩]) := by simp [Hid]
    obtain ⟨a2, c2, hv2, hrow2⟩ := row3 hd2.row
    subst hv2
    obtain ⟨g, ha, _, hgl, hcc⟩ := hrow2.resolve_left (by omega)
    subst ha
    obtain ⟨cur, hgt⟩ := row_type hd2.row
    have hSg : S ≠ g := by intro hh; subst hh; rw [hd2.st] at hgt; simp at hgt
    have hp := hd2.poke hSg fs.length e3 1 (by omega) ⟨nm, dt, 0⟩ (by intro k' h1 h2; rw [eF]; rcases (show k' = 0 ∨ k' = 2 by omega) with rfl | rfl <;> rfl)
    rw [HSet.out] at hp
    have j1 := hcc _ _ (file_at _ fs.length e3 1 (by omega))
    rw [eF] at j1
    have k1 := hd2.row.frozenAt (fs.length * 3 + 1)
    have cs2 := hd2.cell 0
    simp at cs2
    have cd2 : wc.cell? ⟨D, 0, none⟩ = some (.pointer (some ⟨S, 0, none⟩)) := (World.cell?_of_block (w := w1) (a := ⟨D, 0, none⟩) hDb2).trans cd1
    have ee : strOf [] ++ strOf dt = strOf dt := by rw [strOf_append]; rfl
    have HD : Hid (Did 98 107 low w S (.slice a fs.length c) (aApp fs nm dt) (stepL left) (wc.setCell ⟨g, fs.length * 3 + 1, none⟩ (.string (strOf [] ++ strOf dt)))) := by
      unfold Hid
      rw [HR.out, ee]
      refine Did.pre HK.out ⟨_, hp, hk2.trans (Kpt.set wc g (fs.length * 3 + 1) _) (fun b hb1 hb2 => ?_), fun g' hg' => hown2 g' hg'⟩
      subst hb2
      rcases hown2 b rfl with hh | hh
      · exact .inr hh.symm
      · omega
    have hsz : (strOf ([] : List UInt8)).size + (strOf dt).size ≤ 3000000000 := by rw [strOf_size, strOf_size]; simpa using hdt
    simp [FD.cells] at j1
    clear hp hd2 hcc hrow2 hgt hown2 hk2 hDb2 eF e3 ee
    go_wp2
    go_ret
    exact ⟨rfl, HD.out⟩
  · have hdi := hcat fs[i] (List.getElem_mem e3)
    rw [e1]
    have eD : fs.getD i noFile = fs[i] := by rw [List.getD_eq_getElem?_getD, List.getElem?_eq_getElem e3, Option.getD_some]
    obtain ⟨a, c, hv, hrow⟩ := row3 H1.out.row
    subst hv
    obtain ⟨g, ha, _, hgl, hcc⟩ := hrow.resolve_left (by omega)
    subst ha
    obtain ⟨cur, hgt⟩ := row_type H1.out.row
    have hSg : S ≠ g := by intro hh; subst hh; rw [H1.out.st] at hgt; simp at hgt
    have hDg : D ≠ g := by intro hh; subst hh; rw [HD1.out] at hgt; simp at hgt
    have j0 := hcc _ _ (file_at fs i e3 0 (by omega))
    have j1 := hcc _ _ (file_at fs i e3 1 (by omega))
    have j2 := hcc _ _ (file_at fs i e3 2 (by omega))
    simp [FD.cells] at j0 j1 j2
    have k1 := H1.out.row.frozenAt (i * 3 + 1)
    have k2 := H1.out.row.frozenAt (i * 3 + 2)
    have e3i : (i : Int) < (fs.length : Int) := by omega
    have HR : Hid (aApp fs nm dt = fs.set i ⟨fs[i].n, fs[i].d ++ dt, fs[i].s⟩) := by unfold Hid aApp; rw [e2]; simp only [eD]
    have hp := H1.out.poke hSg i e3 1 (by omega) ⟨fs[i].n, fs[i].d ++ dt, fs[i].s⟩ (by intro k' h1 h2; rcases (show k' = 0 ∨ k' = 2 by omega) with rfl | rfl <;> rfl)
    have HD : Hid (Did 98 107 low w S (.slice (some ⟨g, 0, none⟩) fs.length c) (aApp fs nm dt) (stepL left) (w1.setCell ⟨g, i * 3 + 1, none⟩ (.string (strOf fs[i].d ++ strOf dt)))) := by
      unfold Hid
      rw [HR.out, strOf_append]
      exact Did.pre HK.out ⟨_, hp, (Kpt.set w1 g (i * 3 + 1) _).mono (fun b hb => .inr (by rw [hb]; rfl)), fun g' hg' => .inl hg'⟩
    have hsz : (strOf fs[i].d).size + (strOf dt).size ≤ 3000000000 := by rw [strOf_size, strOf_size]; exact hdi
    clear hp hcc hrow e1 e2 hgt hcat eD
    generalize fs[i] = F at *
    go_wp2
    go_ret
    exact ⟨rfl, HD.out⟩



def aRen (fs : List FD) (a b : List UInt8) : List FD := match fIdx fs a with
  | none => fs
  | some i => if a = b then fs else wOut (wOut fs a) b ++ [⟨b, (fs.getD i noFile).d, (fs.getD i noFile).s⟩]

set_option maxHeartbeats 2000000 in
set_option maxRecDepth 20000 in
theorem arename_zero (low D H S : Nat) (v : Value) (fs : List FD) (nm dt : List UInt8) (w : World) (hH : Hands w D H S) (h : DS 98 107 low w S v fs 0) :
    Calls Tryz.prog 36 #[.pointer (some ⟨D, 0, none⟩), .string (strOf nm), .string (strOf dt)] w fun r w' => r = .returned (.bool false) ∧ Did 98 107 low w S v fs (stepL 0) w' := by
  have cd := hH.cd
  clear hH
  go_enter Tryz.func36, Tryz.ntmps36
  go_wp2_with fail
  refine (astep_any low S v fs 0 w h (by omega)).mono ?_
  rintro r w1 ⟨rfl, hw1⟩
  obtain ⟨h1, hk1, hs1⟩ := step_did h (by decide) w1 hw1
  clear hw1
  rw [show decide ((0 : Int) ≠ 0) = false from rfl]
  have HD : Hid _ := Did.same h1 hk1
  clear h1 hk1 h
  go_wp2
  go_ret
  exact ⟨rfl, HD.out⟩

set_option maxHeartbeats 4000000 in
set_option maxRecDepth 20000 in
theorem arename_go (low D H S : Nat) (v : Value) (fs : List FD) (left : Int) (nm dt : List UInt8) (w : World) (hH : Hands w D H S) (hDS : D ≠ S) (h : DS 98 107 low w S v fs left) (h0 : left ≠ 0) (hb : -9223372036854775808 ≤ left ∧ left ≤ 9223372036854775807) (hl : fs.length ≤ 3000000000) (hlow : low ≤ w.heap.size) :
    Calls Tryz.prog 36 #[.pointer (some ⟨D, 0, none⟩), .string (strOf nm), .string (strOf dt)] w fun r w' => r = .returned (.bool true) ∧ Did 98 107 low w S v (aRen fs nm dt) (stepL left) w' := by
  have cd := hH.cd
  have hDlt : D < w.heap.size := (Array.getElem?_eq_some_iff.1 hH.d).1
  have HD0 := hH.d
  clear hH
  go_enter Tryz.func36, Tryz.ntmps36
  go_wp2_with fail
  refine (astep_any low S v fs left w h hb).mono ?_
  rintro r w1 ⟨rfl, hw1⟩
  obtain ⟨h1, hk1, hs1⟩ := step_did h (by decide) w1 hw1
  clear hw1
  rw [show decide (left ≠ 0) = true by simpa using h0]
  have hd1 : w1.heap[D]? = some (.cells #[.pointer (some ⟨S, 0, none⟩)] 100 (0, 0)) := (hk1.block D hDlt hDS).trans HD0
  have cd1 : w1.cell? ⟨D, 0, none⟩ = some (.pointer (some ⟨S, 0, none⟩)) := by simp [World.cell?, hd1]
  have cs1 := h1.cell 0
  have fs1 := h1.free 0
  simp at cs1
  have H1 : Hid (DS 98 107 low w1 S v fs (stepL left)) := h1
  have HK : Hid (Kpt (fun b => b = S) w w1) := hk1
  have HD1 : Hid _ := hd1
  have hS1 := h1.lt
  have hD1 : D < w1.heap.size := by omega
  clear h h1 hk1 cd HD0 hd1
  go_wp2_with fail
  refine (find_any low S v fs (stepL left) nm w1 H1.out (by omega)).mono ?_
  rintro r w' ⟨rfl, hh⟩
  replace hh := hh.symm
  subst hh
  rcases fNum_bd fs nm with ⟨e1, e2⟩ | ⟨i, e1, e2, e3⟩
  · have HR : Hid (aRen fs nm dt = fs) := by unfold Hid aRen; rw [e2]
    rw [e1]
    have HD : Hid (Did 98 107 low w S v (aRen fs nm dt) (stepL left) w1) := by unfold Hid; rw [HR.out]; exact Did.same H1.out HK.out
    clear e1 e2
    go_wp2
    go_ret
    exact ⟨rfl, HD.out⟩
  · by_cases hab : nm = dt
    · have HR : Hid (aRen fs nm dt = fs) := by unfold Hid aRen; rw [e2]; exact if_pos hab
      rw [e1]
      have HD : Hid (Did 98 107 low w S v (aRen fs nm dt) (stepL left) w1) := by unfold Hid; rw [HR.out]; exact Did.same H1.out HK.out
      have q := strEqB nm dt
      rw [show (nm == dt) = true by simpa using hab] at q
      clear e1 e2 hab
      go_wp2
      go_ret
      exact ⟨rfl, HD.out⟩
    rw [e1]
    have eD : fs.getD i noFile = fs[i] := by rw [List.getD_eq_getElem?_getD, List.getElem?_eq_getElem e3, Option.getD_some]
    obtain ⟨a, c, hv, hrow⟩ := row3 H1.out.row
    subst hv
    obtain ⟨g, ha, _, hgl, hcc⟩ := hrow.resolve_left (by omega)
    subst ha
    obtain ⟨cur, hgt⟩ := row_type H1.out.row
    have hSg : S ≠ g := by intro hh; subst hh; rw [H1.out.st] at hgt; simp at hgt
    have hDg : D ≠ g := by intro hh; subst hh; rw [HD1.out] at hgt; simp at hgt
    have j0 := hcc _ _ (file_at fs i e3 0 (by omega))
    have j1 := hcc _ _ (file_at fs i e3 1 (by omega))
    have j2 := hcc _ _ (file_at fs i e3 2 (by omega))
    simp [FD.cells] at j0 j1 j2
    have k1 := H1.out.row.frozenAt (i * 3 + 1)
    have k2 := H1.out.row.frozenAt (i * 3 + 2)
    have e3i : (i : Int) < (fs.length : Int) := by omega
    have HR : Hid (aRen fs nm dt = wOut (wOut fs nm) dt ++ [⟨dt, fs[i].d, fs[i].s⟩]) := by unfold Hid aRen; rw [e2]; simp only [eD]; exact if_neg hab
    have q := strEqB nm dt
    rw [show (nm == dt) = false by simpa using hab] at q
    obtain ⟨i0, hi0, hz0, hz1, hz2⟩ := info_parts info76
    clear hcc hrow e1 e2 hgt hab eD
    generalize fs[i] = F at *
    have hb2 := (Below.refl w1.heap.size w1).alloc (Nat.le_refl _) (Obj.cells #[Value.string (strOf dt), Value.string (strOf F.d), Value.int IntKind.i64 (F.s : Int)] 107)
    have hs2 : (w1.alloc (Obj.cells #[Value.string (strOf dt), Value.string (strOf F.d), Value.int IntKind.i64 (F.s : Int)] 107)).heap.size = w1.heap.size + 1 := by simp
    have fc2 : ∀ i, (w1.alloc (Obj.cells #[Value.string (strOf dt), Value.string (strOf F.d), Value.int IntKind.i64 (F.s : Int)] 107)).cell? ⟨w1.heap.size, i, none⟩ = #[Value.string (strOf dt), Value.string (strOf F.d), Value.int IntKind.i64 (F.s : Int)][i]? := fun i => World.cell?_alloc_at _ _ _ _ rfl
    have H2 : Hid (DS 98 107 low (w1.alloc (Obj.cells #[Value.string (strOf dt), Value.string (strOf F.d), Value.int IntKind.i64 (F.s : Int)] 107)) S (.slice (some ⟨g, 0, none⟩) fs.length c) fs (stepL left)) := H1.out.later hb2
    have cd2 : (w1.alloc (Obj.cells #[Value.string (strOf dt), Value.string (strOf F.d), Value.int IntKind.i64 (F.s : Int)] 107)).cell? ⟨D, 0, none⟩ = some (.pointer (some ⟨S, 0, none⟩)) := (hb2.cell (by exact hD1)).trans cd1
    have hd2 : (w1.alloc (Obj.cells #[Value.string (strOf dt), Value.string (strOf F.d), Value.int IntKind.i64 (F.s : Int)] 107)).heap[D]? = w1.heap[D]? := hb2.block D hD1
    have hk2 : Kpt (fun b => b = S) w (w1.alloc (Obj.cells #[Value.string (strOf dt), Value.string (strOf F.d), Value.int IntKind.i64 (F.s : Int)] 107)) := HK.out.trans (Kpt.of_below (A := fun b => b = S) hb2) (fun _ _ hh => hh)
    have HK2 : Hid _ := hk2
    have HDb2 : Hid _ := hd2
    clear hk2 hd2 hb2
    go_wp2_with fail
    generalize (w1.alloc (Obj.cells #[Value.string (strOf dt), Value.string (strOf F.d), Value.int IntKind.i64 (F.s : Int)] 107)) = W2 at *
    have fc2' : ∀ i, W2.cell? ⟨w.heap.size, i, none⟩ = #[Value.string (strOf dt), Value.string (strOf F.d), Value.int IntKind.i64 (F.s : Int)][i]? := by rw [← hs1]; exact fc2
    have cs2 := H2.out.cell 0
    have f2 := H2.out.free 0
    simp at cs2
    have hS2 := H2.out.lt
    have hD2 : D < W2.heap.size := by omega
    have hF2 : w.heap.size < W2.heap.size := by omega
    clear fc2 cs1 fs1 cd1 j0 j1 j2 k1 k2
    go_cut [8] from 40 to 51 (fun x wc => x = .pointer (some ⟨w.heap.size, 0, none⟩) ∧ ∃ v3, DS 98 107 low wc S v3 (wOut fs nm) (stepL left) ∧ (∀ i, wc.cell? ⟨w.heap.size, i, none⟩ = #[Value.string (strOf dt), Value.string (strOf F.d), Value.int IntKind.i64 (F.s : Int)][i]?) ∧ wc.heap[D]? = W2.heap[D]? ∧ Kpt (fun b => b = S) w wc ∧ (∀ g, v3.ownBlock = some g → w.heap.size < g) ∧ w.heap.size < wc.heap.size)
    case first =>
      go_region_held3 (fun w' => w'.cell? ⟨D, 0, none⟩ = some (.pointer (some ⟨S, 0, none⟩))) (first | assumption | (rw [World.cell?_setCell_other _ _ _ _ (by intro hh; have h9 := congrArg Addr.block hh; simp at h9; omega)]; assumption) | go_keep) (first | (go_at_call 80; refine (awithout_any low S _ fs (stepL left) nm W2.drew H2.out.drew hl).mono ?_; rintro r w3 ⟨v3, rfl, ho3, hb3⟩; obtain ⟨a3, c3, rfl, _⟩ := row3 ho3; have kd : w3.cell? ⟨D, 0, none⟩ = some (.pointer (some ⟨S, 0, none⟩)) := (hb3.cell (by exact hD2)).trans cd2; have ks : w3.cell? ⟨S, 0, none⟩ = some (.slice (some ⟨g, 0, none⟩) fs.length c) := (hb3.cell (by exact hS2)).trans cs2; have kf : w3.frozen? ⟨S, 0, none⟩ = false := (hb3.frozen (by exact hS2)).trans f2))
      all_goals go_wp2_with fail
      all_goals go_meet
      all_goals
        have h3 : DS 98 107 low w3 S (.slice (some ⟨g, 0, none⟩) fs.length c) fs (stepL left) := H2.out.drew.later hb3
        have hlt3 : ∀ g, Value.ownBlock (.slice a3 (wOut fs nm).length c3) = some g → W2.heap.size ≤ g := fun g hg => (World.ownsRow.lt ho3 g hg).1
        have hs3 : W2.heap.size ≤ w3.heap.size := hb3.size
        refine ⟨rfl, .slice a3 (wOut fs nm).length c3, DS.store (low := low) (low' := W2.heap.size) h3.st ho3 (by omega) (fun hh => by have := hlt3 S hh; omega), fun i => ?_, ?_, ?_, fun g hg => by have := hlt3 g hg; omega, ?_⟩
        · exact (World.cell?_setCell_other _ _ _ _ (by intro hh; have h9 := congrArg Addr.block hh; simp at h9; omega)).trans ((hb3.cell (by exact hF2)).trans (fc2' i))
        · exact ((But.setCell w3 ⟨S, 0, none⟩ _).block D hDS).trans (hb3.block D hD2)
        · exact (HK2.out.trans (B := fun b => b = S) ⟨hb3.os, hb3.tape, hb3.output, hb3.size, fun k hk _ => hb3.block k hk⟩ (fun _ _ hh => hh)).trans (Kpt.set w3 S 0 _) (fun _ _ hh => hh)
        · rw [(But.setCell w3 ⟨S, 0, none⟩ _).size]; omega
    case rest =>
    obtain ⟨rfl, v3, h4, fc4, hDb4, hk4, hlt4, hF4⟩ := hcut
    have cd4 : wc.cell? ⟨D, 0, none⟩ = some (.pointer (some ⟨S, 0, none⟩)) := (World.cell?_of_block (w := W2) (a := ⟨D, 0, none⟩) hDb4).trans cd2
    have cs4 := h4.cell 0
    have f4 := h4.free 0
    simp at cs4
    have hS4 := h4.lt
    have hD4 : D < wc.heap.size := by have := hk4.size; omega
    have hwl : (wOut fs nm).length ≤ fs.length := List.length_filter_le _ _
    have hwl2 : (wOut (wOut fs nm) dt).length ≤ (wOut fs nm).length := List.length_filter_le _ _
    have H4 : Hid _ := h4
    have HK4 : Hid _ := hk4
    have HL4 : Hid _ := hlt4
    clear h4 hk4 hlt4 hDb4 cd2 cs2 f2 fc2' HK2 HDb2 H2
    have hl4D : D < wc.drew.heap.size := hD4
    have hl4S : S < wc.drew.heap.size := hS4
    have hl4F : w.heap.size < wc.drew.heap.size := hF4
    have hb4b := (Below.refl wc.heap.size wc).alloc (Nat.le_refl _) (Obj.cells #[Value.string (strOf dt), Value.string (strOf F.d), Value.int IntKind.i64 (F.s : Int)] 107)
    have hlbD : D < (wc.alloc (Obj.cells #[Value.string (strOf dt), Value.string (strOf F.d), Value.int IntKind.i64 (F.s : Int)] 107)).drew.heap.size := by show _ < (World.alloc _ _).heap.size; simp; omega
    have hlbS : S < (wc.alloc (Obj.cells #[Value.string (strOf dt), Value.string (strOf F.d), Value.int IntKind.i64 (F.s : Int)] 107)).drew.heap.size := by show _ < (World.alloc _ _).heap.size; simp; omega
    have hlbF : w.heap.size < (wc.alloc (Obj.cells #[Value.string (strOf dt), Value.string (strOf F.d), Value.int IntKind.i64 (F.s : Int)] 107)).drew.heap.size := by show _ < (World.alloc _ _).heap.size; simp; omega
    have cdb : (wc.alloc (Obj.cells #[Value.string (strOf dt), Value.string (strOf F.d), Value.int IntKind.i64 (F.s : Int)] 107)).drew.cell? ⟨D, 0, none⟩ = some (.pointer (some ⟨S, 0, none⟩)) := (hb4b.cell (by exact hD4)).trans cd4
    have csb : (wc.alloc (Obj.cells #[Value.string (strOf dt), Value.string (strOf F.d), Value.int IntKind.i64 (F.s : Int)] 107)).drew.cell? ⟨S, 0, none⟩ = some v3 := (hb4b.cell (by exact hS4)).trans cs4
    have fb : (wc.alloc (Obj.cells #[Value.string (strOf dt), Value.string (strOf F.d), Value.int IntKind.i64 (F.s : Int)] 107)).drew.frozen? ⟨S, 0, none⟩ = false := (hb4b.frozen (by exact hS4)).trans f4
    have fcb : ∀ i, (wc.alloc (Obj.cells #[Value.string (strOf dt), Value.string (strOf F.d), Value.int IntKind.i64 (F.s : Int)] 107)).drew.cell? ⟨w.heap.size, i, none⟩ = #[Value.string (strOf dt), Value.string (strOf F.d), Value.int IntKind.i64 (F.s : Int)][i]? := fun i => (hb4b.cell (by exact hF4)).trans (fc4 i)
    have H4b : Hid (DS 98 107 low (wc.alloc (Obj.cells #[Value.string (strOf dt), Value.string (strOf F.d), Value.int IntKind.i64 (F.s : Int)] 107)) S v3 (wOut fs nm) (stepL left)) := H4.out.later hb4b
    have g40 := fc4 0
    have g41 := fc4 1
    have g42 := fc4 2
    simp at g40 g41 g42
    go_wp2_with fail
    go_region_held3 (fun w' => w'.cell? ⟨D, 0, none⟩ = some (.pointer (some ⟨S, 0, none⟩)) ∧ w'.cell? ⟨w.heap.size, 0, none⟩ = some (Value.string (strOf dt)) ∧ w'.cell? ⟨w.heap.size, 1, none⟩ = some (Value.string (strOf F.d)) ∧ w'.cell? ⟨w.heap.size, 2, none⟩ = some (Value.int IntKind.i64 (F.s : Int))) (first | (and_intros <;> assumption) | (and_intros <;> first | (exact (World.cell?_setCell_other _ _ _ _ (by intro hh; have h9 := congrArg Addr.block hh; simp at h9; omega)).trans (by assumption)) | (exact (World.cell?_alloc_past _ _ _ (by first | assumption | omega)).trans (by assumption))) | go_keep) (first | (go_at_call 80; refine (awithout_any low S _ (wOut fs nm) (stepL left) dt wc.drew H4.out.drew (by omega)).mono ?_; rintro r w5 ⟨v5, rfl, ho5, hb5⟩; obtain ⟨a5, c5, rfl, _⟩ := row3 ho5; have kd : w5.cell? ⟨D, 0, none⟩ = some (.pointer (some ⟨S, 0, none⟩)) := (hb5.cell (by exact hl4D)).trans cd4; have ks : w5.cell? ⟨S, 0, none⟩ = some v3 := (hb5.cell (by exact hl4S)).trans cs4; have kf : w5.frozen? ⟨S, 0, none⟩ = false := (hb5.frozen (by exact hl4S)).trans f4; have f50 : w5.cell? ⟨w.heap.size, 0, none⟩ = some (Value.string (strOf dt)) := (hb5.cell (by exact hl4F)).trans (fc4 0); have f51 : w5.cell? ⟨w.heap.size, 1, none⟩ = some (Value.string (strOf F.d)) := (hb5.cell (by exact hl4F)).trans (fc4 1); have f52 : w5.cell? ⟨w.heap.size, 2, none⟩ = some (Value.int IntKind.i64 (F.s : Int)) := (hb5.cell (by exact hl4F)).trans (fc4 2); have hs5 : wc.heap.size ≤ w5.heap.size := Nat.le_trans (Nat.le_refl _) hb5.size; have hlo5 : ∀ g, Value.ownBlock (.slice a5 (wOut (wOut fs nm) dt).length c5) = some g → wc.heap.size ≤ g := (fun g hg => Nat.le_trans (Nat.le_refl _) (World.ownsRow.lt ho5 g hg).1); have hbb5 : Below wc.heap.size wc w5 := (by first | exact ⟨hb5.os, hb5.tape, hb5.output, hb5.size, hb5.block⟩ | exact hb4b.trans ⟨hb5.os, hb5.tape, hb5.output, hb5.size, fun k hk => hb5.block k (Nat.lt_of_lt_of_le hk (by show _ ≤ (World.alloc _ _).heap.size; simp))⟩); have hF5 : w.heap.size < w5.heap.size := Nat.lt_of_lt_of_le hF4 hs5; have hD5 : D < w5.heap.size := Nat.lt_of_lt_of_le hD4 hs5) | (go_at_call 80; refine (awithout_any low S _ (wOut fs nm) (stepL left) dt (wc.alloc (Obj.cells #[Value.string (strOf dt), Value.string (strOf F.d), Value.int IntKind.i64 (F.s : Int)] 107)).drew H4b.out.drew (by omega)).mono ?_; rintro r w5 ⟨v5, rfl, ho5, hb5⟩; obtain ⟨a5, c5, rfl, _⟩ := row3 ho5; have kd : w5.cell? ⟨D, 0, none⟩ = some (.pointer (some ⟨S, 0, none⟩)) := (hb5.cell (by exact hlbD)).trans cdb; have ks : w5.cell? ⟨S, 0, none⟩ = some v3 := (hb5.cell (by exact hlbS)).trans csb; have kf : w5.frozen? ⟨S, 0, none⟩ = false := (hb5.frozen (by exact hlbS)).trans fb; have f50 : w5.cell? ⟨w.heap.size, 0, none⟩ = some (Value.string (strOf dt)) := (hb5.cell (by exact hlbF)).trans (fcb 0); have f51 : w5.cell? ⟨w.heap.size, 1, none⟩ = some (Value.string (strOf F.d)) := (hb5.cell (by exact hlbF)).trans (fcb 1); have f52 : w5.cell? ⟨w.heap.size, 2, none⟩ = some (Value.int IntKind.i64 (F.s : Int)) := (hb5.cell (by exact hlbF)).trans (fcb 2); have hs5 : wc.heap.size ≤ w5.heap.size := Nat.le_trans (by simp) hb5.size; have hlo5 : ∀ g, Value.ownBlock (.slice a5 (wOut (wOut fs nm) dt).length c5) = some g → wc.heap.size ≤ g := (fun g hg => Nat.le_trans (by simp) (World.ownsRow.lt ho5 g hg).1); have hbb5 : Below wc.heap.size wc w5 := (by first | exact ⟨hb5.os, hb5.tape, hb5.output, hb5.size, hb5.block⟩ | exact hb4b.trans ⟨hb5.os, hb5.tape, hb5.output, hb5.size, fun k hk => hb5.block k (Nat.lt_of_lt_of_le hk (by show _ ≤ (World.alloc _ _).heap.size; simp))⟩); have hF5 : w.heap.size < w5.heap.size := Nat.lt_of_lt_of_le hF4 hs5; have hD5 : D < w5.heap.size := Nat.lt_of_lt_of_le hD4 hs5) | (refine step_append_keep rfl (.tmp 61) (.tmp 63) 96 rfl wc.heap.size 107 i0 (.agg #[.string ⟨#[]⟩, .string ⟨#[]⟩, .int .i64 0]) 3 40 Tryz.underlying96 hi0 hz0 hz1 hz2 rfl (by decide) (.slice a5 (wOut (wOut fs nm) dt).length c5) (wOut (wOut fs nm) dt).length ((wOut (wOut fs nm) dt).flatMap FD.cells) (by simp [Act.eval]) (World.ownsRow.alloc ho5 _) ⟨w5.heap.size, 0, none⟩ 1 1 [Value.string (strOf dt), Value.string (strOf F.d), Value.int IntKind.i64 (F.s : Int)] (by omega) (by simp [Act.eval]) rfl (by intro j u hu; rw [Go.WideShapes.add_plain]; refine (World.cell?_alloc_at _ _ _ _ rfl).trans ?_; simpa using hu) (by intro u hu; simp at hu; rcases hu with rfl | rfl | rfl <;> rfl) (by unfold maxLen; omega) (by omega) (by first | exact hs5 | exact hb5.size | (show _ ≤ (World.alloc _ _).heap.size; simp; omega)) ?_; intro v6 w6 ho6 hg6 hloc6; obtain ⟨va6, vc6, rfl⟩ := shape_of ho6; have hblk6 : ∀ k, k < wc.heap.size → w6.heap[k]? = w5.heap[k]? := (fun k hk => (hg6.block k (by show _ < (World.alloc _ _).heap.size; simp; omega) (fun hh => by have h9 := hlo5 k hh.symm; omega)).trans (heap_alloc_old w5 _ (by omega))); have hs6 : w5.heap.size ≤ w6.heap.size := Nat.le_trans (by first | exact Nat.le_refl _ | (show _ ≤ (World.alloc _ _).heap.size; simp)) hg6.size; have kd6 : w6.cell? ⟨D, 0, none⟩ = some (.pointer (some ⟨S, 0, none⟩)) := (World.cell?_of_block (w := w5) (a := ⟨D, 0, none⟩) (hblk6 D hD4)).trans kd; have ks6 : w6.cell? ⟨S, 0, none⟩ = some v3 := (World.cell?_of_block (w := w5) (a := ⟨S, 0, none⟩) (hblk6 S hS4)).trans ks; have kf6 : w6.frozen? ⟨S, 0, none⟩ = false := (World.frozen?_of_block (w := w5) (a := ⟨S, 0, none⟩) (hblk6 S hS4)).trans kf; have f60 : w6.cell? ⟨w.heap.size, 0, none⟩ = some (Value.string (strOf dt)) := (World.cell?_of_block (w := w5) (a := ⟨w.heap.size, 0, none⟩) (hblk6 _ hF4)).trans f50; have f61 : w6.cell? ⟨w.heap.size, 1, none⟩ = some (Value.string (strOf F.d)) := (World.cell?_of_block (w := w5) (a := ⟨w.heap.size, 1, none⟩) (hblk6 _ hF4)).trans f51; have f62 : w6.cell? ⟨w.heap.size, 2, none⟩ = some (Value.int IntKind.i64 (F.s : Int)) := (World.cell?_of_block (w := w5) (a := ⟨w.heap.size, 2, none⟩) (hblk6 _ hF4)).trans f52) | (refine step_append_keep rfl (.tmp 61) (.tmp 63) 96 rfl (wc.alloc (Obj.cells #[Value.string (strOf dt), Value.string (strOf F.d), Value.int IntKind.i64 (F.s : Int)] 107)).heap.size 107 i0 (.agg #[.string ⟨#[]⟩, .string ⟨#[]⟩, .int .i64 0]) 3 40 Tryz.underlying96 hi0 hz0 hz1 hz2 rfl (by decide) (.slice a5 (wOut (wOut fs nm) dt).length c5) (wOut (wOut fs nm) dt).length ((wOut (wOut fs nm) dt).flatMap FD.cells) (by simp [Act.eval]) ho5 ⟨wc.heap.size, 0, none⟩ 1 1 [Value.string (strOf dt), Value.string (strOf F.d), Value.int IntKind.i64 (F.s : Int)] (by omega) (by simp [Act.eval]) rfl (by intro j u hu; rw [Go.WideShapes.add_plain]; refine (hb5.cell (by show wc.heap.size < (World.alloc _ _).heap.size; simp)).trans ((World.cell?_alloc_at _ _ _ _ rfl).trans ?_); simpa using hu) (by intro u hu; simp at hu; rcases hu with rfl | rfl | rfl <;> rfl) (by unfold maxLen; omega) (by omega) (by first | exact hs5 | exact hb5.size | (show _ ≤ (World.alloc _ _).heap.size; simp; omega)) ?_; intro v6 w6 ho6 hg6 hloc6; obtain ⟨va6, vc6, rfl⟩ := shape_of ho6; have hblk6 : ∀ k, k < wc.heap.size → w6.heap[k]? = w5.heap[k]? := (fun k hk => hg6.block k (by omega) (fun hh => by have h9 := hlo5 k hh.symm; omega)); have hs6 : w5.heap.size ≤ w6.heap.size := Nat.le_trans (by first | exact Nat.le_refl _ | (show _ ≤ (World.alloc _ _).heap.size; simp)) hg6.size; have kd6 : w6.cell? ⟨D, 0, none⟩ = some (.pointer (some ⟨S, 0, none⟩)) := (World.cell?_of_block (w := w5) (a := ⟨D, 0, none⟩) (hblk6 D hD4)).trans kd; have ks6 : w6.cell? ⟨S, 0, none⟩ = some v3 := (World.cell?_of_block (w := w5) (a := ⟨S, 0, none⟩) (hblk6 S hS4)).trans ks; have kf6 : w6.frozen? ⟨S, 0, none⟩ = false := (World.frozen?_of_block (w := w5) (a := ⟨S, 0, none⟩) (hblk6 S hS4)).trans kf; have f60 : w6.cell? ⟨w.heap.size, 0, none⟩ = some (Value.string (strOf dt)) := (World.cell?_of_block (w := w5) (a := ⟨w.heap.size, 0, none⟩) (hblk6 _ hF4)).trans f50; have f61 : w6.cell? ⟨w.heap.size, 1, none⟩ = some (Value.string (strOf F.d)) := (World.cell?_of_block (w := w5) (a := ⟨w.heap.size, 1, none⟩) (hblk6 _ hF4)).trans f51; have f62 : w6.cell? ⟨w.heap.size, 2, none⟩ = some (Value.int IntKind.i64 (F.s : Int)) := (World.cell?_of_block (w := w5) (a := ⟨w.heap.size, 2, none⟩) (hblk6 _ hF4)).trans f52))
    all_goals
      have ho6' : w6.ownsRow wc.heap.size 107 3 (.slice va6 ((wOut (wOut fs nm) dt).length + 1) vc6) ((wOut (wOut fs nm) dt).length + 1) ((wOut (wOut fs nm) dt).flatMap FD.cells ++ [Value.string (strOf dt), Value.string (strOf F.d), Value.int IntKind.i64 (F.s : Int)]) := row_low ho6 (by first | exact Nat.le_refl _ | simp)
      have hlt6 : ∀ g, Value.ownBlock (.slice va6 ((wOut (wOut fs nm) dt).length + 1) vc6) = some g → wc.heap.size ≤ g := fun g hg => (World.ownsRow.lt ho6' g hg).1
      have hst6 : w6.heap[S]? = some (.cells #[v3, .int .i64 (stepL left)] 98 (0, 0)) := (hblk6 S hS4).trans ((hbb5.block S hS4).trans H4.out.st)
      have hsw := HK4.out.size
      have hk6 : Kpt (fun b => b = S ∨ some b = Value.ownBlock (.slice (some ⟨g, 0, none⟩) fs.length c)) w w6 := ⟨hg6.os.trans (hbb5.os.trans HK4.out.os), hg6.tape.trans (hbb5.tape.trans HK4.out.tape), hg6.output.trans (hbb5.output.trans HK4.out.output), by have := hbb5.size; omega, fun k hk hA => (hblk6 k (by omega)).trans ((hbb5.block k (by omega)).trans (HK4.out.block k hk (fun hh => hA (.inl hh))))⟩
      have HF : Hid (Did 98 107 low w S (.slice (some ⟨g, 0, none⟩) fs.length c) (aRen fs nm dt) (stepL left) (w6.setCell ⟨S, 0, none⟩ (.slice va6 ((wOut (wOut fs nm) dt).length + 1) vc6))) := by
        unfold Hid
        rw [HR.out]
        refine ⟨.slice va6 ((wOut (wOut fs nm) dt).length + 1) vc6, DS.store (low := low) (low' := wc.heap.size) hst6 ?_ (by omega) (fun hh => by have := hlt6 S hh; omega), hk6.trans (Kpt.set w6 S 0 _) (fun b _ hb => .inl hb), fun g' hg' => .inr (by have := hlt6 g' hg'; omega)⟩
        rw [List.length_append, List.flatMap_append]
        simp only [List.length_cons, List.length_nil, List.flatMap_cons, List.flatMap_nil, List.append_nil]
        exact ho6'
      clear ho6' hlt6 hst6 hk6 ho6 hg6 hloc6 hblk6 ho5 hb5 hbb5
    all_goals go_wp2
    all_goals go_ret
    all_goals exact ⟨rfl, HF.out⟩



def cN (keep : Int) (f : FD) : Nat := if keep < 0 then f.s else if keep < (f.d.length : Int) - (f.s : Int) then f.s + keep.toNat else f.d.length
def crF (keep : Int) (f : FD) : FD := ⟨f.n, f.d.take (cN keep f), cN keep f⟩
theorem cN_le (keep : Int) (f : FD) (h : f.s ≤ f.d.length) : cN keep f ≤ f.d.length := by
  unfold cN
  split
  · exact h
  · split
    · omega
    · exact Nat.le_refl _
theorem str_take (d : List UInt8) (n : Nat) (h : n ≤ d.length) : (strOf d).extract 0 n = strOf (d.take n) := by
  unfold strOf
  apply ByteArray.ext
  simp [ByteArray.data_extract]
set_option maxHeartbeats 8000000 in
set_option maxRecDepth 20000 in
theorem rcrash_any (low R : Nat) (v : Value) (fs : List FD) (left keep : Int) (w : World) (h : DS 105 109 low w R v fs left) (hl : fs.length ≤ 3000000000) (hb : -9223372036854775808 ≤ keep ∧ keep ≤ 9223372036854775807) (hsafe : ∀ f ∈ fs, f.s ≤ f.d.length ∧ f.d.length ≤ 3000000000) :
    Calls Tryz.prog 16 #[.pointer (some ⟨R, 0, none⟩), .int .i64 keep] w fun r w' => r = .returned (.pointer (some ⟨w.heap.size, 0, none⟩)) ∧ (∃ v', DS 105 109 w.heap.size w' w.heap.size v' (fs.map (crF keep)) (-1)) ∧ Below w.heap.size w w' := by
  obtain ⟨i0, hi0, hz0, hz1, hz2⟩ := info_parts info78
  have hR := h.lt
  have c0 := h.cell 0
  simp at c0
  obtain ⟨a, c, hv, hrow⟩ := row3 h.row
  subst hv
  have HR : Hid _ := hrow
  have HSf : Hid _ := hsafe
  clear h hrow hsafe
  go_enter Tryz.func16, Tryz.ntmps16
  go_wp2_with fail
  refine (rnew_any w.heap.size w).mono ?_
  rintro r w1 ⟨rfl, hd1, hb1, hs1⟩
  have HD1 : Hid (DS 105 109 w.heap.size w1 w.heap.size (.slice none 0 0) [] (-1)) := hd1
  have HB1 : Hid (Below w.heap.size w w1) := hb1
  clear hd1 hb1
  go_wp2_with fail
  go_loopw [6, 7, 8] (fun ix _ _ wr => ∃ (t : Nat) (vo : Value), t ≤ fs.length ∧ ix = .int .i64 t ∧ DS 105 109 w.heap.size wr w.heap.size vo ((fs.take t).map (crF keep)) (-1) ∧ Below w.heap.size w wr) (fun ix _ _ _ => fs.length - (intOf ix).toNat)
  case atStart => exact ⟨0, _, by omega, rfl, HD1.out, HB1.out⟩
  case round =>
    clear HD1 HB1
    obtain ⟨t, vo, ht, rfl, hd, hbr⟩ := hrel
    have hcR := (hbr.cell (p := ⟨R, 0, none⟩) hR).trans c0
    have hbs := hbr.size
    by_cases htl : t < fs.length
    · obtain ⟨g, ha, _, hgl, hcc⟩ := HR.out.resolve_left (by omega)
      subst ha
      have j0 := (hbr.cell (p := ⟨g, t * 3 + 0, none⟩) hgl).trans (hcc _ _ (file_at fs t htl 0 (by omega)))
      have j1 := (hbr.cell (p := ⟨g, t * 3 + 1, none⟩) hgl).trans (hcc _ _ (file_at fs t htl 1 (by omega)))
      have j2 := (hbr.cell (p := ⟨g, t * 3 + 2, none⟩) hgl).trans (hcc _ _ (file_at fs t htl 2 (by omega)))
      simp [FD.cells] at j0 j1 j2
      have htl2 : (t : Int) < (fs.length : Int) := by omega
      have HT : Hid ((fs.take (t + 1)).map (crF keep) = (fs.take t).map (crF keep) ++ [crF keep fs[t]]) := by unfold Hid; rw [List.take_succ_eq_append_getElem htl, List.map_append]; rfl
      obtain ⟨hsf, hdl⟩ := HSf.out fs[t] (List.getElem_mem htl)
      have hcn := cN_le keep fs[t] hsf
      have HCF : Hid (crF keep fs[t] = ⟨fs[t].n, fs[t].d.take (cN keep fs[t]), cN keep fs[t]⟩) := rfl
      have HCN : Hid (cN keep fs[t] = if keep < 0 then fs[t].s else if keep < (fs[t].d.length : Int) - (fs[t].s : Int) then fs[t].s + keep.toNat else fs[t].d.length) := rfl
      clear hcc
      generalize fs[t] = F at *
      have hsz : (strOf F.d).size = F.d.length := strOf_size _
      have HDS : Hid (DS 105 109 w.heap.size wr w.heap.size vo ((fs.take t).map (crF keep)) (-1)) := hd
      have HBr : Hid (Below w.heap.size w wr) := hbr
      have co := hd.cell 0
      have fo := hd.free 0
      simp at co
      have hO := hd.lt
      clear hd hbr
      have hb2 := (Below.refl wr.heap.size wr).alloc (Nat.le_refl _) (Obj.cells #[Value.string (strOf F.n), Value.string (strOf F.d), Value.int IntKind.i64 (F.s : Int)] 109)
      have fc2 : ∀ i, (wr.alloc (Obj.cells #[Value.string (strOf F.n), Value.string (strOf F.d), Value.int IntKind.i64 (F.s : Int)] 109)).cell? ⟨wr.heap.size, i, none⟩ = #[Value.string (strOf F.n), Value.string (strOf F.d), Value.int IntKind.i64 (F.s : Int)][i]? := fun i => World.cell?_alloc_at _ _ _ _ rfl
      have H2 : Hid (DS 105 109 w.heap.size (wr.alloc (Obj.cells #[Value.string (strOf F.n), Value.string (strOf F.d), Value.int IntKind.i64 (F.s : Int)] 109)) w.heap.size vo ((fs.take t).map (crF keep)) (-1)) := HDS.out.later hb2
      have HB2 : Hid (Below w.heap.size w (wr.alloc (Obj.cells #[Value.string (strOf F.n), Value.string (strOf F.d), Value.int IntKind.i64 (F.s : Int)] 109))) := HBr.out.trans (hb2.mono hbs)
      have hs2 : (wr.alloc (Obj.cells #[Value.string (strOf F.n), Value.string (strOf F.d), Value.int IntKind.i64 (F.s : Int)] 109)).heap.size = wr.heap.size + 1 := by simp
      have hdi : (F.d.length : Int) - (F.s : Int) ≤ 3000000000 := by omega
      have hX : cN keep F = F.s ∧ keep < 0 ∨ ¬ keep < 0 ∧ keep < (F.d.length : Int) - (F.s : Int) ∧ (cN keep F : Int) = (F.s : Int) + keep ∨ ¬ keep < 0 ∧ ¬ keep < (F.d.length : Int) - (F.s : Int) ∧ cN keep F = F.d.length := by
        rw [HCN.out]
        by_cases h1 : keep < 0
        · exact .inl ⟨by rw [if_pos h1], h1⟩
        · by_cases h2 : keep < (F.d.length : Int) - (F.s : Int)
          · exact .inr (.inl ⟨h1, h2, by rw [if_neg h1, if_pos h2]; omega⟩)
          · exact .inr (.inr ⟨h1, h2, by rw [if_neg h1, if_neg h2]⟩)
      have HX : Hid _ := hX
      clear hb2 hX
      obtain ⟨ao, co1, hvo, _⟩ := row3 H2.out.row
      have hlen : ((fs.take t).map (crF keep)).length = t := by rw [List.length_map, List.length_take]; omega
      rw [hlen] at hvo
      subst hvo
      have HRow : Hid ((wr.alloc (Obj.cells #[Value.string (strOf F.n), Value.string (strOf F.d), Value.int IntKind.i64 (F.s : Int)] 109)).ownsRow w.heap.size 109 3 (.slice ao t co1) t (((fs.take t).map (crF keep)).flatMap FD.cells)) := by have h9 := H2.out.row; rw [hlen] at h9; exact h9
      have HOff : Hid (Value.ownBlock (.slice ao t co1) ≠ some w.heap.size) := HDS.out.off (by decide)
      have HOffF : Hid (Value.ownBlock (.slice ao t co1) ≠ some wr.heap.size) := fun hh => by have := (HDS.out.row.lt wr.heap.size hh).2; omega
      have co2 : (wr.alloc (Obj.cells #[Value.string (strOf F.n), Value.string (strOf F.d), Value.int IntKind.i64 (F.s : Int)] 109)).cell? ⟨w.heap.size, 0, none⟩ = some (.slice ao t co1) := (World.cell?_alloc_past _ _ _ hO).trans co
      have fo2 := H2.out.free 0
      have hO2 := H2.out.lt
      have p0 : (wr.alloc (Obj.cells #[Value.string (strOf F.n), Value.string (strOf F.d), Value.int IntKind.i64 (F.s : Int)] 109)).cell? ⟨wr.heap.size, 0, none⟩ = some (Value.string (strOf F.n)) := fc2 0
      have p1 : (wr.alloc (Obj.cells #[Value.string (strOf F.n), Value.string (strOf F.d), Value.int IntKind.i64 (F.s : Int)] 109)).cell? ⟨wr.heap.size, 1, none⟩ = some (Value.string (strOf F.d)) := fc2 1
      have p2 : (wr.alloc (Obj.cells #[Value.string (strOf F.n), Value.string (strOf F.d), Value.int IntKind.i64 (F.s : Int)] 109)).cell? ⟨wr.heap.size, 2, none⟩ = some (Value.int IntKind.i64 (F.s : Int)) := fc2 2
      clear fc2
      rcases HX.out with ⟨e, hk0⟩ | ⟨hk0, hk1, e⟩ | ⟨hk0, hk1, e⟩
      · go_wp2_with fail
        have HE : Hid (crF keep F = ⟨F.n, F.d.take (F.s), F.s⟩) := by unfold Hid; rw [HCF.out, e]
        have HSt : Hid ((strOf F.d).extract 0 (F.s) = strOf (F.d.take (F.s))) := str_take F.d (F.s) (by omega)
        generalize (wr.alloc (Obj.cells #[Value.string (strOf F.n), Value.string (strOf F.d), Value.int IntKind.i64 (F.s : Int)] 109)) = W2 at *
        have q1 : (W2.alloc (Obj.cells #[Value.string (strOf F.n), Value.string ((strOf F.d).extract 0 F.s), Value.int IntKind.i64 ((F.s : Nat) : Int)] 109)).drew.cell? ⟨w.heap.size, 0, none⟩ = some (.slice ao t co1) := (World.cell?_alloc_past _ _ _ hO2).trans co2
        refine wp_region_held_drew (S := (fun w' => w'.cell? ⟨wr.heap.size, 0, none⟩ = some (Value.string (strOf F.n)) ∧ w'.cell? ⟨wr.heap.size, 1, none⟩ = some (Value.string (strOf F.d)) ∧ w'.cell? ⟨wr.heap.size, 2, none⟩ = some (Value.int IntKind.i64 (F.s : Int)))) (by kernel_rfl) (by (try dsimp only); (first | (and_intros <;> assumption) | (and_intros <;> first | (exact (World.cell?_setCell_other _ _ _ _ (by intro hh; have h9 := congrArg Addr.block hh; simp at h9; omega)).trans (by assumption)) | (exact (World.cell?_alloc_past _ _ _ (by first | assumption | omega)).trans (by assumption))) | go_keep)) (fun hHeld => ?_)
        refine wpAnyH_take (i := 0) (v := ?_) rfl (by kernel_rfl) (by kernel_rfl) (by kernel_rfl) (fun _ _ _ h => h) (Or.inl ⟨by rfl, ?_⟩) (by assumption) ?_
        rotate_left
        · intro w hSw; (try dsimp only at hSw); go_simp; (try with_reducible rfl)
        try simp only [Act.put, List.setIfInBounds_toArray, List.set_cons_zero, List.set_cons_succ]
        refine wpAnyH_take (i := 1) (v := ?_) rfl (by kernel_rfl) (by kernel_rfl) (by kernel_rfl) (fun _ _ _ h => h) (Or.inl ⟨by rfl, ?_⟩) (by assumption) ?_
        rotate_left
        · intro w hSw; (try dsimp only at hSw); go_simp; (try with_reducible rfl)
        try simp only [Act.put, List.setIfInBounds_toArray, List.set_cons_zero, List.set_cons_succ]
        refine wpAnyH_take (i := 2) (v := ?_) rfl (by kernel_rfl) (by kernel_rfl) (by kernel_rfl) (fun _ _ _ h => h) (Or.inl ⟨by rfl, ?_⟩) (by assumption) ?_
        rotate_left
        · intro w hSw; (try dsimp only at hSw); go_simp; (try with_reducible rfl)
        try simp only [Act.put, List.setIfInBounds_toArray, List.set_cons_zero, List.set_cons_succ]
        refine wpAnyH_take (i := 3) (v := ?_) rfl (by kernel_rfl) (by kernel_rfl) (by kernel_rfl) (fun _ _ _ h => h) (Or.inl ⟨by rfl, ?_⟩) (by assumption) ?_
        rotate_left
        · intro w hSw; (try dsimp only at hSw); go_simp; (try with_reducible rfl)
        try simp only [Act.put, List.setIfInBounds_toArray, List.set_cons_zero, List.set_cons_succ]
        refine wpAnyH_take (i := 5) (v := ?_) rfl (by kernel_rfl) (by kernel_rfl) (by kernel_rfl) (fun _ _ _ h => h) (Or.inl ⟨by rfl, ?_⟩) (by assumption) ?_
        rotate_left
        · intro w hSw; (try dsimp only at hSw); go_simp; (try with_reducible rfl)
        try simp only [Act.put, List.setIfInBounds_toArray, List.set_cons_zero, List.set_cons_succ]
        refine wpAnyH_take (i := 6) (v := ?_) rfl (by kernel_rfl) (by kernel_rfl) (by kernel_rfl) (fun _ _ _ h => h) (Or.inl ⟨by rfl, ?_⟩) (by assumption) ?_
        rotate_left
        · intro w hSw; (try dsimp only at hSw); go_simp; (try with_reducible rfl)
        try simp only [Act.put, List.setIfInBounds_toArray, List.set_cons_zero, List.set_cons_succ]
        refine wpAnyH_take (i := 7) (v := ?_) rfl (by kernel_rfl) (by kernel_rfl) (by kernel_rfl) (fun _ _ _ h => h) (Or.inl ⟨by rfl, ?_⟩) (by assumption) ?_
        rotate_left
        · intro w hSw; (try dsimp only at hSw); go_simp; (try with_reducible rfl)
        try simp only [Act.put, List.setIfInBounds_toArray, List.set_cons_zero, List.set_cons_succ]
        refine wpAnyH_take (i := 8) (v := ?_) rfl (by kernel_rfl) (by kernel_rfl) (by kernel_rfl) (fun _ _ _ h => h) (Or.inl ⟨by rfl, ?_⟩) (by assumption) ?_
        rotate_left
        · intro w hSw; (try dsimp only at hSw); go_simp; (try with_reducible rfl)
        try simp only [Act.put, List.setIfInBounds_toArray, List.set_cons_zero, List.set_cons_succ]
        refine wpAnyH_take (i := 9) (v := ?_) rfl (by kernel_rfl) (by kernel_rfl) (by kernel_rfl) (fun _ _ _ h => h) (Or.inl ⟨by rfl, ?_⟩) (by assumption) ?_
        rotate_left
        · intro w hSw; (try dsimp only at hSw); go_simp; (try with_reducible rfl)
        try simp only [Act.put, List.setIfInBounds_toArray, List.set_cons_zero, List.set_cons_succ]
        refine wpAnyH_take (i := 10) (v := ?_) rfl (by kernel_rfl) (by kernel_rfl) (by kernel_rfl) (fun _ _ _ h => h) (Or.inl ⟨by rfl, ?_⟩) (by assumption) ?_
        rotate_left
        · intro w hSw; (try dsimp only at hSw); go_simp; (try with_reducible rfl)
        try simp only [Act.put, List.setIfInBounds_toArray, List.set_cons_zero, List.set_cons_succ]
        refine wpAnyH_take (i := 11) (v := ?_) rfl (by kernel_rfl) (by kernel_rfl) (by kernel_rfl) (fun _ _ _ h => h) (Or.inl ⟨by rfl, ?_⟩) (by assumption) ?_
        rotate_left
        · intro w hSw; (try dsimp only at hSw); go_simp; (try with_reducible rfl)
        try simp only [Act.put, List.setIfInBounds_toArray, List.set_cons_zero, List.set_cons_succ]
        refine wpAnyH_take (i := 12) (v := ?_) rfl (by kernel_rfl) (by kernel_rfl) (by kernel_rfl) (fun _ _ _ h => h) (Or.inl ⟨by rfl, ?_⟩) (by assumption) ?_
        rotate_left
        · intro w hSw; (try dsimp only at hSw); go_simp; (try with_reducible rfl)
        try simp only [Act.put, List.setIfInBounds_toArray, List.set_cons_zero, List.set_cons_succ]
        refine wpAnyH_ready (rs := [4, 13]) (by kernel_rfl) (by simp) ?_
        refine AllReadyH.cons rfl (fun K hK => ?_) ?_
        · go_simp
          refine hK.out _ _ ?_ (fun hHeld => ?_)
          · (try dsimp only); (first | (and_intros <;> assumption) | (and_intros <;> first | (exact (World.cell?_setCell_other _ _ _ _ (by intro hh; have h9 := congrArg Addr.block hh; simp at h9; omega)).trans (by assumption)) | (exact (World.cell?_alloc_past _ _ _ (by first | assumption | omega)).trans (by assumption))) | go_keep)
          clear hK K
          try simp only [Act.put, List.setIfInBounds_toArray, List.set_cons_zero, List.set_cons_succ]
          refine wpAnyH_ready (rs := [13]) (by kernel_rfl) (by simp) ?_
          refine AllReadyH.cons rfl (fun K hK => ?_) ?_
          · go_simp
            refine hK.out _ _ ?_ (fun hHeld => ?_)
            · (try dsimp only); (first | (and_intros <;> assumption) | (and_intros <;> first | (exact (World.cell?_setCell_other _ _ _ _ (by intro hh; have h9 := congrArg Addr.block hh; simp at h9; omega)).trans (by assumption)) | (exact (World.cell?_alloc_past _ _ _ (by first | assumption | omega)).trans (by assumption))) | go_keep)
            clear hK K
            try simp only [Act.put, List.setIfInBounds_toArray, List.set_cons_zero, List.set_cons_succ]
            refine wpAnyH_ready (rs := [14]) (by kernel_rfl) (by simp) ?_
            refine AllReadyH.cons rfl (fun K hK => ?_) ?_
            · refine step_append_keep rfl (.tmp 47) (.tmp 56) 103 rfl w.heap.size 109 i0 (.agg #[.string ⟨#[]⟩, .string ⟨#[]⟩, .int .i64 0]) 3 40 Tryz.underlying103 hi0 hz0 hz1 hz2 rfl (by decide) (.slice ao t co1) t (((fs.take t).map (crF keep)).flatMap FD.cells) (by simp [Act.eval]) (by exact (World.ownsRow.alloc HRow.out _).drew) ⟨W2.heap.size, 0, none⟩ 1 1 [Value.string (strOf F.n), Value.string ((strOf F.d).extract 0 F.s), Value.int IntKind.i64 ((F.s : Nat) : Int)] (by omega) (by simp [Act.eval]) rfl (by intro j u hu; rw [Go.WideShapes.add_plain]; refine (World.cell?_alloc_at _ _ _ _ rfl).trans ?_; simpa using hu) (by intro u hu; simp at hu; rcases hu with rfl | rfl | rfl <;> rfl) (by unfold maxLen; omega) (by omega) (by show _ ≤ (World.alloc _ _).heap.size; simp; omega) ?_
              intro v6 w6 ho6 hg6 hloc6
              obtain ⟨va6, vc6, rfl⟩ := shape_of ho6
              have hblk6 : ∀ k, k < W2.heap.size → Value.ownBlock (.slice ao t co1) ≠ some k → w6.heap[k]? = W2.heap[k]? := fun k hk hne => (hg6.block k (by show _ < (World.alloc _ _).heap.size; simp; omega) (Ne.symm hne)).trans (heap_alloc_old W2 _ hk)
              have hs6 : W2.heap.size ≤ w6.heap.size := Nat.le_trans (by show _ ≤ (World.alloc _ _).heap.size; simp) hg6.size
              have hO6 := hblk6 w.heap.size (by omega) HOff.out
              have ks6 : w6.cell? ⟨w.heap.size, 0, none⟩ = some (.slice ao t co1) := (World.cell?_of_block (w := W2) (a := ⟨w.heap.size, 0, none⟩) hO6).trans co2
              have kf6 : w6.frozen? ⟨w.heap.size, 0, none⟩ = false := (World.frozen?_of_block (w := W2) (a := ⟨w.heap.size, 0, none⟩) hO6).trans fo2
              have hF6 := hblk6 wr.heap.size (by omega) HOffF.out
              have y0 : w6.cell? ⟨wr.heap.size, 0, none⟩ = some (Value.string (strOf F.n)) := (World.cell?_of_block (w := W2) (a := ⟨wr.heap.size, 0, none⟩) hF6).trans p0
              have y1 : w6.cell? ⟨wr.heap.size, 1, none⟩ = some (Value.string (strOf F.d)) := (World.cell?_of_block (w := W2) (a := ⟨wr.heap.size, 1, none⟩) hF6).trans p1
              have y2 : w6.cell? ⟨wr.heap.size, 2, none⟩ = some (Value.int IntKind.i64 (F.s : Int)) := (World.cell?_of_block (w := W2) (a := ⟨wr.heap.size, 2, none⟩) hF6).trans p2
              refine hK.out _ _ ?_ (fun hHeld => ?_)
              · (try dsimp only); (first | (and_intros <;> assumption) | (and_intros <;> first | (exact (World.cell?_setCell_other _ _ _ _ (by intro hh; have h9 := congrArg Addr.block hh; simp at h9; omega)).trans (by assumption)) | (exact (World.cell?_alloc_past _ _ _ (by first | assumption | omega)).trans (by assumption))) | go_keep)
              clear hK K
              try simp only [Act.put, List.setIfInBounds_toArray, List.set_cons_zero, List.set_cons_succ]
              refine wpAnyH_ready (rs := [15]) (by kernel_rfl) (by simp) ?_
              refine AllReadyH.cons rfl (fun K hK => ?_) ?_
              · go_simp
                refine hK.out _ _ ?_ (fun hHeld => ?_)
                · (try dsimp only); (first | (and_intros <;> assumption) | (and_intros <;> first | (exact (World.cell?_setCell_other _ _ _ _ (by intro hh; have h9 := congrArg Addr.block hh; simp at h9; omega)).trans (by assumption)) | (exact (World.cell?_alloc_past _ _ _ (by first | assumption | omega)).trans (by assumption))) | go_keep)
                clear hK K
                try simp only [Act.put, List.setIfInBounds_toArray, List.set_cons_zero, List.set_cons_succ]
                refine wpAnyH_ready (rs := [16]) (by kernel_rfl) (by simp) ?_
                refine AllReadyH.cons rfl (fun K hK => ?_) ?_
                · go_simp
                  refine hK.out _ _ ?_ (fun hHeld => ?_)
                  · (try dsimp only); (first | (and_intros <;> assumption) | (and_intros <;> first | (exact (World.cell?_setCell_other _ _ _ _ (by intro hh; have h9 := congrArg Addr.block hh; simp at h9; omega)).trans (by assumption)) | (exact (World.cell?_alloc_past _ _ _ (by first | assumption | omega)).trans (by assumption))) | go_keep)
                  clear hK K
                  try simp only [Act.put, List.setIfInBounds_toArray, List.set_cons_zero, List.set_cons_succ]
                  refine wpAnyH_ready (rs := [17]) (by kernel_rfl) (by simp) ?_
                  refine AllReadyH.cons rfl (fun K hK => ?_) ?_
                  · go_simp
                    refine hK.out _ _ ?_ (fun hHeld => ?_)
                    · (try dsimp only); (first | (and_intros <;> assumption) | (and_intros <;> first | (exact (World.cell?_setCell_other _ _ _ _ (by intro hh; have h9 := congrArg Addr.block hh; simp at h9; omega)).trans (by assumption)) | (exact (World.cell?_alloc_past _ _ _ (by first | assumption | omega)).trans (by assumption))) | go_keep)
                    clear hK K
                    try simp only [Act.put, List.setIfInBounds_toArray, List.set_cons_zero, List.set_cons_succ]
                    refine wpAnyH_done (by kernel_rfl) ?_ _
                    have hlt6 : ∀ g, Value.ownBlock (.slice va6 (t + 1) vc6) = some g → w.heap.size ≤ g := fun g hg => (World.ownsRow.lt ho6 g hg).1
                    have hne6 : Value.ownBlock (.slice va6 (t + 1) vc6) ≠ some w.heap.size := by
                      intro hh
                      obtain ⟨g', d1, d2⟩ := hloc6
                      rw [d1] at hh
                      have hgO : g' = w.heap.size := by simpa using hh
                      subst hgO
                      rcases d2 with d2 | ⟨d2, _⟩
                      · exact HOff.out d2
                      · have d3 : W2.heap.size + 1 ≤ w.heap.size := Nat.le_trans (by show _ ≤ (World.alloc _ _).heap.size; simp) d2
                        omega
                    have HN : Hid (DS 105 109 w.heap.size (w6.setCell ⟨w.heap.size, 0, none⟩ (.slice va6 (t + 1) vc6)) w.heap.size (.slice va6 (t + 1) vc6) ((fs.take (t + 1)).map (crF keep)) (-1)) := by
                      refine DS.store (low' := w.heap.size) (hO6.trans H2.out.st) ?_ (Nat.le_refl _) hne6
                      rw [HT.out, List.length_append, List.flatMap_append, hlen, HE.out]
                      simp only [List.length_cons, List.length_nil, List.flatMap_cons, List.flatMap_nil, List.append_nil]
                      rw [HSt.out] at ho6
                      exact ho6
                    have HBN : Hid (Below w.heap.size w (w6.setCell ⟨w.heap.size, 0, none⟩ (.slice va6 (t + 1) vc6))) := by
                      have hb := HB2.out
                      refine Below.setCell ⟨hg6.os.trans hb.os, hg6.tape.trans hb.tape, hg6.output.trans hb.output, by have := hb.size; omega, fun k hk => (hblk6 k (by have := hb.size; omega) (fun hh => by have := (World.ownsRow.lt HRow.out k hh).1; omega)).trans (hb.block k hk)⟩ (Nat.le_refl _) _
                    clear ho6 hg6 hloc6 hblk6 hO6 hF6 hlt6 hne6
                    go_wp2
                    go_roundw
                    case rel => exact ⟨t + 1, _, by omega, by go_num, HN.out, HBN.out⟩
                    case measure => simp [intOf]; omega
                  exact AllReadyH.nil
                exact AllReadyH.nil
              exact AllReadyH.nil
            exact AllReadyH.nil
          exact AllReadyH.nil
        refine AllReadyH.cons rfl (fun K hK => ?_) ?_
        · go_simp
          refine hK.out _ _ ?_ (fun hHeld => ?_)
          · (try dsimp only); (first | (and_intros <;> assumption) | (and_intros <;> first | (exact (World.cell?_setCell_other _ _ _ _ (by intro hh; have h9 := congrArg Addr.block hh; simp at h9; omega)).trans (by assumption)) | (exact (World.cell?_alloc_past _ _ _ (by first | assumption | omega)).trans (by assumption))) | go_keep)
          clear hK K
          try simp only [Act.put, List.setIfInBounds_toArray, List.set_cons_zero, List.set_cons_succ]
          refine wpAnyH_ready (rs := [4]) (by kernel_rfl) (by simp) ?_
          refine AllReadyH.cons rfl (fun K hK => ?_) ?_
          · go_simp
            refine hK.out _ _ ?_ (fun hHeld => ?_)
            · (try dsimp only); (first | (and_intros <;> assumption) | (and_intros <;> first | (exact (World.cell?_setCell_other _ _ _ _ (by intro hh; have h9 := congrArg Addr.block hh; simp at h9; omega)).trans (by assumption)) | (exact (World.cell?_alloc_past _ _ _ (by first | assumption | omega)).trans (by assumption))) | go_keep)
            clear hK K
            try simp only [Act.put, List.setIfInBounds_toArray, List.set_cons_zero, List.set_cons_succ]
            refine wpAnyH_ready (rs := [14]) (by kernel_rfl) (by simp) ?_
            refine AllReadyH.cons rfl (fun K hK => ?_) ?_
            · refine step_append_keep rfl (.tmp 47) (.tmp 56) 103 rfl w.heap.size 109 i0 (.agg #[.string ⟨#[]⟩, .string ⟨#[]⟩, .int .i64 0]) 3 40 Tryz.underlying103 hi0 hz0 hz1 hz2 rfl (by decide) (.slice ao t co1) t (((fs.take t).map (crF keep)).flatMap FD.cells) (by simp [Act.eval]) (by exact (World.ownsRow.alloc HRow.out _).drew) ⟨W2.heap.size, 0, none⟩ 1 1 [Value.string (strOf F.n), Value.string ((strOf F.d).extract 0 F.s), Value.int IntKind.i64 ((F.s : Nat) : Int)] (by omega) (by simp [Act.eval]) rfl (by intro j u hu; rw [Go.WideShapes.add_plain]; refine (World.cell?_alloc_at _ _ _ _ rfl).trans ?_; simpa using hu) (by intro u hu; simp at hu; rcases hu with rfl | rfl | rfl <;> rfl) (by unfold maxLen; omega) (by omega) (by show _ ≤ (World.alloc _ _).heap.size; simp; omega) ?_
              intro v6 w6 ho6 hg6 hloc6
              obtain ⟨va6, vc6, rfl⟩ := shape_of ho6
              have hblk6 : ∀ k, k < W2.heap.size → Value.ownBlock (.slice ao t co1) ≠ some k → w6.heap[k]? = W2.heap[k]? := fun k hk hne => (hg6.block k (by show _ < (World.alloc _ _).heap.size; simp; omega) (Ne.symm hne)).trans (heap_alloc_old W2 _ hk)
              have hs6 : W2.heap.size ≤ w6.heap.size := Nat.le_trans (by show _ ≤ (World.alloc _ _).heap.size; simp) hg6.size
              have hO6 := hblk6 w.heap.size (by omega) HOff.out
              have ks6 : w6.cell? ⟨w.heap.size, 0, none⟩ = some (.slice ao t co1) := (World.cell?_of_block (w := W2) (a := ⟨w.heap.size, 0, none⟩) hO6).trans co2
              have kf6 : w6.frozen? ⟨w.heap.size, 0, none⟩ = false := (World.frozen?_of_block (w := W2) (a := ⟨w.heap.size, 0, none⟩) hO6).trans fo2
              have hF6 := hblk6 wr.heap.size (by omega) HOffF.out
              have y0 : w6.cell? ⟨wr.heap.size, 0, none⟩ = some (Value.string (strOf F.n)) := (World.cell?_of_block (w := W2) (a := ⟨wr.heap.size, 0, none⟩) hF6).trans p0
              have y1 : w6.cell? ⟨wr.heap.size, 1, none⟩ = some (Value.string (strOf F.d)) := (World.cell?_of_block (w := W2) (a := ⟨wr.heap.size, 1, none⟩) hF6).trans p1
              have y2 : w6.cell? ⟨wr.heap.size, 2, none⟩ = some (Value.int IntKind.i64 (F.s : Int)) := (World.cell?_of_block (w := W2) (a := ⟨wr.heap.size, 2, none⟩) hF6).trans p2
              refine hK.out _ _ ?_ (fun hHeld => ?_)
              · (try dsimp only); (first | (and_intros <;> assumption) | (and_intros <;> first | (exact (World.cell?_setCell_other _ _ _ _ (by intro hh; have h9 := congrArg Addr.block hh; simp at h9; omega)).trans (by assumption)) | (exact (World.cell?_alloc_past _ _ _ (by first | assumption | omega)).trans (by assumption))) | go_keep)
              clear hK K
              try simp only [Act.put, List.setIfInBounds_toArray, List.set_cons_zero, List.set_cons_succ]
              refine wpAnyH_ready (rs := [15]) (by kernel_rfl) (by simp) ?_
              refine AllReadyH.cons rfl (fun K hK => ?_) ?_
              · go_simp
                refine hK.out _ _ ?_ (fun hHeld => ?_)
                · (try dsimp only); (first | (and_intros <;> assumption) | (and_intros <;> first | (exact (World.cell?_setCell_other _ _ _ _ (by intro hh; have h9 := congrArg Addr.block hh; simp at h9; omega)).trans (by assumption)) | (exact (World.cell?_alloc_past _ _ _ (by first | assumption | omega)).trans (by assumption))) | go_keep)
                clear hK K
                try simp only [Act.put, List.setIfInBounds_toArray, List.set_cons_zero, List.set_cons_succ]
                refine wpAnyH_ready (rs := [16]) (by kernel_rfl) (by simp) ?_
                refine AllReadyH.cons rfl (fun K hK => ?_) ?_
                · go_simp
                  refine hK.out _ _ ?_ (fun hHeld => ?_)
                  · (try dsimp only); (first | (and_intros <;> assumption) | (and_intros <;> first | (exact (World.cell?_setCell_other _ _ _ _ (by intro hh; have h9 := congrArg Addr.block hh; simp at h9; omega)).trans (by assumption)) | (exact (World.cell?_alloc_past _ _ _ (by first | assumption | omega)).trans (by assumption))) | go_keep)
                  clear hK K
                  try simp only [Act.put, List.setIfInBounds_toArray, List.set_cons_zero, List.set_cons_succ]
                  refine wpAnyH_ready (rs := [17]) (by kernel_rfl) (by simp) ?_
                  refine AllReadyH.cons rfl (fun K hK => ?_) ?_
                  · go_simp
                    refine hK.out _ _ ?_ (fun hHeld => ?_)
                    · (try dsimp only); (first | (and_intros <;> assumption) | (and_intros <;> first | (exact (World.cell?_setCell_other _ _ _ _ (by intro hh; have h9 := congrArg Addr.block hh; simp at h9; omega)).trans (by assumption)) | (exact (World.cell?_alloc_past _ _ _ (by first | assumption | omega)).trans (by assumption))) | go_keep)
                    clear hK K
                    try simp only [Act.put, List.setIfInBounds_toArray, List.set_cons_zero, List.set_cons_succ]
                    refine wpAnyH_done (by kernel_rfl) ?_ _
                    have hlt6 : ∀ g, Value.ownBlock (.slice va6 (t + 1) vc6) = some g → w.heap.size ≤ g := fun g hg => (World.ownsRow.lt ho6 g hg).1
                    have hne6 : Value.ownBlock (.slice va6 (t + 1) vc6) ≠ some w.heap.size := by
                      intro hh
                      obtain ⟨g', d1, d2⟩ := hloc6
                      rw [d1] at hh
                      have hgO : g' = w.heap.size := by simpa using hh
                      subst hgO
                      rcases d2 with d2 | ⟨d2, _⟩
                      · exact HOff.out d2
                      · have d3 : W2.heap.size + 1 ≤ w.heap.size := Nat.le_trans (by show _ ≤ (World.alloc _ _).heap.size; simp) d2
                        omega
                    have HN : Hid (DS 105 109 w.heap.size (w6.setCell ⟨w.heap.size, 0, none⟩ (.slice va6 (t + 1) vc6)) w.heap.size (.slice va6 (t + 1) vc6) ((fs.take (t + 1)).map (crF keep)) (-1)) := by
                      refine DS.store (low' := w.heap.size) (hO6.trans H2.out.st) ?_ (Nat.le_refl _) hne6
                      rw [HT.out, List.length_append, List.flatMap_append, hlen, HE.out]
                      simp only [List.length_cons, List.length_nil, List.flatMap_cons, List.flatMap_nil, List.append_nil]
                      rw [HSt.out] at ho6
                      exact ho6
                    have HBN : Hid (Below w.heap.size w (w6.setCell ⟨w.heap.size, 0, none⟩ (.slice va6 (t + 1) vc6))) := by
                      have hb := HB2.out
                      refine Below.setCell ⟨hg6.os.trans hb.os, hg6.tape.trans hb.tape, hg6.output.trans hb.output, by have := hb.size; omega, fun k hk => (hblk6 k (by have := hb.size; omega) (fun hh => by have := (World.ownsRow.lt HRow.out k hh).1; omega)).trans (hb.block k hk)⟩ (Nat.le_refl _) _
                    clear ho6 hg6 hloc6 hblk6 hO6 hF6 hlt6 hne6
                    go_wp2
                    go_roundw
                    case rel => exact ⟨t + 1, _, by omega, by go_num, HN.out, HBN.out⟩
                    case measure => simp [intOf]; omega
                  exact AllReadyH.nil
                exact AllReadyH.nil
              exact AllReadyH.nil
            exact AllReadyH.nil
          exact AllReadyH.nil
        exact AllReadyH.nil
      · go_wp2_with fail
        rw [show (F.s : Int) + keep = ((cN keep F : Nat) : Int) from e.symm]
        generalize cN keep F = M at *
        clear e HX HCN
        have HE : Hid (crF keep F = ⟨F.n, F.d.take (M), M⟩) := by unfold Hid; rw [HCF.out]
        have HSt : Hid ((strOf F.d).extract 0 (M) = strOf (F.d.take (M))) := str_take F.d (M) (by omega)
        generalize (wr.alloc (Obj.cells #[Value.string (strOf F.n), Value.string (strOf F.d), Value.int IntKind.i64 (F.s : Int)] 109)) = W2 at *
        have q1 : (W2.alloc (Obj.cells #[Value.string (strOf F.n), Value.string ((strOf F.d).extract 0 M), Value.int IntKind.i64 ((M : Nat) : Int)] 109)).drew.cell? ⟨w.heap.size, 0, none⟩ = some (.slice ao t co1) := (World.cell?_alloc_past _ _ _ hO2).trans co2
        refine wp_region_held_drew (S := (fun w' => w'.cell? ⟨wr.heap.size, 0, none⟩ = some (Value.string (strOf F.n)) ∧ w'.cell? ⟨wr.heap.size, 1, none⟩ = some (Value.string (strOf F.d)) ∧ w'.cell? ⟨wr.heap.size, 2, none⟩ = some (Value.int IntKind.i64 (F.s : Int)))) (by kernel_rfl) (by (try dsimp only); (first | (and_intros <;> assumption) | (and_intros <;> first | (exact (World.cell?_setCell_other _ _ _ _ (by intro hh; have h9 := congrArg Addr.block hh; simp at h9; omega)).trans (by assumption)) | (exact (World.cell?_alloc_past _ _ _ (by first | assumption | omega)).trans (by assumption))) | go_keep)) (fun hHeld => ?_)
        refine wpAnyH_take (i := 0) (v := ?_) rfl (by kernel_rfl) (by kernel_rfl) (by kernel_rfl) (fun _ _ _ h => h) (Or.inl ⟨by rfl, ?_⟩) (by assumption) ?_
        rotate_left
        · intro w hSw; (try dsimp only at hSw); go_simp; (try with_reducible rfl)
        try simp only [Act.put, List.setIfInBounds_toArray, List.set_cons_zero, List.set_cons_succ]
        refine wpAnyH_take (i := 1) (v := ?_) rfl (by kernel_rfl) (by kernel_rfl) (by kernel_rfl) (fun _ _ _ h => h) (Or.inl ⟨by rfl, ?_⟩) (by assumption) ?_
        rotate_left
        · intro w hSw; (try dsimp only at hSw); go_simp; (try with_reducible rfl)
        try simp only [Act.put, List.setIfInBounds_toArray, List.set_cons_zero, List.set_cons_succ]
        refine wpAnyH_take (i := 2) (v := ?_) rfl (by kernel_rfl) (by kernel_rfl) (by kernel_rfl) (fun _ _ _ h => h) (Or.inl ⟨by rfl, ?_⟩) (by assumption) ?_
        rotate_left
        · intro w hSw; (try dsimp only at hSw); go_simp; (try with_reducible rfl)
        try simp only [Act.put, List.setIfInBounds_toArray, List.set_cons_zero, List.set_cons_succ]
        refine wpAnyH_take (i := 3) (v := ?_) rfl (by kernel_rfl) (by kernel_rfl) (by kernel_rfl) (fun _ _ _ h => h) (Or.inl ⟨by rfl, ?_⟩) (by assumption) ?_
        rotate_left
        · intro w hSw; (try dsimp only at hSw); go_simp; (try with_reducible rfl)
        try simp only [Act.put, List.setIfInBounds_toArray, List.set_cons_zero, List.set_cons_succ]
        refine wpAnyH_take (i := 5) (v := ?_) rfl (by kernel_rfl) (by kernel_rfl) (by kernel_rfl) (fun _ _ _ h => h) (Or.inl ⟨by rfl, ?_⟩) (by assumption) ?_
        rotate_left
        · intro w hSw; (try dsimp only at hSw); go_simp; (try with_reducible rfl)
        try simp only [Act.put, List.setIfInBounds_toArray, List.set_cons_zero, List.set_cons_succ]
        refine wpAnyH_take (i := 6) (v := ?_) rfl (by kernel_rfl) (by kernel_rfl) (by kernel_rfl) (fun _ _ _ h => h) (Or.inl ⟨by rfl, ?_⟩) (by assumption) ?_
        rotate_left
        · intro w hSw; (try dsimp only at hSw); go_simp; (try with_reducible rfl)
        try simp only [Act.put, List.setIfInBounds_toArray, List.set_cons_zero, List.set_cons_succ]
        refine wpAnyH_take (i := 7) (v := ?_) rfl (by kernel_rfl) (by kernel_rfl) (by kernel_rfl) (fun _ _ _ h => h) (Or.inl ⟨by rfl, ?_⟩) (by assumption) ?_
        rotate_left
        · intro w hSw; (try dsimp only at hSw); go_simp; (try with_reducible rfl)
        try simp only [Act.put, List.setIfInBounds_toArray, List.set_cons_zero, List.set_cons_succ]
        refine wpAnyH_take (i := 8) (v := ?_) rfl (by kernel_rfl) (by kernel_rfl) (by kernel_rfl) (fun _ _ _ h => h) (Or.inl ⟨by rfl, ?_⟩) (by assumption) ?_
        rotate_left
        · intro w hSw; (try dsimp only at hSw); go_simp; (try with_reducible rfl)
        try simp only [Act.put, List.setIfInBounds_toArray, List.set_cons_zero, List.set_cons_succ]
        refine wpAnyH_take (i := 9) (v := ?_) rfl (by kernel_rfl) (by kernel_rfl) (by kernel_rfl) (fun _ _ _ h => h) (Or.inl ⟨by rfl, ?_⟩) (by assumption) ?_
        rotate_left
        · intro w hSw; (try dsimp only at hSw); go_simp; (try with_reducible rfl)
        try simp only [Act.put, List.setIfInBounds_toArray, List.set_cons_zero, List.set_cons_succ]
        refine wpAnyH_take (i := 10) (v := ?_) rfl (by kernel_rfl) (by kernel_rfl) (by kernel_rfl) (fun _ _ _ h => h) (Or.inl ⟨by rfl, ?_⟩) (by assumption) ?_
        rotate_left
        · intro w hSw; (try dsimp only at hSw); go_simp; (try with_reducible rfl)
        try simp only [Act.put, List.setIfInBounds_toArray, List.set_cons_zero, List.set_cons_succ]
        refine wpAnyH_take (i := 11) (v := ?_) rfl (by kernel_rfl) (by kernel_rfl) (by kernel_rfl) (fun _ _ _ h => h) (Or.inl ⟨by rfl, ?_⟩) (by assumption) ?_
        rotate_left
        · intro w hSw; (try dsimp only at hSw); go_simp; (try with_reducible rfl)
        try simp only [Act.put, List.setIfInBounds_toArray, List.set_cons_zero, List.set_cons_succ]
        refine wpAnyH_take (i := 12) (v := ?_) rfl (by kernel_rfl) (by kernel_rfl) (by kernel_rfl) (fun _ _ _ h => h) (Or.inl ⟨by rfl, ?_⟩) (by assumption) ?_
        rotate_left
        · intro w hSw; (try dsimp only at hSw); go_simp; (try with_reducible rfl)
        try simp only [Act.put, List.setIfInBounds_toArray, List.set_cons_zero, List.set_cons_succ]
        refine wpAnyH_ready (rs := [4, 13]) (by kernel_rfl) (by simp) ?_
        refine AllReadyH.cons rfl (fun K hK => ?_) ?_
        · go_simp
          refine hK.out _ _ ?_ (fun hHeld => ?_)
          · (try dsimp only); (first | (and_intros <;> assumption) | (and_intros <;> first | (exact (World.cell?_setCell_other _ _ _ _ (by intro hh; have h9 := congrArg Addr.block hh; simp at h9; omega)).trans (by assumption)) | (exact (World.cell?_alloc_past _ _ _ (by first | assumption | omega)).trans (by assumption))) | go_keep)
          clear hK K
          try simp only [Act.put, List.setIfInBounds_toArray, List.set_cons_zero, List.set_cons_succ]
          refine wpAnyH_ready (rs := [13]) (by kernel_rfl) (by simp) ?_
          refine AllReadyH.cons rfl (fun K hK => ?_) ?_
          · go_simp
            refine hK.out _ _ ?_ (fun hHeld => ?_)
            · (try dsimp only); (first | (and_intros <;> assumption) | (and_intros <;> first | (exact (World.cell?_setCell_other _ _ _ _ (by intro hh; have h9 := congrArg Addr.block hh; simp at h9; omega)).trans (by assumption)) | (exact (World.cell?_alloc_past _ _ _ (by first | assumption | omega)).trans (by assumption))) | go_keep)
            clear hK K
            try simp only [Act.put, List.setIfInBounds_toArray, List.set_cons_zero, List.set_cons_succ]
            refine wpAnyH_ready (rs := [14]) (by kernel_rfl) (by simp) ?_
            refine AllReadyH.cons rfl (fun K hK => ?_) ?_
            · refine step_append_keep rfl (.tmp 47) (.tmp 56) 103 rfl w.heap.size 109 i0 (.agg #[.string ⟨#[]⟩, .string ⟨#[]⟩, .int .i64 0]) 3 40 Tryz.underlying103 hi0 hz0 hz1 hz2 rfl (by decide) (.slice ao t co1) t (((fs.take t).map (crF keep)).flatMap FD.cells) (by simp [Act.eval]) (by exact (World.ownsRow.alloc HRow.out _).drew) ⟨W2.heap.size, 0, none⟩ 1 1 [Value.string (strOf F.n), Value.string ((strOf F.d).extract 0 M), Value.int IntKind.i64 ((M : Nat) : Int)] (by omega) (by simp [Act.eval]) rfl (by intro j u hu; rw [Go.WideShapes.add_plain]; refine (World.cell?_alloc_at _ _ _ _ rfl).trans ?_; simpa using hu) (by intro u hu; simp at hu; rcases hu with rfl | rfl | rfl <;> rfl) (by unfold maxLen; omega) (by omega) (by show _ ≤ (World.alloc _ _).heap.size; simp; omega) ?_
              intro v6 w6 ho6 hg6 hloc6
              obtain ⟨va6, vc6, rfl⟩ := shape_of ho6
              have hblk6 : ∀ k, k < W2.heap.size → Value.ownBlock (.slice ao t co1) ≠ some k → w6.heap[k]? = W2.heap[k]? := fun k hk hne => (hg6.block k (by show _ < (World.alloc _ _).heap.size; simp; omega) (Ne.symm hne)).trans (heap_alloc_old W2 _ hk)
              have hs6 : W2.heap.size ≤ w6.heap.size := Nat.le_trans (by show _ ≤ (World.alloc _ _).heap.size; simp) hg6.size
              have hO6 := hblk6 w.heap.size (by omega) HOff.out
              have ks6 : w6.cell? ⟨w.heap.size, 0, none⟩ = some (.slice ao t co1) := (World.cell?_of_block (w := W2) (a := ⟨w.heap.size, 0, none⟩) hO6).trans co2
              have kf6 : w6.frozen? ⟨w.heap.size, 0, none⟩ = false := (World.frozen?_of_block (w := W2) (a := ⟨w.heap.size, 0, none⟩) hO6).trans fo2
              have hF6 := hblk6 wr.heap.size (by omega) HOffF.out
              have y0 : w6.cell? ⟨wr.heap.size, 0, none⟩ = some (Value.string (strOf F.n)) := (World.cell?_of_block (w := W2) (a := ⟨wr.heap.size, 0, none⟩) hF6).trans p0
              have y1 : w6.cell? ⟨wr.heap.size, 1, none⟩ = some (Value.string (strOf F.d)) := (World.cell?_of_block (w := W2) (a := ⟨wr.heap.size, 1, none⟩) hF6).trans p1
              have y2 : w6.cell? ⟨wr.heap.size, 2, none⟩ = some (Value.int IntKind.i64 (F.s : Int)) := (World.cell?_of_block (w := W2) (a := ⟨wr.heap.size, 2, none⟩) hF6).trans p2
              refine hK.out _ _ ?_ (fun hHeld => ?_)
              · (try dsimp only); (first | (and_intros <;> assumption) | (and_intros <;> first | (exact (World.cell?_setCell_other _ _ _ _ (by intro hh; have h9 := congrArg Addr.block hh; simp at h9; omega)).trans (by assumption)) | (exact (World.cell?_alloc_past _ _ _ (by first | assumption | omega)).trans (by assumption))) | go_keep)
              clear hK K
              try simp only [Act.put, List.setIfInBounds_toArray, List.set_cons_zero, List.set_cons_succ]
              refine wpAnyH_ready (rs := [15]) (by kernel_rfl) (by simp) ?_
              refine AllReadyH.cons rfl (fun K hK => ?_) ?_
              · go_simp
                refine hK.out _ _ ?_ (fun hHeld => ?_)
                · (try dsimp only); (first | (and_intros <;> assumption) | (and_intros <;> first | (exact (World.cell?_setCell_other _ _ _ _ (by intro hh; have h9 := congrArg Addr.block hh; simp at h9; omega)).trans (by assumption)) | (exact (World.cell?_alloc_past _ _ _ (by first | assumption | omega)).trans (by assumption))) | go_keep)
                clear hK K
                try simp only [Act.put, List.setIfInBounds_toArray, List.set_cons_zero, List.set_cons_succ]
                refine wpAnyH_ready (rs := [16]) (by kernel_rfl) (by simp) ?_
                refine AllReadyH.cons rfl (fun K hK => ?_) ?_
                · go_simp
                  refine hK.out _ _ ?_ (fun hHeld => ?_)
                  · (try dsimp only); (first | (and_intros <;> assumption) | (and_intros <;> first | (exact (World.cell?_setCell_other _ _ _ _ (by intro hh; have h9 := congrArg Addr.block hh; simp at h9; omega)).trans (by assumption)) | (exact (World.cell?_alloc_past _ _ _ (by first | assumption | omega)).trans (by assumption))) | go_keep)
                  clear hK K
                  try simp only [Act.put, List.setIfInBounds_toArray, List.set_cons_zero, List.set_cons_succ]
                  refine wpAnyH_ready (rs := [17]) (by kernel_rfl) (by simp) ?_
                  refine AllReadyH.cons rfl (fun K hK => ?_) ?_
                  · go_simp
                    refine hK.out _ _ ?_ (fun hHeld => ?_)
                    · (try dsimp only); (first | (and_intros <;> assumption) | (and_intros <;> first | (exact (World.cell?_setCell_other _ _ _ _ (by intro hh; have h9 := congrArg Addr.block hh; simp at h9; omega)).trans (by assumption)) | (exact (World.cell?_alloc_past _ _ _ (by first | assumption | omega)).trans (by assumption))) | go_keep)
                    clear hK K
                    try simp only [Act.put, List.setIfInBounds_toArray, List.set_cons_zero, List.set_cons_succ]
                    refine wpAnyH_done (by kernel_rfl) ?_ _
                    have hlt6 : ∀ g, Value.ownBlock (.slice va6 (t + 1) vc6) = some g → w.heap.size ≤ g := fun g hg => (World.ownsRow.lt ho6 g hg).1
                    have hne6 : Value.ownBlock (.slice va6 (t + 1) vc6) ≠ some w.heap.size := by
                      intro hh
                      obtain ⟨g', d1, d2⟩ := hloc6
                      rw [d1] at hh
                      have hgO : g' = w.heap.size := by simpa using hh
                      subst hgO
                      rcases d2 with d2 | ⟨d2, _⟩
                      · exact HOff.out d2
                      · have d3 : W2.heap.size + 1 ≤ w.heap.size := Nat.le_trans (by show _ ≤ (World.alloc _ _).heap.size; simp) d2
                        omega
                    have HN : Hid (DS 105 109 w.heap.size (w6.setCell ⟨w.heap.size, 0, none⟩ (.slice va6 (t + 1) vc6)) w.heap.size (.slice va6 (t + 1) vc6) ((fs.take (t + 1)).map (crF keep)) (-1)) := by
                      refine DS.store (low' := w.heap.size) (hO6.trans H2.out.st) ?_ (Nat.le_refl _) hne6
                      rw [HT.out, List.length_append, List.flatMap_append, hlen, HE.out]
                      simp only [List.length_cons, List.length_nil, List.flatMap_cons, List.flatMap_nil, List.append_nil]
                      rw [HSt.out] at ho6
                      exact ho6
                    have HBN : Hid (Below w.heap.size w (w6.setCell ⟨w.heap.size, 0, none⟩ (.slice va6 (t + 1) vc6))) := by
                      have hb := HB2.out
                      refine Below.setCell ⟨hg6.os.trans hb.os, hg6.tape.trans hb.tape, hg6.output.trans hb.output, by have := hb.size; omega, fun k hk => (hblk6 k (by have := hb.size; omega) (fun hh => by have := (World.ownsRow.lt HRow.out k hh).1; omega)).trans (hb.block k hk)⟩ (Nat.le_refl _) _
                    clear ho6 hg6 hloc6 hblk6 hO6 hF6 hlt6 hne6
                    go_wp2
                    go_roundw
                    case rel => exact ⟨t + 1, _, by omega, by go_num, HN.out, HBN.out⟩
                    case measure => simp [intOf]; omega
                  exact AllReadyH.nil
                exact AllReadyH.nil
              exact AllReadyH.nil
            exact AllReadyH.nil
          exact AllReadyH.nil
        refine AllReadyH.cons rfl (fun K hK => ?_) ?_
        · go_simp
          refine hK.out _ _ ?_ (fun hHeld => ?_)
          · (try dsimp only); (first | (and_intros <;> assumption) | (and_intros <;> first | (exact (World.cell?_setCell_other _ _ _ _ (by intro hh; have h9 := congrArg Addr.block hh; simp at h9; omega)).trans (by assumption)) | (exact (World.cell?_alloc_past _ _ _ (by first | assumption | omega)).trans (by assumption))) | go_keep)
          clear hK K
          try simp only [Act.put, List.setIfInBounds_toArray, List.set_cons_zero, List.set_cons_succ]
          refine wpAnyH_ready (rs := [4]) (by kernel_rfl) (by simp) ?_
          refine AllReadyH.cons rfl (fun K hK => ?_) ?_
          · go_simp
            refine hK.out _ _ ?_ (fun hHeld => ?_)
            · (try dsimp only); (first | (and_intros <;> assumption) | (and_intros <;> first | (exact (World.cell?_setCell_other _ _ _ _ (by intro hh; have h9 := congrArg Addr.block hh; simp at h9; omega)).trans (by assumption)) | (exact (World.cell?_alloc_past _ _ _ (by first | assumption | omega)).trans (by assumption))) | go_keep)
            clear hK K
            try simp only [Act.put, List.setIfInBounds_toArray, List.set_cons_zero, List.set_cons_succ]
            refine wpAnyH_ready (rs := [14]) (by kernel_rfl) (by simp) ?_
            refine AllReadyH.cons rfl (fun K hK => ?_) ?_
            · refine step_append_keep rfl (.tmp 47) (.tmp 56) 103 rfl w.heap.size 109 i0 (.agg #[.string ⟨#[]⟩, .string ⟨#[]⟩, .int .i64 0]) 3 40 Tryz.underlying103 hi0 hz0 hz1 hz2 rfl (by decide) (.slice ao t co1) t (((fs.take t).map (crF keep)).flatMap FD.cells) (by simp [Act.eval]) (by exact (World.ownsRow.alloc HRow.out _).drew) ⟨W2.heap.size, 0, none⟩ 1 1 [Value.string (strOf F.n), Value.string ((strOf F.d).extract 0 M), Value.int IntKind.i64 ((M : Nat) : Int)] (by omega) (by simp [Act.eval]) rfl (by intro j u hu; rw [Go.WideShapes.add_plain]; refine (World.cell?_alloc_at _ _ _ _ rfl).trans ?_; simpa using hu) (by intro u hu; simp at hu; rcases hu with rfl | rfl | rfl <;> rfl) (by unfold maxLen; omega) (by omega) (by show _ ≤ (World.alloc _ _).heap.size; simp; omega) ?_
              intro v6 w6 ho6 hg6 hloc6
              obtain ⟨va6, vc6, rfl⟩ := shape_of ho6
              have hblk6 : ∀ k, k < W2.heap.size → Value.ownBlock (.slice ao t co1) ≠ some k → w6.heap[k]? = W2.heap[k]? := fun k hk hne => (hg6.block k (by show _ < (World.alloc _ _).heap.size; simp; omega) (Ne.symm hne)).trans (heap_alloc_old W2 _ hk)
              have hs6 : W2.heap.size ≤ w6.heap.size := Nat.le_trans (by show _ ≤ (World.alloc _ _).heap.size; simp) hg6.size
              have hO6 := hblk6 w.heap.size (by omega) HOff.out
              have ks6 : w6.cell? ⟨w.heap.size, 0, none⟩ = some (.slice ao t co1) := (World.cell?_of_block (w := W2) (a := ⟨w.heap.size, 0, none⟩) hO6).trans co2
              have kf6 : w6.frozen? ⟨w.heap.size, 0, none⟩ = false := (World.frozen?_of_block (w := W2) (a := ⟨w.heap.size, 0, none⟩) hO6).trans fo2
              have hF6 := hblk6 wr.heap.size (by omega) HOffF.out
              have y0 : w6.cell? ⟨wr.heap.size, 0, none⟩ = some (Value.string (strOf F.n)) := (World.cell?_of_block (w := W2) (a := ⟨wr.heap.size, 0, none⟩) hF6).trans p0
              have y1 : w6.cell? ⟨wr.heap.size, 1, none⟩ = some (Value.string (strOf F.d)) := (World.cell?_of_block (w := W2) (a := ⟨wr.heap.size, 1, none⟩) hF6).trans p1
              have y2 : w6.cell? ⟨wr.heap.size, 2, none⟩ = some (Value.int IntKind.i64 (F.s : Int)) := (World.cell?_of_block (w := W2) (a := ⟨wr.heap.size, 2, none⟩) hF6).trans p2
              refine hK.out _ _ ?_ (fun hHeld => ?_)
              · (try dsimp only); (first | (and_intros <;> assumption) | (and_intros <;> first | (exact (World.cell?_setCell_other _ _ _ _ (by intro hh; have h9 := congrArg Addr.block hh; simp at h9; omega)).trans (by assumption)) | (exact (World.cell?_alloc_past _ _ _ (by first | assumption | omega)).trans (by assumption))) | go_keep)
              clear hK K
              try simp only [Act.put, List.setIfInBounds_toArray, List.set_cons_zero, List.set_cons_succ]
              refine wpAnyH_ready (rs := [15]) (by kernel_rfl) (by simp) ?_
              refine AllReadyH.cons rfl (fun K hK => ?_) ?_
              · go_simp
                refine hK.out _ _ ?_ (fun hHeld => ?_)
                · (try dsimp only); (first | (and_intros <;> assumption) | (and_intros <;> first | (exact (World.cell?_setCell_other _ _ _ _ (by intro hh; have h9 := congrArg Addr.block hh; simp at h9; omega)).trans (by assumption)) | (exact (World.cell?_alloc_past _ _ _ (by first | assumption | omega)).trans (by assumption))) | go_keep)
                clear hK K
                try simp only [Act.put, List.setIfInBounds_toArray, List.set_cons_zero, List.set_cons_succ]
                refine wpAnyH_ready (rs := [16]) (by kernel_rfl) (by simp) ?_
                refine AllReadyH.cons rfl (fun K hK => ?_) ?_
                · go_simp
                  refine hK.out _ _ ?_ (fun hHeld => ?_)
                  · (try dsimp only); (first | (and_intros <;> assumption) | (and_intros <;> first | (exact (World.cell?_setCell_other _ _ _ _ (by intro hh; have h9 := congrArg Addr.block hh; simp at h9; omega)).trans (by assumption)) | (exact (World.cell?_alloc_past _ _ _ (by first | assumption | omega)).trans (by assumption))) | go_keep)
                  clear hK K
                  try simp only [Act.put, List.setIfInBounds_toArray, List.set_cons_zero, List.set_cons_succ]
                  refine wpAnyH_ready (rs := [17]) (by kernel_rfl) (by simp) ?_
                  refine AllReadyH.cons rfl (fun K hK => ?_) ?_
                  · go_simp
                    refine hK.out _ _ ?_ (fun hHeld => ?_)
                    · (try dsimp only); (first | (and_intros <;> assumption) | (and_intros <;> first | (exact (World.cell?_setCell_other _ _ _ _ (by intro hh; have h9 := congrArg Addr.block hh; simp at h9; omega)).trans (by assumption)) | (exact (World.cell?_alloc_past _ _ _ (by first | assumption | omega)).trans (by assumption))) | go_keep)
                    clear hK K
                    try simp only [Act.put, List.setIfInBounds_toArray, List.set_cons_zero, List.set_cons_succ]
                    refine wpAnyH_done (by kernel_rfl) ?_ _
                    have hlt6 : ∀ g, Value.ownBlock (.slice va6 (t + 1) vc6) = some g → w.heap.size ≤ g := fun g hg => (World.ownsRow.lt ho6 g hg).1
                    have hne6 : Value.ownBlock (.slice va6 (t + 1) vc6) ≠ some w.heap.size := by
                      intro hh
                      obtain ⟨g', d1, d2⟩ := hloc6
                      rw [d1] at hh
                      have hgO : g' = w.heap.size := by simpa using hh
                      subst hgO
                      rcases d2 with d2 | ⟨d2, _⟩
                      · exact HOff.out d2
                      · have d3 : W2.heap.size + 1 ≤ w.heap.size := Nat.le_trans (by show _ ≤ (World.alloc _ _).heap.size; simp) d2
                        omega
                    have HN : Hid (DS 105 109 w.heap.size (w6.setCell ⟨w.heap.size, 0, none⟩ (.slice va6 (t + 1) vc6)) w.heap.size (.slice va6 (t + 1) vc6) ((fs.take (t + 1)).map (crF keep)) (-1)) := by
                      refine DS.store (low' := w.heap.size) (hO6.trans H2.out.st) ?_ (Nat.le_refl _) hne6
                      rw [HT.out, List.length_append, List.flatMap_append, hlen, HE.out]
                      simp only [List.length_cons, List.length_nil, List.flatMap_cons, List.flatMap_nil, List.append_nil]
                      rw [HSt.out] at ho6
                      exact ho6
                    have HBN : Hid (Below w.heap.size w (w6.setCell ⟨w.heap.size, 0, none⟩ (.slice va6 (t + 1) vc6))) := by
                      have hb := HB2.out
                      refine Below.setCell ⟨hg6.os.trans hb.os, hg6.tape.trans hb.tape, hg6.output.trans hb.output, by have := hb.size; omega, fun k hk => (hblk6 k (by have := hb.size; omega) (fun hh => by have := (World.ownsRow.lt HRow.out k hh).1; omega)).trans (hb.block k hk)⟩ (Nat.le_refl _) _
                    clear ho6 hg6 hloc6 hblk6 hO6 hF6 hlt6 hne6
                    go_wp2
                    go_roundw
                    case rel => exact ⟨t + 1, _, by omega, by go_num, HN.out, HBN.out⟩
                    case measure => simp [intOf]; omega
                  exact AllReadyH.nil
                exact AllReadyH.nil
              exact AllReadyH.nil
            exact AllReadyH.nil
          exact AllReadyH.nil
        exact AllReadyH.nil
      · go_wp2_with fail
        have HE : Hid (crF keep F = ⟨F.n, F.d.take (F.d.length), F.d.length⟩) := by unfold Hid; rw [HCF.out, e]
        have HSt : Hid ((strOf F.d).extract 0 (F.d.length) = strOf (F.d.take (F.d.length))) := str_take F.d (F.d.length) (by omega)
        generalize (wr.alloc (Obj.cells #[Value.string (strOf F.n), Value.string (strOf F.d), Value.int IntKind.i64 (F.s : Int)] 109)) = W2 at *
        have q1 : (W2.alloc (Obj.cells #[Value.string (strOf F.n), Value.string ((strOf F.d).extract 0 F.d.length), Value.int IntKind.i64 ((F.d.length : Nat) : Int)] 109)).drew.cell? ⟨w.heap.size, 0, none⟩ = some (.slice ao t co1) := (World.cell?_alloc_past _ _ _ hO2).trans co2
        refine wp_region_held_drew (S := (fun w' => w'.cell? ⟨wr.heap.size, 0, none⟩ = some (Value.string (strOf F.n)) ∧ w'.cell? ⟨wr.heap.size, 1, none⟩ = some (Value.string (strOf F.d)) ∧ w'.cell? ⟨wr.heap.size, 2, none⟩ = some (Value.int IntKind.i64 (F.s : Int)))) (by kernel_rfl) (by (try dsimp only); (first | (and_intros <;> assumption) | (and_intros <;> first | (exact (World.cell?_setCell_other _ _ _ _ (by intro hh; have h9 := congrArg Addr.block hh; simp at h9; omega)).trans (by assumption)) | (exact (World.cell?_alloc_past _ _ _ (by first | assumption | omega)).trans (by assumption))) | go_keep)) (fun hHeld => ?_)
        refine wpAnyH_take (i := 0) (v := ?_) rfl (by kernel_rfl) (by kernel_rfl) (by kernel_rfl) (fun _ _ _ h => h) (Or.inl ⟨by rfl, ?_⟩) (by assumption) ?_
        rotate_left
        · intro w hSw; (try dsimp only at hSw); go_simp; (try with_reducible rfl)
        try simp only [Act.put, List.setIfInBounds_toArray, List.set_cons_zero, List.set_cons_succ]
        refine wpAnyH_take (i := 1) (v := ?_) rfl (by kernel_rfl) (by kernel_rfl) (by kernel_rfl) (fun _ _ _ h => h) (Or.inl ⟨by rfl, ?_⟩) (by assumption) ?_
        rotate_left
        · intro w hSw; (try dsimp only at hSw); go_simp; (try with_reducible rfl)
        try simp only [Act.put, List.setIfInBounds_toArray, List.set_cons_zero, List.set_cons_succ]
        refine wpAnyH_take (i := 2) (v := ?_) rfl (by kernel_rfl) (by kernel_rfl) (by kernel_rfl) (fun _ _ _ h => h) (Or.inl ⟨by rfl, ?_⟩) (by assumption) ?_
        rotate_left
        · intro w hSw; (try dsimp only at hSw); go_simp; (try with_reducible rfl)
        try simp only [Act.put, List.setIfInBounds_toArray, List.set_cons_zero, List.set_cons_succ]
        refine wpAnyH_take (i := 3) (v := ?_) rfl (by kernel_rfl) (by kernel_rfl) (by kernel_rfl) (fun _ _ _ h => h) (Or.inl ⟨by rfl, ?_⟩) (by assumption) ?_
        rotate_left
        · intro w hSw; (try dsimp only at hSw); go_simp; (try with_reducible rfl)
        try simp only [Act.put, List.setIfInBounds_toArray, List.set_cons_zero, List.set_cons_succ]
        refine wpAnyH_take (i := 5) (v := ?_) rfl (by kernel_rfl) (by kernel_rfl) (by kernel_rfl) (fun _ _ _ h => h) (Or.inl ⟨by rfl, ?_⟩) (by assumption) ?_
        rotate_left
        · intro w hSw; (try dsimp only at hSw); go_simp; (try with_reducible rfl)
        try simp only [Act.put, List.setIfInBounds_toArray, List.set_cons_zero, List.set_cons_succ]
        refine wpAnyH_take (i := 6) (v := ?_) rfl (by kernel_rfl) (by kernel_rfl) (by kernel_rfl) (fun _ _ _ h => h) (Or.inl ⟨by rfl, ?_⟩) (by assumption) ?_
        rotate_left
        · intro w hSw; (try dsimp only at hSw); go_simp; (try with_reducible rfl)
        try simp only [Act.put, List.setIfInBounds_toArray, List.set_cons_zero, List.set_cons_succ]
        refine wpAnyH_take (i := 7) (v := ?_) rfl (by kernel_rfl) (by kernel_rfl) (by kernel_rfl) (fun _ _ _ h => h) (Or.inl ⟨by rfl, ?_⟩) (by assumption) ?_
        rotate_left
        · intro w hSw; (try dsimp only at hSw); go_simp; (try with_reducible rfl)
        try simp only [Act.put, List.setIfInBounds_toArray, List.set_cons_zero, List.set_cons_succ]
        refine wpAnyH_take (i := 8) (v := ?_) rfl (by kernel_rfl) (by kernel_rfl) (by kernel_rfl) (fun _ _ _ h => h) (Or.inl ⟨by rfl, ?_⟩) (by assumption) ?_
        rotate_left
        · intro w hSw; (try dsimp only at hSw); go_simp; (try with_reducible rfl)
        try simp only [Act.put, List.setIfInBounds_toArray, List.set_cons_zero, List.set_cons_succ]
        refine wpAnyH_take (i := 9) (v := ?_) rfl (by kernel_rfl) (by kernel_rfl) (by kernel_rfl) (fun _ _ _ h => h) (Or.inl ⟨by rfl, ?_⟩) (by assumption) ?_
        rotate_left
        · intro w hSw; (try dsimp only at hSw); go_simp; (try with_reducible rfl)
        try simp only [Act.put, List.setIfInBounds_toArray, List.set_cons_zero, List.set_cons_succ]
        refine wpAnyH_take (i := 10) (v := ?_) rfl (by kernel_rfl) (by kernel_rfl) (by kernel_rfl) (fun _ _ _ h => h) (Or.inl ⟨by rfl, ?_⟩) (by assumption) ?_
        rotate_left
        · intro w hSw; (try dsimp only at hSw); go_simp; (try with_reducible rfl)
        try simp only [Act.put, List.setIfInBounds_toArray, List.set_cons_zero, List.set_cons_succ]
        refine wpAnyH_take (i := 11) (v := ?_) rfl (by kernel_rfl) (by kernel_rfl) (by kernel_rfl) (fun _ _ _ h => h) (Or.inl ⟨by rfl, ?_⟩) (by assumption) ?_
        rotate_left
        · intro w hSw; (try dsimp only at hSw); go_simp; (try with_reducible rfl)
        try simp only [Act.put, List.setIfInBounds_toArray, List.set_cons_zero, List.set_cons_succ]
        refine wpAnyH_take (i := 12) (v := ?_) rfl (by kernel_rfl) (by kernel_rfl) (by kernel_rfl) (fun _ _ _ h => h) (Or.inl ⟨by rfl, ?_⟩) (by assumption) ?_
        rotate_left
        · intro w hSw; (try dsimp only at hSw); go_simp; (try with_reducible rfl)
        try simp only [Act.put, List.setIfInBounds_toArray, List.set_cons_zero, List.set_cons_succ]
        refine wpAnyH_ready (rs := [4, 13]) (by kernel_rfl) (by simp) ?_
        refine AllReadyH.cons rfl (fun K hK => ?_) ?_
        · go_simp
          refine hK.out _ _ ?_ (fun hHeld => ?_)
          · (try dsimp only); (first | (and_intros <;> assumption) | (and_intros <;> first | (exact (World.cell?_setCell_other _ _ _ _ (by intro hh; have h9 := congrArg Addr.block hh; simp at h9; omega)).trans (by assumption)) | (exact (World.cell?_alloc_past _ _ _ (by first | assumption | omega)).trans (by assumption))) | go_keep)
          clear hK K
          try simp only [Act.put, List.setIfInBounds_toArray, List.set_cons_zero, List.set_cons_succ]
          refine wpAnyH_ready (rs := [13]) (by kernel_rfl) (by simp) ?_
          refine AllReadyH.cons rfl (fun K hK => ?_) ?_
          · go_simp
            refine hK.out _ _ ?_ (fun hHeld => ?_)
            · (try dsimp only); (first | (and_intros <;> assumption) | (and_intros <;> first | (exact (World.cell?_setCell_other _ _ _ _ (by intro hh; have h9 := congrArg Addr.block hh; simp at h9; omega)).trans (by assumption)) | (exact (World.cell?_alloc_past _ _ _ (by first | assumption | omega)).trans (by assumption))) | go_keep)
            clear hK K
            try simp only [Act.put, List.setIfInBounds_toArray, List.set_cons_zero, List.set_cons_succ]
            refine wpAnyH_ready (rs := [14]) (by kernel_rfl) (by simp) ?_
            refine AllReadyH.cons rfl (fun K hK => ?_) ?_
            · refine step_append_keep rfl (.tmp 47) (.tmp 56) 103 rfl w.heap.size 109 i0 (.agg #[.string ⟨#[]⟩, .string ⟨#[]⟩, .int .i64 0]) 3 40 Tryz.underlying103 hi0 hz0 hz1 hz2 rfl (by decide) (.slice ao t co1) t (((fs.take t).map (crF keep)).flatMap FD.cells) (by simp [Act.eval]) (by exact (World.ownsRow.alloc HRow.out _).drew) ⟨W2.heap.size, 0, none⟩ 1 1 [Value.string (strOf F.n), Value.string ((strOf F.d).extract 0 F.d.length), Value.int IntKind.i64 ((F.d.length : Nat) : Int)] (by omega) (by simp [Act.eval]) rfl (by intro j u hu; rw [Go.WideShapes.add_plain]; refine (World.cell?_alloc_at _ _ _ _ rfl).trans ?_; simpa using hu) (by intro u hu; simp at hu; rcases hu with rfl | rfl | rfl <;> rfl) (by unfold maxLen; omega) (by omega) (by show _ ≤ (World.alloc _ _).heap.size; simp; omega) ?_
              intro v6 w6 ho6 hg6 hloc6
              obtain ⟨va6, vc6, rfl⟩ := shape_of ho6
              have hblk6 : ∀ k, k < W2.heap.size → Value.ownBlock (.slice ao t co1) ≠ some k → w6.heap[k]? = W2.heap[k]? := fun k hk hne => (hg6.block k (by show _ < (World.alloc _ _).heap.size; simp; omega) (Ne.symm hne)).trans (heap_alloc_old W2 _ hk)
              have hs6 : W2.heap.size ≤ w6.heap.size := Nat.le_trans (by show _ ≤ (World.alloc _ _).heap.size; simp) hg6.size
              have hO6 := hblk6 w.heap.size (by omega) HOff.out
              have ks6 : w6.cell? ⟨w.heap.size, 0, none⟩ = some (.slice ao t co1) := (World.cell?_of_block (w := W2) (a := ⟨w.heap.size, 0, none⟩) hO6).trans co2
              have kf6 : w6.frozen? ⟨w.heap.size, 0, none⟩ = false := (World.frozen?_of_block (w := W2) (a := ⟨w.heap.size, 0, none⟩) hO6).trans fo2
              have hF6 := hblk6 wr.heap.size (by omega) HOffF.out
              have y0 : w6.cell? ⟨wr.heap.size, 0, none⟩ = some (Value.string (strOf F.n)) := (World.cell?_of_block (w := W2) (a := ⟨wr.heap.size, 0, none⟩) hF6).trans p0
              have y1 : w6.cell? ⟨wr.heap.size, 1, none⟩ = some (Value.string (strOf F.d)) := (World.cell?_of_block (w := W2) (a := ⟨wr.heap.size, 1, none⟩) hF6).trans p1
              have y2 : w6.cell? ⟨wr.heap.size, 2, none⟩ = some (Value.int IntKind.i64 (F.s : Int)) := (World.cell?_of_block (w := W2) (a := ⟨wr.heap.size, 2, none⟩) hF6).trans p2
              refine hK.out _ _ ?_ (fun hHeld => ?_)
              · (try dsimp only); (first | (and_intros <;> assumption) | (and_intros <;> first | (exact (World.cell?_setCell_other _ _ _ _ (by intro hh; have h9 := congrArg Addr.block hh; simp at h9; omega)).trans (by assumption)) | (exact (World.cell?_alloc_past _ _ _ (by first | assumption | omega)).trans (by assumption))) | go_keep)
              clear hK K
              try simp only [Act.put, List.setIfInBounds_toArray, List.set_cons_zero, List.set_cons_succ]
              refine wpAnyH_ready (rs := [15]) (by kernel_rfl) (by simp) ?_
              refine AllReadyH.cons rfl (fun K hK => ?_) ?_
              · go_simp
                refine hK.out _ _ ?_ (fun hHeld => ?_)
                · (try dsimp only); (first | (and_intros <;> assumption) | (and_intros <;> first | (exact (World.cell?_setCell_other _ _ _ _ (by intro hh; have h9 := congrArg Addr.block hh; simp at h9; omega)).trans (by assumption)) | (exact (World.cell?_alloc_past _ _ _ (by first | assumption | omega)).trans (by assumption))) | go_keep)
                clear hK K
                try simp only [Act.put, List.setIfInBounds_toArray, List.set_cons_zero, List.set_cons_succ]
                refine wpAnyH_ready (rs := [16]) (by kernel_rfl) (by simp) ?_
                refine AllReadyH.cons rfl (fun K hK => ?_) ?_
                · go_simp
                  refine hK.out _ _ ?_ (fun hHeld => ?_)
                  · (try dsimp only); (first | (and_intros <;> assumption) | (and_intros <;> first | (exact (World.cell?_setCell_other _ _ _ _ (by intro hh; have h9 := congrArg Addr.block hh; simp at h9; omega)).trans (by assumption)) | (exact (World.cell?_alloc_past _ _ _ (by first | assumption | omega)).trans (by assumption))) | go_keep)
                  clear hK K
                  try simp only [Act.put, List.setIfInBounds_toArray, List.set_cons_zero, List.set_cons_succ]
                  refine wpAnyH_ready (rs := [17]) (by kernel_rfl) (by simp) ?_
                  refine AllReadyH.cons rfl (fun K hK => ?_) ?_
                  · go_simp
                    refine hK.out _ _ ?_ (fun hHeld => ?_)
                    · (try dsimp only); (first | (and_intros <;> assumption) | (and_intros <;> first | (exact (World.cell?_setCell_other _ _ _ _ (by intro hh; have h9 := congrArg Addr.block hh; simp at h9; omega)).trans (by assumption)) | (exact (World.cell?_alloc_past _ _ _ (by first | assumption | omega)).trans (by assumption))) | go_keep)
                    clear hK K
                    try simp only [Act.put, List.setIfInBounds_toArray, List.set_cons_zero, List.set_cons_succ]
                    refine wpAnyH_done (by kernel_rfl) ?_ _
                    have hlt6 : ∀ g, Value.ownBlock (.slice va6 (t + 1) vc6) = some g → w.heap.size ≤ g := fun g hg => (World.ownsRow.lt ho6 g hg).1
                    have hne6 : Value.ownBlock (.slice va6 (t + 1) vc6) ≠ some w.heap.size := by
                      intro hh
                      obtain ⟨g', d1, d2⟩ := hloc6
                      rw [d1] at hh
                      have hgO : g' = w.heap.size := by simpa using hh
                      subst hgO
                      rcases d2 with d2 | ⟨d2, _⟩
                      · exact HOff.out d2
                      · have d3 : W2.heap.size + 1 ≤ w.heap.size := Nat.le_trans (by show _ ≤ (World.alloc _ _).heap.size; simp) d2
                        omega
                    have HN : Hid (DS 105 109 w.heap.size (w6.setCell ⟨w.heap.size, 0, none⟩ (.slice va6 (t + 1) vc6)) w.heap.size (.slice va6 (t + 1) vc6) ((fs.take (t + 1)).map (crF keep)) (-1)) := by
                      refine DS.store (low' := w.heap.size) (hO6.trans H2.out.st) ?_ (Nat.le_refl _) hne6
                      rw [HT.out, List.length_append, List.flatMap_append, hlen, HE.out]
                      simp only [List.length_cons, List.length_nil, List.flatMap_cons, List.flatMap_nil, List.append_nil]
                      rw [HSt.out] at ho6
                      exact ho6
                    have HBN : Hid (Below w.heap.size w (w6.setCell ⟨w.heap.size, 0, none⟩ (.slice va6 (t + 1) vc6))) := by
                      have hb := HB2.out
                      refine Below.setCell ⟨hg6.os.trans hb.os, hg6.tape.trans hb.tape, hg6.output.trans hb.output, by have := hb.size; omega, fun k hk => (hblk6 k (by have := hb.size; omega) (fun hh => by have := (World.ownsRow.lt HRow.out k hh).1; omega)).trans (hb.block k hk)⟩ (Nat.le_refl _) _
                    clear ho6 hg6 hloc6 hblk6 hO6 hF6 hlt6 hne6
                    go_wp2
                    go_roundw
                    case rel => exact ⟨t + 1, _, by omega, by go_num, HN.out, HBN.out⟩
                    case measure => simp [intOf]; omega
                  exact AllReadyH.nil
                exact AllReadyH.nil
              exact AllReadyH.nil
            exact AllReadyH.nil
          exact AllReadyH.nil
        refine AllReadyH.cons rfl (fun K hK => ?_) ?_
        · go_simp
          refine hK.out _ _ ?_ (fun hHeld => ?_)
          · (try dsimp only); (first | (and_intros <;> assumption) | (and_intros <;> first | (exact (World.cell?_setCell_other _ _ _ _ (by intro hh; have h9 := congrArg Addr.block hh; simp at h9; omega)).trans (by assumption)) | (exact (World.cell?_alloc_past _ _ _ (by first | assumption | omega)).trans (by assumption))) | go_keep)
          clear hK K
          try simp only [Act.put, List.setIfInBounds_toArray, List.set_cons_zero, List.set_cons_succ]
          refine wpAnyH_ready (rs := [4]) (by kernel_rfl) (by simp) ?_
          refine AllReadyH.cons rfl (fun K hK => ?_) ?_
          · go_simp
            refine hK.out _ _ ?_ (fun hHeld => ?_)
            · (try dsimp only); (first | (and_intros <;> assumption) | (and_intros <;> first | (exact (World.cell?_setCell_other _ _ _ _ (by intro hh; have h9 := congrArg Addr.block hh; simp at h9; omega)).trans (by assumption)) | (exact (World.cell?_alloc_past _ _ _ (by first | assumption | omega)).trans (by assumption))) | go_keep)
            clear hK K
            try simp only [Act.put, List.setIfInBounds_toArray, List.set_cons_zero, List.set_cons_succ]
            refine wpAnyH_ready (rs := [14]) (by kernel_rfl) (by simp) ?_
            refine AllReadyH.cons rfl (fun K hK => ?_) ?_
            · refine step_append_keep rfl (.tmp 47) (.tmp 56) 103 rfl w.heap.size 109 i0 (.agg #[.string ⟨#[]⟩, .string ⟨#[]⟩, .int .i64 0]) 3 40 Tryz.underlying103 hi0 hz0 hz1 hz2 rfl (by decide) (.slice ao t co1) t (((fs.take t).map (crF keep)).flatMap FD.cells) (by simp [Act.eval]) (by exact (World.ownsRow.alloc HRow.out _).drew) ⟨W2.heap.size, 0, none⟩ 1 1 [Value.string (strOf F.n), Value.string ((strOf F.d).extract 0 F.d.length), Value.int IntKind.i64 ((F.d.length : Nat) : Int)] (by omega) (by simp [Act.eval]) rfl (by intro j u hu; rw [Go.WideShapes.add_plain]; refine (World.cell?_alloc_at _ _ _ _ rfl).trans ?_; simpa using hu) (by intro u hu; simp at hu; rcases hu with rfl | rfl | rfl <;> rfl) (by unfold maxLen; omega) (by omega) (by show _ ≤ (World.alloc _ _).heap.size; simp; omega) ?_
              intro v6 w6 ho6 hg6 hloc6
              obtain ⟨va6, vc6, rfl⟩ := shape_of ho6
              have hblk6 : ∀ k, k < W2.heap.size → Value.ownBlock (.slice ao t co1) ≠ some k → w6.heap[k]? = W2.heap[k]? := fun k hk hne => (hg6.block k (by show _ < (World.alloc _ _).heap.size; simp; omega) (Ne.symm hne)).trans (heap_alloc_old W2 _ hk)
              have hs6 : W2.heap.size ≤ w6.heap.size := Nat.le_trans (by show _ ≤ (World.alloc _ _).heap.size; simp) hg6.size
              have hO6 := hblk6 w.heap.size (by omega) HOff.out
              have ks6 : w6.cell? ⟨w.heap.size, 0, none⟩ = some (.slice ao t co1) := (World.cell?_of_block (w := W2) (a := ⟨w.heap.size, 0, none⟩) hO6).trans co2
              have kf6 : w6.frozen? ⟨w.heap.size, 0, none⟩ = false := (World.frozen?_of_block (w := W2) (a := ⟨w.heap.size, 0, none⟩) hO6).trans fo2
              have hF6 := hblk6 wr.heap.size (by omega) HOffF.out
              have y0 : w6.cell? ⟨wr.heap.size, 0, none⟩ = some (Value.string (strOf F.n)) := (World.cell?_of_block (w := W2) (a := ⟨wr.heap.size, 0, none⟩) hF6).trans p0
              have y1 : w6.cell? ⟨wr.heap.size, 1, none⟩ = some (Value.string (strOf F.d)) := (World.cell?_of_block (w := W2) (a := ⟨wr.heap.size, 1, none⟩) hF6).trans p1
              have y2 : w6.cell? ⟨wr.heap.size, 2, none⟩ = some (Value.int IntKind.i64 (F.s : Int)) := (World.cell?_of_block (w := W2) (a := ⟨wr.heap.size, 2, none⟩) hF6).trans p2
              refine hK.out _ _ ?_ (fun hHeld => ?_)
              · (try dsimp only); (first | (and_intros <;> assumption) | (and_intros <;> first | (exact (World.cell?_setCell_other _ _ _ _ (by intro hh; have h9 := congrArg Addr.block hh; simp at h9; omega)).trans (by assumption)) | (exact (World.cell?_alloc_past _ _ _ (by first | assumption | omega)).trans (by assumption))) | go_keep)
              clear hK K
              try simp only [Act.put, List.setIfInBounds_toArray, List.set_cons_zero, List.set_cons_succ]
              refine wpAnyH_ready (rs := [15]) (by kernel_rfl) (by simp) ?_
              refine AllReadyH.cons rfl (fun K hK => ?_) ?_
              · go_simp
                refine hK.out _ _ ?_ (fun hHeld => ?_)
                · (try dsimp only); (first | (and_intros <;> assumption) | (and_intros <;> first | (exact (World.cell?_setCell_other _ _ _ _ (by intro hh; have h9 := congrArg Addr.block hh; simp at h9; omega)).trans (by assumption)) | (exact (World.cell?_alloc_past _ _ _ (by first | assumption | omega)).trans (by assumption))) | go_keep)
                clear hK K
                try simp only [Act.put, List.setIfInBounds_toArray, List.set_cons_zero, List.set_cons_succ]
                refine wpAnyH_ready (rs := [16]) (by kernel_rfl) (by simp) ?_
                refine AllReadyH.cons rfl (fun K hK => ?_) ?_
                · go_simp
                  refine hK.out _ _ ?_ (fun hHeld => ?_)
                  · (try dsimp only); (first | (and_intros <;> assumption) | (and_intros <;> first | (exact (World.cell?_setCell_other _ _ _ _ (by intro hh; have h9 := congrArg Addr.block hh; simp at h9; omega)).trans (by assumption)) | (exact (World.cell?_alloc_past _ _ _ (by first | assumption | omega)).trans (by assumption))) | go_keep)
                  clear hK K
                  try simp only [Act.put, List.setIfInBounds_toArray, List.set_cons_zero, List.set_cons_succ]
                  refine wpAnyH_ready (rs := [17]) (by kernel_rfl) (by simp) ?_
                  refine AllReadyH.cons rfl (fun K hK => ?_) ?_
                  · go_simp
                    refine hK.out _ _ ?_ (fun hHeld => ?_)
                    · (try dsimp only); (first | (and_intros <;> assumption) | (and_intros <;> first | (exact (World.cell?_setCell_other _ _ _ _ (by intro hh; have h9 := congrArg Addr.block hh; simp at h9; omega)).trans (by assumption)) | (exact (World.cell?_alloc_past _ _ _ (by first | assumption | omega)).trans (by assumption))) | go_keep)
                    clear hK K
                    try simp only [Act.put, List.setIfInBounds_toArray, List.set_cons_zero, List.set_cons_succ]
                    refine wpAnyH_done (by kernel_rfl) ?_ _
                    have hlt6 : ∀ g, Value.ownBlock (.slice va6 (t + 1) vc6) = some g → w.heap.size ≤ g := fun g hg => (World.ownsRow.lt ho6 g hg).1
                    have hne6 : Value.ownBlock (.slice va6 (t + 1) vc6) ≠ some w.heap.size := by
                      intro hh
                      obtain ⟨g', d1, d2⟩ := hloc6
                      rw [d1] at hh
                      have hgO : g' = w.heap.size := by simpa using hh
                      subst hgO
                      rcases d2 with d2 | ⟨d2, _⟩
                      · exact HOff.out d2
                      · have d3 : W2.heap.size + 1 ≤ w.heap.size := Nat.le_trans (by show _ ≤ (World.alloc _ _).heap.size; simp) d2
                        omega
                    have HN : Hid (DS 105 109 w.heap.size (w6.setCell ⟨w.heap.size, 0, none⟩ (.slice va6 (t + 1) vc6)) w.heap.size (.slice va6 (t + 1) vc6) ((fs.take (t + 1)).map (crF keep)) (-1)) := by
                      refine DS.store (low' := w.heap.size) (hO6.trans H2.out.st) ?_ (Nat.le_refl _) hne6
                      rw [HT.out, List.length_append, List.flatMap_append, hlen, HE.out]
                      simp only [List.length_cons, List.length_nil, List.flatMap_cons, List.flatMap_nil, List.append_nil]
                      rw [HSt.out] at ho6
                      exact ho6
                    have HBN : Hid (Below w.heap.size w (w6.setCell ⟨w.heap.size, 0, none⟩ (.slice va6 (t + 1) vc6))) := by
                      have hb := HB2.out
                      refine Below.setCell ⟨hg6.os.trans hb.os, hg6.tape.trans hb.tape, hg6.output.trans hb.output, by have := hb.size; omega, fun k hk => (hblk6 k (by have := hb.size; omega) (fun hh => by have := (World.ownsRow.lt HRow.out k hh).1; omega)).trans (hb.block k hk)⟩ (Nat.le_refl _) _
                    clear ho6 hg6 hloc6 hblk6 hO6 hF6 hlt6 hne6
                    go_wp2
                    go_roundw
                    case rel => exact ⟨t + 1, _, by omega, by go_num, HN.out, HBN.out⟩
                    case measure => simp [intOf]; omega
                  exact AllReadyH.nil
                exact AllReadyH.nil
              exact AllReadyH.nil
            exact AllReadyH.nil
          exact AllReadyH.nil
        exact AllReadyH.nil
    · obtain rfl : t = fs.length := by omega
      have HFin : Hid (∃ v', DS 105 109 w.heap.size wr w.heap.size v' (fs.map (crF keep)) (-1)) := by refine ⟨vo, ?_⟩; rw [List.take_length] at hd; exact hd
      have HBr : Hid _ := hbr
      clear hd
      go_wp2
      go_ret
      exact ⟨rfl, HFin.out, HBr.out⟩
end Go.Proofs.YtdcainmlcpafbaaGreatDoor
