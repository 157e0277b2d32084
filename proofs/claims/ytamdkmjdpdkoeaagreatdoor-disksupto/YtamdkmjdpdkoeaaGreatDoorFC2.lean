import Derived.Test.YtamdkmjdpdkoeaaGreatDoorFC
set_option linter.unusedSimpArgs false
set_option linter.unusedVariables false
namespace Go.Proofs.YtamdkmjdpdkoeaaGreatDoor
open Go.RowKit

def aRen (fs : List FD) (a b : List UInt8) : List FD := match fIdx fs a with
  | none => fs
  | some i => if a = b then fs else wOut (wOut fs a) b ++ [⟨b, (fs.getD i noFile).d, (fs.getD i noFile).s⟩]

set_option maxHeartbeats 2000000 in
set_option maxRecDepth 20000 in
theorem arename_zero (low D H S : Nat) (v : Value) (fs : List FD) (nm dt : List UInt8) (w : World) (hH : Hands w D H S) (h : DS 98 107 low w S v fs 0) :
    Calls Tryz.prog 36 #[.pointer (some ⟨D, 0, none⟩), .string (strOf nm), .string (strOf dt)] w fun r w' => r = .returned (.bool false) ∧ Did 98 107 low w S v fs (stepL 0) w' := by
  have cd := hH.cd
  clear hH
  go_enter Tryz.func36, Tryz.ntmps36
  go_wp2_with fail
  refine (astep_any low S v fs 0 w h (by omega)).mono ?_
  rintro r w1 ⟨rfl, hw1⟩
  obtain ⟨h1, hk1, hs1⟩ := step_did h (by decide) w1 hw1
  clear hw1
  rw [show decide ((0 : Int) ≠ 0) = false from rfl]
  have HD : Hid _ := Did.same h1 hk1
  clear h1 hk1 h
  go_wp2
  go_ret
  exact ⟨rfl, HD.out⟩

set_option maxHeartbeats 4000000 in
set_option maxRecDepth 20000 in
theorem arename_go (low D H S : Nat) (v : Value) (fs : List FD) (left : Int) (nm dt : List UInt8) (w : World) (hH : Hands w D H S) (hDS : D ≠ S) (h : DS 98 107 low w S v fs left) (h0 : left ≠ 0) (hb : -9223372036854775808 ≤ left ∧ left ≤ 9223372036854775807) (hl : fs.length ≤ 3000000000) (hlow : low ≤ w.heap.size) :
    Calls Tryz.prog 36 #[.pointer (some ⟨D, 0, none⟩), .string (strOf nm), .string (strOf dt)] w fun r w' => r = .returned (.bool true) ∧ Did 98 107 low w S v (aRen fs nm dt) (stepL left) w' := by
  have cd := hH.cd
  have hDlt : D < w.heap.size := (Array.getElem?_eq_some_iff.1 hH.d).1
  have HD0 := hH.d
  clear hH
  go_enter Tryz.func36, Tryz.ntmps36
  go_wp2_with fail
  refine (astep_any low S v fs left w h hb).mono ?_
  rintro r w1 ⟨rfl, hw1⟩
  obtain ⟨h1, hk1, hs1⟩ := step_did h (by decide) w1 hw1
  clear hw1
  rw [show decide (left ≠ 0) = true by simpa using h0]
  have hd1 : w1.heap[D]? = some (.cells #[.pointer (some ⟨S, 0, none⟩)] 100 (0, 0)) := (hk1.block D hDlt hDS).trans HD0
  have cd1 : w1.cell? ⟨D, 0, none⟩ = some (.pointer (some ⟨S, 0, none⟩)) := by simp [World.cell?, hd1]
  have cs1 := h1.cell 0
  have fs1 := h1.free 0
  simp at cs1
  have H1 : Hid (DS 98 107 low w1 S v fs (stepL left)) := h1
  have HK : Hid (Kpt (fun b => b = S) w w1) := hk1
  have HD1 : Hid _ := hd1
  have hS1 := h1.lt
  have hD1 : D < w1.heap.size := by omega
  clear h h1 hk1 cd HD0 hd1
  go_wp2_with fail
  refine (find_any low S v fs (stepL left) nm w1 H1.out (by omega)).mono ?_
  rintro r w' ⟨rfl, hh⟩
  replace hh := hh.symm
  subst hh
  rcases fNum_bd fs nm with ⟨e1, e2⟩ | ⟨i, e1, e2, e3⟩
  · have HR : Hid (aRen fs nm dt = fs) := by unfold Hid aRen; rw [e2]
    rw [e1]
    have HD : Hid (Did 98 107 low w S v (aRen fs nm dt) (stepL left) w1) := by unfold Hid; rw [HR.out]; exact Did.same H1.out HK.out
    clear e1 e2
    go_wp2
    go_ret
    exact ⟨rfl, HD.out⟩
  · by_cases hab : nm = dt
    · have HR : Hid (aRen fs nm dt = fs) := by unfold Hid aRen; rw [e2]; exact if_pos hab
      rw [e1]
      have HD : Hid (Did 98 107 low w S v (aRen fs nm dt) (stepL left) w1) := by unfold Hid; rw [HR.out]; exact Did.same H1.out HK.out
      have q := strEqB nm dt
      rw [show (nm == dt) = true by simpa using hab] at q
      clear e1 e2 hab
      go_wp2
      go_ret
      exact ⟨rfl, HD.out⟩
    rw [e1]
    have eD : fs.getD i noFile = fs[i] := by rw [List.getD_eq_getElem?_getD, List.getElem?_eq_getElem e3, Option.getD_some]
    obtain ⟨a, c, hv, hrow⟩ := row3 H1.out.row
    subst hv
    obtain ⟨g, ha, _, hgl, hcc⟩ := hrow.resolve_left (by omega)
    subst ha
    obtain ⟨cur, hgt⟩ := row_type H1.out.row
    have hSg : S ≠ g := by intro hh; subst hh; rw [H1.out.st] at hgt; simp at hgt
    have hDg : D ≠ g := by intro hh; subst hh; rw [HD1.out] at hgt; simp at hgt
    have j0 := hcc _ _ (file_at fs i e3 0 (by omega))
    have j1 := hcc _ _ (file_at fs i e3 1 (by omega))
    have j2 := hcc _ _ (file_at fs i e3 2 (by omega))
    simp [FD.cells] at j0 j1 j2
    have k1 := H1.out.row.frozenAt (i * 3 + 1)
    have k2 := H1.out.row.frozenAt (i * 3 + 2)
    have e3i : (i : Int) < (fs.length : Int) := by omega
    have HR : Hid (aRen fs nm dt = wOut (wOut fs nm) dt ++ [⟨dt, fs[i].d, fs[i].s⟩]) := by unfold Hid aRen; rw [e2]; simp only [eD]; exact if_neg hab
    have q := strEqB nm dt
    rw [show (nm == dt) = false by simpa using hab] at q
    obtain ⟨i0, hi0, hz0, hz1, hz2⟩ := info_parts info76
    clear hcc hrow e1 e2 hgt hab eD
    generalize fs[i] = F at *
    have hb2 := (Below.refl w1.heap.size w1).alloc (Nat.le_refl _) (Obj.cells #[Value.string (strOf dt), Value.string (strOf F.d), Value.int IntKind.i64 (F.s : Int)] 107)
    have hs2 : (w1.alloc (Obj.cells #[Value.string (strOf dt), Value.string (strOf F.d), Value.int IntKind.i64 (F.s : Int)] 107)).heap.size = w1.heap.size + 1 := by simp
    have fc2 : ∀ i, (w1.alloc (Obj.cells #[Value.string (strOf dt), Value.string (strOf F.d), Value.int IntKind.i64 (F.s : Int)] 107)).cell? ⟨w1.heap.size, i, none⟩ = #[Value.string (strOf dt), Value.string (strOf F.d), Value.int IntKind.i64 (F.s : Int)][i]? := fun i => World.cell?_alloc_at _ _ _ _ rfl
    have H2 : Hid (DS 98 107 low (w1.alloc (Obj.cells #[Value.string (strOf dt), Value.string (strOf F.d), Value.int IntKind.i64 (F.s : Int)] 107)) S (.slice (some ⟨g, 0, none⟩) fs.length c) fs (stepL left)) := H1.out.later hb2
    have cd2 : (w1.alloc (Obj.cells #[Value.string (strOf dt), Value.string (strOf F.d), Value.int IntKind.i64 (F.s : Int)] 107)).cell? ⟨D, 0, none⟩ = some (.pointer (some ⟨S, 0, none⟩)) := (hb2.cell (by exact hD1)).trans cd1
    have hd2 : (w1.alloc (Obj.cells #[Value.string (strOf dt), Value.string (strOf F.d), Value.int IntKind.i64 (F.s : Int)] 107)).heap[D]? = w1.heap[D]? := hb2.block D hD1
    have hk2 : Kpt (fun b => b = S) w (w1.alloc (Obj.cells #[Value.string (strOf dt), Value.string (strOf F.d), Value.int IntKind.i64 (F.s : Int)] 107)) := HK.out.trans (Kpt.of_below (A := fun b => b = S) hb2) (fun _ _ hh => hh)
    have HK2 : Hid _ := hk2
    have HDb2 : Hid _ := hd2
    clear hk2 hd2 hb2
    go_wp2_with fail
    generalize (w1.alloc (Obj.cells #[Value.string (strOf dt), Value.string (strOf F.d), Value.int IntKind.i64 (F.s : Int)] 107)) = W2 at *
    have fc2' : ∀ i, W2.cell? ⟨w.heap.size, i, none⟩ = #[Value.string (strOf dt), Value.string (strOf F.d), Value.int IntKind.i64 (F.s : Int)][i]? := by rw [← hs1]; exact fc2
    have cs2 := H2.out.cell 0
    have f2 := H2.out.free 0
    simp at cs2
    have hS2 := H2.out.lt
    have hD2 : D < W2.heap.size := by omega
    have hF2 : w.heap.size < W2.heap.size := by omega
    clear fc2 cs1 fs1 cd1 j0 j1 j2 k1 k2
    go_cut [8] from 40 to 51 (fun x wc => x = .pointer (some ⟨w.heap.size, 0, none⟩) ∧ ∃ v3, DS 98 107 low wc S v3 (wOut fs nm) (stepL left) ∧ (∀ i, wc.cell? ⟨w.heap.size, i, none⟩ = #[Value.string (strOf dt), Value.string (strOf F.d), Value.int IntKind.i64 (F.s : Int)][i]?) ∧ wc.heap[D]? = W2.heap[D]? ∧ Kpt (fun b => b = S) w wc ∧ (∀ g, v3.ownBlock = some g → w.heap.size < g) ∧ w.heap.size < wc.heap.size)
    case first =>
      go_region_held3 (fun w' => w'.cell? ⟨D, 0, none⟩ = some (.pointer (some ⟨S, 0, none⟩))) (first | assumption | (rw [World.cell?_setCell_other _ _ _ _ (by intro hh; have h9 := congrArg Addr.block hh; simp at h9; omega)]; assumption) | go_keep) (first | (go_at_call 80; refine (awithout_any low S _ fs (stepL left) nm W2.drew H2.out.drew hl).mono ?_; rintro r w3 ⟨v3, rfl, ho3, hb3⟩; obtain ⟨a3, c3, rfl, _⟩ := row3 ho3; have kd : w3.cell? ⟨D, 0, none⟩ = some (.pointer (some ⟨S, 0, none⟩)) := (hb3.cell (by exact hD2)).trans cd2; have ks : w3.cell? ⟨S, 0, none⟩ = some (.slice (some ⟨g, 0, none⟩) fs.length c) := (hb3.cell (by exact hS2)).trans cs2; have kf : w3.frozen? ⟨S, 0, none⟩ = false := (hb3.frozen (by exact hS2)).trans f2))
      all_goals go_wp2_with fail
      all_goals go_meet
      all_goals
        have h3 : DS 98 107 low w3 S (.slice (some ⟨g, 0, none⟩) fs.length c) fs (stepL left) := H2.out.drew.later hb3
        have hlt3 : ∀ g, Value.ownBlock (.slice a3 (wOut fs nm).length c3) = some g → W2.heap.size ≤ g := fun g hg => (World.ownsRow.lt ho3 g hg).1
        have hs3 : W2.heap.size ≤ w3.heap.size := hb3.size
        refine ⟨rfl, .slice a3 (wOut fs nm).length c3, DS.store (low := low) (low' := W2.heap.size) h3.st ho3 (by omega) (fun hh => by have := hlt3 S hh; omega), fun i => ?_, ?_, ?_, fun g hg => by have := hlt3 g hg; omega, ?_⟩
        · exact (World.cell?_setCell_other _ _ _ _ (by intro hh; have h9 := congrArg Addr.block hh; simp at h9; omega)).trans ((hb3.cell (by exact hF2)).trans (fc2' i))
        · exact ((But.setCell w3 ⟨S, 0, none⟩ _).block D hDS).trans (hb3.block D hD2)
        · exact (HK2.out.trans (B := fun b => b = S) ⟨hb3.os, hb3.tape, hb3.output, hb3.size, fun k hk _ => hb3.block k hk⟩ (fun _ _ hh => hh)).trans (Kpt.set w3 S 0 _) (fun _ _ hh => hh)
        · rw [(But.setCell w3 ⟨S, 0, none⟩ _).size]; omega
    case rest =>
    obtain ⟨rfl, v3, h4, fc4, hDb4, hk4, hlt4, hF4⟩ := hcut
    have cd4 : wc.cell? ⟨D, 0, none⟩ = some (.pointer (some ⟨S, 0, none⟩)) := (World.cell?_of_block (w := W2) (a := ⟨D, 0, none⟩) hDb4).trans cd2
    have cs4 := h4.cell 0
    have f4 := h4.free 0
    simp at cs4
    have hS4 := h4.lt
    have hD4 : D < wc.heap.size := by have := hk4.size; omega
    have hwl : (wOut fs nm).length ≤ fs.length := List.length_filter_le _ _
    have hwl2 : (wOut (wOut fs nm) dt).length ≤ (wOut fs nm).length := List.length_filter_le _ _
    have H4 : Hid _ := h4
    have HK4 : Hid _ := hk4
    have HL4 : Hid _ := hlt4
    clear h4 hk4 hlt4 hDb4 cd2 cs2 f2 fc2' HK2 HDb2 H2
    have hl4D : D < wc.drew.heap.size := hD4
    have hl4S : S < wc.drew.heap.size := hS4
    have hl4F : w.heap.size < wc.drew.heap.size := hF4
    have hb4b := (Below.refl wc.heap.size wc).alloc (Nat.le_refl _) (Obj.cells #[Value.string (strOf dt), Value.string (strOf F.d), Value.int IntKind.i64 (F.s : Int)] 107)
    have hlbD : D < (wc.alloc (Obj.cells #[Value.string (strOf dt), Value.string (strOf F.d), Value.int IntKind.i64 (F.s : Int)] 107)).drew.heap.size := by show _ < (World.alloc _ _).heap.size; simp; omega
    have hlbS : S < (wc.alloc (Obj.cells #[Value.string (strOf dt), Value.string (strOf F.d), Value.int IntKind.i64 (F.s : Int)] 107)).drew.heap.size := by show _ < (World.alloc _ _).heap.size; simp; omega
    have hlbF : w.heap.size < (wc.alloc (Obj.cells #[Value.string (strOf dt), Value.string (strOf F.d), Value.int IntKind.i64 (F.s : Int)] 107)).drew.heap.size := by show _ < (World.alloc _ _).heap.size; simp; omega
    have cdb : (wc.alloc (Obj.cells #[Value.string (strOf dt), Value.string (strOf F.d), Value.int IntKind.i64 (F.s : Int)] 107)).drew.cell? ⟨D, 0, none⟩ = some (.pointer (some ⟨S, 0, none⟩)) := (hb4b.cell (by exact hD4)).trans cd4
    have csb : (wc.alloc (Obj.cells #[Value.string (strOf dt), Value.string (strOf F.d), Value.int IntKind.i64 (F.s : Int)] 107)).drew.cell? ⟨S, 0, none⟩ = some v3 := (hb4b.cell (by exact hS4)).trans cs4
    have fb : (wc.alloc (Obj.cells #[Value.string (strOf dt), Value.string (strOf F.d), Value.int IntKind.i64 (F.s : Int)] 107)).drew.frozen? ⟨S, 0, none⟩ = false := (hb4b.frozen (by exact hS4)).trans f4
    have fcb : ∀ i, (wc.alloc (Obj.cells #[Value.string (strOf dt), Value.string (strOf F.d), Value.int IntKind.i64 (F.s : Int)] 107)).drew.cell? ⟨w.heap.size, i, none⟩ = #[Value.string (strOf dt), Value.string (strOf F.d), Value.int IntKind.i64 (F.s : Int)][i]? := fun i => (hb4b.cell (by exact hF4)).trans (fc4 i)
    have H4b : Hid (DS 98 107 low (wc.alloc (Obj.cells #[Value.string (strOf dt), Value.string (strOf F.d), Value.int IntKind.i64 (F.s : Int)] 107)) S v3 (wOut fs nm) (stepL left)) := H4.out.later hb4b
    have g40 := fc4 0
    have g41 := fc4 1
    have g42 := fc4 2
    simp at g40 g41 g42
    go_wp2_with fail
    go_region_held3 (fun w' => w'.cell? ⟨D, 0, none⟩ = some (.pointer (some ⟨S, 0, none⟩)) ∧ w'.cell? ⟨w.heap.size, 0, none⟩ = some (Value.string (strOf dt)) ∧ w'.cell? ⟨w.heap.size, 1, none⟩ = some (Value.string (strOf F.d)) ∧ w'.cell? ⟨w.heap.size, 2, none⟩ = some (Value.int IntKind.i64 (F.s : Int))) (first | (and_intros <;> assumption) | (and_intros <;> first | (exact (World.cell?_setCell_other _ _ _ _ (by intro hh; have h9 := congrArg Addr.block hh; simp at h9; omega)).trans (by assumption)) | (exact (World.cell?_alloc_past _ _ _ (by first | assumption | omega)).trans (by assumption))) | go_keep) (first | (go_at_call 80; refine (awithout_any low S _ (wOut fs nm) (stepL left) dt wc.drew H4.out.drew (by omega)).mono ?_; rintro r w5 ⟨v5, rfl, ho5, hb5⟩; obtain ⟨a5, c5, rfl, _⟩ := row3 ho5; have kd : w5.cell? ⟨D, 0, none⟩ = some (.pointer (some ⟨S, 0, none⟩)) := (hb5.cell (by exact hl4D)).trans cd4; have ks : w5.cell? ⟨S, 0, none⟩ = some v3 := (hb5.cell (by exact hl4S)).trans cs4; have kf : w5.frozen? ⟨S, 0, none⟩ = false := (hb5.frozen (by exact hl4S)).trans f4; have f50 : w5.cell? ⟨w.heap.size, 0, none⟩ = some (Value.string (strOf dt)) := (hb5.cell (by exact hl4F)).trans (fc4 0); have f51 : w5.cell? ⟨w.heap.size, 1, none⟩ = some (Value.string (strOf F.d)) := (hb5.cell (by exact hl4F)).trans (fc4 1); have f52 : w5.cell? ⟨w.heap.size, 2, none⟩ = some (Value.int IntKind.i64 (F.s : Int)) := (hb5.cell (by exact hl4F)).trans (fc4 2); have hs5 : wc.heap.size ≤ w5.heap.size := Nat.le_trans (Nat.le_refl _) hb5.size; have hlo5 : ∀ g, Value.ownBlock (.slice a5 (wOut (wOut fs nm) dt).length c5) = some g → wc.heap.size ≤ g := (fun g hg => Nat.le_trans (Nat.le_refl _) (World.ownsRow.lt ho5 g hg).1); have hbb5 : Below wc.heap.size wc w5 := (by first | exact ⟨hb5.os, hb5.tape, hb5.output, hb5.size, hb5.block⟩ | exact hb4b.trans ⟨hb5.os, hb5.tape, hb5.output, hb5.size, fun k hk => hb5.block k (Nat.lt_of_lt_of_le hk (by show _ ≤ (World.alloc _ _).heap.size; simp))⟩); have hF5 : w.heap.size < w5.heap.size := Nat.lt_of_lt_of_le hF4 hs5; have hD5 : D < w5.heap.size := Nat.lt_of_lt_of_le hD4 hs5) | (go_at_call 80; refine (awithout_any low S _ (wOut fs nm) (stepL left) dt (wc.alloc (Obj.cells #[Value.string (strOf dt), Value.string (strOf F.d), Value.int IntKind.i64 (F.s : Int)] 107)).drew H4b.out.drew (by omega)).mono ?_; rintro r w5 ⟨v5, rfl, ho5, hb5⟩; obtain ⟨a5, c5, rfl, _⟩ := row3 ho5; have kd : w5.cell? ⟨D, 0, none⟩ = some (.pointer (some ⟨S, 0, none⟩)) := (hb5.cell (by exact hlbD)).trans cdb; have ks : w5.cell? ⟨S, 0, none⟩ = some v3 := (hb5.cell (by exact hlbS)).trans csb; have kf : w5.frozen? ⟨S, 0, none⟩ = false := (hb5.frozen (by exact hlbS)).trans fb; have f50 : w5.cell? ⟨w.heap.size, 0, none⟩ = some (Value.string (strOf dt)) := (hb5.cell (by exact hlbF)).trans (fcb 0); have f51 : w5.cell? ⟨w.heap.size, 1, none⟩ = some (Value.string (strOf F.d)) := (hb5.cell (by exact hlbF)).trans (fcb 1); have f52 : w5.cell? ⟨w.heap.size, 2, none⟩ = some (Value.int IntKind.i64 (F.s : Int)) := (hb5.cell (by exact hlbF)).trans (fcb 2); have hs5 : wc.heap.size ≤ w5.heap.size := Nat.le_trans (by simp) hb5.size; have hlo5 : ∀ g, Value.ownBlock (.slice a5 (wOut (wOut fs nm) dt).length c5) = some g → wc.heap.size ≤ g := (fun g hg => Nat.le_trans (by simp) (World.ownsRow.lt ho5 g hg).1); have hbb5 : Below wc.heap.size wc w5 := (by first | exact ⟨hb5.os, hb5.tape, hb5.output, hb5.size, hb5.block⟩ | exact hb4b.trans ⟨hb5.os, hb5.tape, hb5.output, hb5.size, fun k hk => hb5.block k (Nat.lt_of_lt_of_le hk (by show _ ≤ (World.alloc _ _).heap.size; simp))⟩); have hF5 : w.heap.size < w5.heap.size := Nat.lt_of_lt_of_le hF4 hs5; have hD5 : D < w5.heap.size := Nat.lt_of_lt_of_le hD4 hs5) | (refine step_append_keep rfl (.tmp 61) (.tmp 63) 96 rfl wc.heap.size 107 i0 (.agg #[.string ⟨#[]⟩, .string ⟨#[]⟩, .int .i64 0]) 3 40 Tryz.underlying96 hi0 hz0 hz1 hz2 rfl (by decide) (.slice a5 (wOut (wOut fs nm) dt).length c5) (wOut (wOut fs nm) dt).length ((wOut (wOut fs nm) dt).flatMap FD.cells) (by simp [Act.eval]) (World.ownsRow.alloc ho5 _) ⟨w5.heap.size, 0, none⟩ 1 1 [Value.string (strOf dt), Value.string (strOf F.d), Value.int IntKind.i64 (F.s : Int)] (by omega) (by simp [Act.eval]) rfl (by intro j u hu; rw [Go.WideShapes.add_plain]; refine (World.cell?_alloc_at _ _ _ _ rfl).trans ?_; simpa using hu) (by intro u hu; simp at hu; rcases hu with rfl | rfl | rfl <;> rfl) (by unfold maxLen; omega) (by omega) (by first | exact hs5 | exact hb5.size | (show _ ≤ (World.alloc _ _).heap.size; simp; omega)) ?_; intro v6 w6 ho6 hg6 hloc6; obtain ⟨va6, vc6, rfl⟩ := shape_of ho6; have hblk6 : ∀ k, k < wc.heap.size → w6.heap[k]? = w5.heap[k]? := (fun k hk => (hg6.block k (by show _ < (World.alloc _ _).heap.size; simp; omega) (fun hh => by have h9 := hlo5 k hh.symm; omega)).trans (heap_alloc_old w5 _ (by omega))); have hs6 : w5.heap.size ≤ w6.heap.size := Nat.le_trans (by first | exact Nat.le_refl _ | (show _ ≤ (World.alloc _ _).heap.size; simp)) hg6.size; have kd6 : w6.cell? ⟨D, 0, none⟩ = some (.pointer (some ⟨S, 0, none⟩)) := (World.cell?_of_block (w := w5) (a := ⟨D, 0, none⟩) (hblk6 D hD4)).trans kd; have ks6 : w6.cell? ⟨S, 0, none⟩ = some v3 := (World.cell?_of_block (w := w5) (a := ⟨S, 0, none⟩) (hblk6 S hS4)).trans ks; have kf6 : w6.frozen? ⟨S, 0, none⟩ = false := (World.frozen?_of_block (w := w5) (a := ⟨S, 0, none⟩) (hblk6 S hS4)).trans kf; have f60 : w6.cell? ⟨w.heap.size, 0, none⟩ = some (Value.string (strOf dt)) := (World.cell?_of_block (w := w5) (a := ⟨w.heap.size, 0, none⟩) (hblk6 _ hF4)).trans f50; have f61 : w6.cell? ⟨w.heap.size, 1, none⟩ = some (Value.string (strOf F.d)) := (World.cell?_of_block (w := w5) (a := ⟨w.heap.size, 1, none⟩) (hblk6 _ hF4)).trans f51; have f62 : w6.cell? ⟨w.heap.size, 2, none⟩ = some (Value.int IntKind.i64 (F.s : Int)) := (World.cell?_of_block (w := w5) (a := ⟨w.heap.size, 2, none⟩) (hblk6 _ hF4)).trans f52) | (refine step_append_keep rfl (.tmp 61) (.tmp 63) 96 rfl (wc.alloc (Obj.cells #[Value.string (strOf dt), Value.string (strOf F.d), Value.int IntKind.i64 (F.s : Int)] 107)).heap.size 107 i0 (.agg #[.string ⟨#[]⟩, .string ⟨#[]⟩, .int .i64 0]) 3 40 Tryz.underlying96 hi0 hz0 hz1 hz2 rfl (by decide) (.slice a5 (wOut (wOut fs nm) dt).length c5) (wOut (wOut fs nm) dt).length ((wOut (wOut fs nm) dt).flatMap FD.cells) (by simp [Act.eval]) ho5 ⟨wc.heap.size, 0, none⟩ 1 1 [Value.string (strOf dt), Value.string (strOf F.d), Value.int IntKind.i64 (F.s : Int)] (by omega) (by simp [Act.eval]) rfl (by intro j u hu; rw [Go.WideShapes.add_plain]; refine (hb5.cell (by show wc.heap.size < (World.alloc _ _).heap.size; simp)).trans ((World.cell?_alloc_at _ _ _ _ rfl).trans ?_); simpa using hu) (by intro u hu; simp at hu; rcases hu with rfl | rfl | rfl <;> rfl) (by unfold maxLen; omega) (by omega) (by first | exact hs5 | exact hb5.size | (show _ ≤ (World.alloc _ _).heap.size; simp; omega)) ?_; intro v6 w6 ho6 hg6 hloc6; obtain ⟨va6, vc6, rfl⟩ := shape_of ho6; have hblk6 : ∀ k, k < wc.heap.size → w6.heap[k]? = w5.heap[k]? := (fun k hk => hg6.block k (by omega) (fun hh => by have h9 := hlo5 k hh.symm; omega)); have hs6 : w5.heap.size ≤ w6.heap.size := Nat.le_trans (by first | exact Nat.le_refl _ | (show _ ≤ (World.alloc _ _).heap.size; simp)) hg6.size; have kd6 : w6.cell? ⟨D, 0, none⟩ = some (.pointer (some ⟨S, 0, none⟩)) := (World.cell?_of_block (w := w5) (a := ⟨D, 0, none⟩) (hblk6 D hD4)).trans kd; have ks6 : w6.cell? ⟨S, 0, none⟩ = some v3 := (World.cell?_of_block (w := w5) (a := ⟨S, 0, none⟩) (hblk6 S hS4)).trans ks; have kf6 : w6.frozen? ⟨S, 0, none⟩ = false := (World.frozen?_of_block (w := w5) (a := ⟨S, 0, none⟩) (hblk6 S hS4)).trans kf; have f60 : w6.cell? ⟨w.heap.size, 0, none⟩ = some (Value.string (strOf dt)) := (World.cell?_of_block (w := w5) (a := ⟨w.heap.size, 0, none⟩) (hblk6 _ hF4)).trans f50; have f61 : w6.cell? ⟨w.heap.size, 1, none⟩ = some (Value.string (strOf F.d)) := (World.cell?_of_block (w := w5) (a := ⟨w.heap.size, 1, none⟩) (hblk6 _ hF4)).trans f51; have f62 : w6.cell? ⟨w.heap.size, 2, none⟩ = some (Value.int IntKind.i64 (F.s : Int)) := (World.cell?_of_block (w := w5) (a := ⟨w.heap.size, 2, none⟩) (hblk6 _ hF4)).trans f52))
    all_goals
      have ho6' : w6.ownsRow wc.heap.size 107 3 (.slice va6 ((wOut (wOut fs nm) dt).length + 1) vc6) ((wOut (wOut fs nm) dt).length + 1) ((wOut (wOut fs nm) dt).flatMap FD.cells ++ [Value.string (strOf dt), Value.string (strOf F.d), Value.int IntKind.i64 (F.s : Int)]) := row_low ho6 (by first | exact Nat.le_refl _ | simp)
      have hlt6 : ∀ g, Value.ownBlock (.slice va6 ((wOut (wOut fs nm) dt).length + 1) vc6) = some g → wc.heap.size ≤ g := fun g hg => (World.ownsRow.lt ho6' g hg).1
      have hst6 : w6.heap[S]? = some (.cells #[v3, .int .i64 (stepL left)] 98 (0, 0)) := (hblk6 S hS4).trans ((hbb5.block S hS4).trans H4.out.st)
      have hsw := HK4.out.size
      have hk6 : Kpt (fun b => b = S ∨ some b = Value.ownBlock (.slice (some ⟨g, 0, none⟩) fs.length c)) w w6 := ⟨hg6.os.trans (hbb5.os.trans HK4.out.os), hg6.tape.trans (hbb5.tape.trans HK4.out.tape), hg6.output.trans (hbb5.output.trans HK4.out.output), by have := hbb5.size; omega, fun k hk hA => (hblk6 k (by omega)).trans ((hbb5.block k (by omega)).trans (HK4.out.block k hk (fun hh => hA (.inl hh))))⟩
      have HF : Hid (Did 98 107 low w S (.slice (some ⟨g, 0, none⟩) fs.length c) (aRen fs nm dt) (stepL left) (w6.setCell ⟨S, 0, none⟩ (.slice va6 ((wOut (wOut fs nm) dt).length + 1) vc6))) := by
        unfold Hid
        rw [HR.out]
        refine ⟨.slice va6 ((wOut (wOut fs nm) dt).length + 1) vc6, DS.store (low := low) (low' := wc.heap.size) hst6 ?_ (by omega) (fun hh => by have := hlt6 S hh; omega), hk6.trans (Kpt.set w6 S 0 _) (fun b _ hb => .inl hb), fun g' hg' => .inr (by have := hlt6 g' hg'; omega)⟩
        rw [List.length_append, List.flatMap_append]
        simp only [List.length_cons, List.length_nil, List.flatMap_cons, List.flatMap_nil, List.append_nil]
        exact ho6'
      clear ho6' hlt6 hst6 hk6 ho6 hg6 hloc6 hblk6 ho5 hb5 hbb5
    all_goals go_wp2
    all_goals go_ret
    all_goals exact ⟨rfl, HF.out⟩


end Go.Proofs.YtamdkmjdpdkoeaaGreatDoor
