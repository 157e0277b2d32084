import Derived.Test.YtdcainmlcpafbaaGreatDoorE9
set_option linter.unusedSimpArgs false
set_option linter.unusedVariables false
namespace Go.Proofs.YtdcainmlcpafbaaGreatDoor
open Go.RowKit

theorem isMsg_facts {k f e b wa p s q bl v : Int} {zs : List Int} (h : isMsg k f [0, e, b, wa, p, s, q, bl, v, (zs.length : Int)] = true) : 1 ≤ k ∧ k ≤ 10 ∧ 0 ≤ f ∧ f < 5 ∧ zs.length ≤ 4 ∧ (k ≠ 9 → zs = []) := by
  unfold isMsg at h
  rw [Bool.and_eq_true, Bool.not_eq_true'] at h
  obtain ⟨h1, h2⟩ := h
  unfold outB at h1
  rw [decide_eq_false_iff_not] at h1
  have hk : 1 ≤ k ∧ k ≤ 10 ∧ 0 ≤ f ∧ f < 5 := by omega
  refine ⟨hk.1, hk.2.1, hk.2.2.1, hk.2.2.2, ?_⟩
  rcases (show k = 1 ∨ k = 2 ∨ k = 3 ∨ k = 4 ∨ k = 5 ∨ k = 6 ∨ k = 7 ∨ k = 8 ∨ k = 9 ∨ k = 10 by omega) with rfl | rfl | rfl | rfl | rfl | rfl | rfl | rfl | rfl | rfl
  · have h3 := (isMsg_1 e b wa p s q bl v (zs.length : Int)).mp h2
    rw [← List.length_eq_zero_iff]
    omega
  · have h3 := (isMsg_2 e b wa p s q bl v (zs.length : Int)).mp h2
    rw [← List.length_eq_zero_iff]
    omega
  · have h3 := (isMsg_3 e b wa p s q bl v (zs.length : Int)).mp h2
    rw [← List.length_eq_zero_iff]
    omega
  · have h3 := (isMsg_4 e b wa p s q bl v (zs.length : Int)).mp h2
    rw [← List.length_eq_zero_iff]
    omega
  · have h3 := (isMsg_5 e b wa p s q bl v (zs.length : Int)).mp h2
    rw [← List.length_eq_zero_iff]
    omega
  · have h3 := (isMsg_6 e b wa p s q bl v (zs.length : Int)).mp h2
    rw [← List.length_eq_zero_iff]
    omega
  · have h3 := (isMsg_7 e b wa p s q bl v (zs.length : Int)).mp h2
    rw [← List.length_eq_zero_iff]
    omega
  · have h3 := (isMsg_8 e b wa p s q bl v (zs.length : Int)).mp h2
    rw [← List.length_eq_zero_iff]
    omega
  · have h3 := (isMsg_9 e b wa p s q bl v (zs.length : Int)).mp h2
    rw [← List.length_eq_zero_iff]
    omega
  · have h3 := (isMsg_10 e b wa p s q bl v (zs.length : Int)).mp h2
    rw [← List.length_eq_zero_iff]
    omega
set_option maxHeartbeats 1000000 in
set_option maxRecDepth 20000 in
theorem rencode_yes (k f e b wa p s q bl v : Int) (a : Option Addr) (c : Nat) (zs : List Int) (w : World) (bk : -9223372036854775808 ≤ k ∧ k ≤ 9223372036854775807) (bv : -9223372036854775808 ≤ v ∧ v ≤ 9223372036854775807) (h1 : intsAt w a zs) (hm : isMsg k f [0, e, b, wa, p, s, q, bl, v, (zs.length : Int)] = true) :
    Calls Tryz.prog 63 #[.agg #[.int .i64 k, .int .i64 f, .int .i64 e, .int .i64 b, .int .i64 wa, .int .i64 p, .int .i64 s, .int .i64 q, .int .i64 bl, .int .i64 v, .slice a zs.length c]] w fun r w' => r = .returned (.tuple #[.string (strOf (encOf k.toNat f.toNat [0, e, b, wa, p, s, q, bl, v, (zs.length : Int)] zs)), .int .i64 0]) ∧ Below w.heap.size w w' := by
  obtain ⟨x1, x2, x3, x4, x5, x6⟩ := isMsg_facts hm
  have hb0 := (Below.refl w.heap.size w).alloc (Nat.le_refl _) (Obj.cells #[Value.int IntKind.i64 k, Value.int IntKind.i64 f, Value.int IntKind.i64 e, Value.int IntKind.i64 b, Value.int IntKind.i64 wa, Value.int IntKind.i64 p, Value.int IntKind.i64 s, Value.int IntKind.i64 q, Value.int IntKind.i64 bl, Value.int IntKind.i64 v, Value.slice a zs.length c] 136)
  have hc0 : ∀ i, (w.alloc (Obj.cells #[Value.int IntKind.i64 k, Value.int IntKind.i64 f, Value.int IntKind.i64 e, Value.int IntKind.i64 b, Value.int IntKind.i64 wa, Value.int IntKind.i64 p, Value.int IntKind.i64 s, Value.int IntKind.i64 q, Value.int IntKind.i64 bl, Value.int IntKind.i64 v, Value.slice a zs.length c] 136)).cell? ⟨w.heap.size, i, none⟩ = #[Value.int IntKind.i64 k, Value.int IntKind.i64 f, Value.int IntKind.i64 e, Value.int IntKind.i64 b, Value.int IntKind.i64 wa, Value.int IntKind.i64 p, Value.int IntKind.i64 s, Value.int IntKind.i64 q, Value.int IntKind.i64 bl, Value.int IntKind.i64 v, Value.slice a zs.length c][i]? := fun i => World.cell?_alloc_at _ _ _ _ rfl
  have hs0 : (w.alloc (Obj.cells #[Value.int IntKind.i64 k, Value.int IntKind.i64 f, Value.int IntKind.i64 e, Value.int IntKind.i64 b, Value.int IntKind.i64 wa, Value.int IntKind.i64 p, Value.int IntKind.i64 s, Value.int IntKind.i64 q, Value.int IntKind.i64 bl, Value.int IntKind.i64 v, Value.slice a zs.length c] 136)).heap.size = w.heap.size + 1 := by simp
  have h10 := h1.later hb0
  go_enter Tryz.func63, Tryz.ntmps63
  go_wp2_with fail
  generalize (w.alloc (Obj.cells #[Value.int IntKind.i64 k, Value.int IntKind.i64 f, Value.int IntKind.i64 e, Value.int IntKind.i64 b, Value.int IntKind.i64 wa, Value.int IntKind.i64 p, Value.int IntKind.i64 s, Value.int IntKind.i64 q, Value.int IntKind.i64 bl, Value.int IntKind.i64 v, Value.slice a zs.length c] 136)) = W0 at *
  refine (right_any k f e b wa p s q bl v a c zs W0 (by omega) bk bv h10).mono ?_
  rintro r w1 ⟨rfl, hb1⟩
  rw [hm]
  have hc1 : ∀ i, w1.cell? ⟨w.heap.size, i, none⟩ = #[Value.int IntKind.i64 k, Value.int IntKind.i64 f, Value.int IntKind.i64 e, Value.int IntKind.i64 b, Value.int IntKind.i64 wa, Value.int IntKind.i64 p, Value.int IntKind.i64 s, Value.int IntKind.i64 q, Value.int IntKind.i64 bl, Value.int IntKind.i64 v, Value.slice a zs.length c][i]? := fun i => (hb1.cell (by show w.heap.size < _; omega)).trans (hc0 i)
  have hd1 := hb0.trans (hb1.mono (by omega))
  have hs1 := hb1.size
  have h11 := h1.later hd1
  clear hb0 hb1 hc0 h1 h10 hm
  have hq : w.heap.size < w1.heap.size := by omega
  have HX6 : Hid _ := x6
  clear x6
  go_wp2_with fail
  refine (laid_any k f e b wa p s q bl v a c zs w1 x1 x2 x3 x4 x5 HX6.out h11).mono ?_
  rintro r w2 ⟨rfl, hb2⟩
  have hd2 := hd1.trans (hb2.mono (by omega))
  clear hb2 hc1
  go_wp2
  go_ret2
  exact ⟨rfl, hd2⟩
set_option maxHeartbeats 1000000 in
set_option maxRecDepth 20000 in
theorem rencode_no (k f e b wa p s q bl v : Int) (a : Option Addr) (c : Nat) (zs : List Int) (w : World) (hl : zs.length ≤ 9223372036854775807) (bk : -9223372036854775808 ≤ k ∧ k ≤ 9223372036854775807) (bv : -9223372036854775808 ≤ v ∧ v ≤ 9223372036854775807) (h1 : intsAt w a zs) (hm : isMsg k f [0, e, b, wa, p, s, q, bl, v, (zs.length : Int)] = false) :
    Calls Tryz.prog 63 #[.agg #[.int .i64 k, .int .i64 f, .int .i64 e, .int .i64 b, .int .i64 wa, .int .i64 p, .int .i64 s, .int .i64 q, .int .i64 bl, .int .i64 v, .slice a zs.length c]] w fun r w' => r = .returned (.tuple #[.string (strOf []), .int .i64 1]) ∧ Below w.heap.size w w' := by
  have hb0 := (Below.refl w.heap.size w).alloc (Nat.le_refl _) (Obj.cells #[Value.int IntKind.i64 k, Value.int IntKind.i64 f, Value.int IntKind.i64 e, Value.int IntKind.i64 b, Value.int IntKind.i64 wa, Value.int IntKind.i64 p, Value.int IntKind.i64 s, Value.int IntKind.i64 q, Value.int IntKind.i64 bl, Value.int IntKind.i64 v, Value.slice a zs.length c] 136)
  have h10 := h1.later hb0
  go_enter Tryz.func63, Tryz.ntmps63
  go_wp2_with fail
  refine (right_any k f e b wa p s q bl v a c zs _ hl bk bv h10).mono ?_
  rintro r w1 ⟨rfl, hb1⟩
  rw [hm]
  have hd1 := hb0.trans (hb1.mono (by simp))
  clear hb0 hb1 h1 h10 hm
  go_wp2
  go_ret2
  exact ⟨rfl, hd1⟩
end Go.Proofs.YtdcainmlcpafbaaGreatDoor
