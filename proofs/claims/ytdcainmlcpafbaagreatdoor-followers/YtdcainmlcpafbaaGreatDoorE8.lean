import Derived.Test.YtdcainmlcpafbaaGreatDoorE7
namespace Go.Proofs.YtdcainmlcpafbaaGreatDoor
open Go.RowKit

def rightB (zs z2 : List Int) (k f e b wa p s q bl v k' f' e' b' wa' p' s' q' bl' v' : Int) : Bool := (sameB zs z2 k f e b wa p s q bl v k' f' e' b' wa' p' s' q' bl' v' && inB (wrap64 (k - 1)) 9 && inB f 4 && inB e 1000000000000 && inB b 1000000000000 && inB wa 1000000000000 && inB p 5 && inB s 31 && inB q 1000000000000 && inB bl 3 && decide ((zs.length : Int) ≤ 4))
set_option maxHeartbeats 4000000 in
set_option maxRecDepth 20000 in
theorem right_gen (k f e b wa p s q bl v k' f' e' b' wa' p' s' q' bl' v' : Int) (a a2 : Option Addr) (c c2 : Nat) (zs z2 : List Int) (w : World) (hl : zs.length ≤ 9223372036854775807) (h1 : intsAt w a zs) (h2 : z2 = [] ∨ (a2 = a ∧ z2 = zs))
    (hO : ∀ w, Calls Tryz.prog 153 #[.agg #[.int .i64 k, .int .i64 f, .int .i64 e, .int .i64 b, .int .i64 wa, .int .i64 p, .int .i64 s, .int .i64 q, .int .i64 bl, .int .i64 v, .slice a zs.length c]] w fun r w' => r = .returned (.agg #[.int .i64 k', .int .i64 f', .int .i64 e', .int .i64 b', .int .i64 wa', .int .i64 p', .int .i64 s', .int .i64 q', .int .i64 bl', .int .i64 v', .slice a2 z2.length c2]) ∧ Below w.heap.size w w') :
    Calls Tryz.prog 95 #[.agg #[.int .i64 k, .int .i64 f, .int .i64 e, .int .i64 b, .int .i64 wa, .int .i64 p, .int .i64 s, .int .i64 q, .int .i64 bl, .int .i64 v, .slice a zs.length c]] w fun r w' => r = .returned (.bool (rightB zs z2 k f e b wa p s q bl v k' f' e' b' wa' p' s' q' bl' v')) ∧ Below w.heap.size w w' := by
  have HB : Hid (rightB zs z2 k f e b wa p s q bl v k' f' e' b' wa' p' s' q' bl' v' = (sameB zs z2 k f e b wa p s q bl v k' f' e' b' wa' p' s' q' bl' v' && inB (wrap64 (k - 1)) 9 && inB f 4 && inB e 1000000000000 && inB b 1000000000000 && inB wa 1000000000000 && inB p 5 && inB s 31 && inB q 1000000000000 && inB bl 3 && decide ((zs.length : Int) ≤ 4))) := rfl
  have hb0 := (Below.refl w.heap.size w).alloc (Nat.le_refl _) (Obj.cells #[Value.int IntKind.i64 k, Value.int IntKind.i64 f, Value.int IntKind.i64 e, Value.int IntKind.i64 b, Value.int IntKind.i64 wa, Value.int IntKind.i64 p, Value.int IntKind.i64 s, Value.int IntKind.i64 q, Value.int IntKind.i64 bl, Value.int IntKind.i64 v, Value.slice a zs.length c] 136)
  have hc0 : ∀ i, (w.alloc (Obj.cells #[Value.int IntKind.i64 k, Value.int IntKind.i64 f, Value.int IntKind.i64 e, Value.int IntKind.i64 b, Value.int IntKind.i64 wa, Value.int IntKind.i64 p, Value.int IntKind.i64 s, Value.int IntKind.i64 q, Value.int IntKind.i64 bl, Value.int IntKind.i64 v, Value.slice a zs.length c] 136)).cell? ⟨w.heap.size, i, none⟩ = #[Value.int IntKind.i64 k, Value.int IntKind.i64 f, Value.int IntKind.i64 e, Value.int IntKind.i64 b, Value.int IntKind.i64 wa, Value.int IntKind.i64 p, Value.int IntKind.i64 s, Value.int IntKind.i64 q, Value.int IntKind.i64 bl, Value.int IntKind.i64 v, Value.slice a zs.length c][i]? := fun i => World.cell?_alloc_at _ _ _ _ rfl
  have hs0 : (w.alloc (Obj.cells #[Value.int IntKind.i64 k, Value.int IntKind.i64 f, Value.int IntKind.i64 e, Value.int IntKind.i64 b, Value.int IntKind.i64 wa, Value.int IntKind.i64 p, Value.int IntKind.i64 s, Value.int IntKind.i64 q, Value.int IntKind.i64 bl, Value.int IntKind.i64 v, Value.slice a zs.length c] 136)).heap.size = w.heap.size + 1 := by simp
  go_enter Tryz.func95, Tryz.ntmps95
  go_wp2_with fail
  generalize (w.alloc (Obj.cells #[Value.int IntKind.i64 k, Value.int IntKind.i64 f, Value.int IntKind.i64 e, Value.int IntKind.i64 b, Value.int IntKind.i64 wa, Value.int IntKind.i64 p, Value.int IntKind.i64 s, Value.int IntKind.i64 q, Value.int IntKind.i64 bl, Value.int IntKind.i64 v, Value.slice a zs.length c] 136)) = W0 at *
  refine (hO W0).mono ?_
  rintro r w1 ⟨rfl, hb1⟩
  have hc1 : ∀ i, w1.cell? ⟨w.heap.size, i, none⟩ = #[Value.int IntKind.i64 k, Value.int IntKind.i64 f, Value.int IntKind.i64 e, Value.int IntKind.i64 b, Value.int IntKind.i64 wa, Value.int IntKind.i64 p, Value.int IntKind.i64 s, Value.int IntKind.i64 q, Value.int IntKind.i64 bl, Value.int IntKind.i64 v, Value.slice a zs.length c][i]? := fun i => (hb1.cell (by show w.heap.size < _; omega)).trans (hc0 i)
  have hbb1 := hb0.trans (hb1.mono (by omega))
  have hs1 := hb1.size
  clear hc0 hb0 hb1 hO
  have hbx := hbb1.alloc (by omega) (Obj.cells #[Value.int IntKind.i64 k', Value.int IntKind.i64 f', Value.int IntKind.i64 e', Value.int IntKind.i64 b', Value.int IntKind.i64 wa', Value.int IntKind.i64 p', Value.int IntKind.i64 s', Value.int IntKind.i64 q', Value.int IntKind.i64 bl', Value.int IntKind.i64 v', Value.slice a2 z2.length c2] 136)
  have hcx : ∀ i, (w1.alloc (Obj.cells #[Value.int IntKind.i64 k', Value.int IntKind.i64 f', Value.int IntKind.i64 e', Value.int IntKind.i64 b', Value.int IntKind.i64 wa', Value.int IntKind.i64 p', Value.int IntKind.i64 s', Value.int IntKind.i64 q', Value.int IntKind.i64 bl', Value.int IntKind.i64 v', Value.slice a2 z2.length c2] 136)).cell? ⟨w.heap.size, i, none⟩ = #[Value.int IntKind.i64 k, Value.int IntKind.i64 f, Value.int IntKind.i64 e, Value.int IntKind.i64 b, Value.int IntKind.i64 wa, Value.int IntKind.i64 p, Value.int IntKind.i64 s, Value.int IntKind.i64 q, Value.int IntKind.i64 bl, Value.int IntKind.i64 v, Value.slice a zs.length c][i]? := fun i => by rw [World.cell?_alloc_past _ _ _ (by show w.heap.size < _; omega), hc1]
  have hcy : ∀ i, (w1.alloc (Obj.cells #[Value.int IntKind.i64 k', Value.int IntKind.i64 f', Value.int IntKind.i64 e', Value.int IntKind.i64 b', Value.int IntKind.i64 wa', Value.int IntKind.i64 p', Value.int IntKind.i64 s', Value.int IntKind.i64 q', Value.int IntKind.i64 bl', Value.int IntKind.i64 v', Value.slice a2 z2.length c2] 136)).cell? ⟨w1.heap.size, i, none⟩ = #[Value.int IntKind.i64 k', Value.int IntKind.i64 f', Value.int IntKind.i64 e', Value.int IntKind.i64 b', Value.int IntKind.i64 wa', Value.int IntKind.i64 p', Value.int IntKind.i64 s', Value.int IntKind.i64 q', Value.int IntKind.i64 bl', Value.int IntKind.i64 v', Value.slice a2 z2.length c2][i]? := fun i => World.cell?_alloc_at _ _ _ _ rfl
  have hsx : (w1.alloc (Obj.cells #[Value.int IntKind.i64 k', Value.int IntKind.i64 f', Value.int IntKind.i64 e', Value.int IntKind.i64 b', Value.int IntKind.i64 wa', Value.int IntKind.i64 p', Value.int IntKind.i64 s', Value.int IntKind.i64 q', Value.int IntKind.i64 bl', Value.int IntKind.i64 v', Value.slice a2 z2.length c2] 136)).heap.size = w1.heap.size + 1 := by simp
  have h1x := h1.later hbx
  have h2x : intsAt (w1.alloc (Obj.cells #[Value.int IntKind.i64 k', Value.int IntKind.i64 f', Value.int IntKind.i64 e', Value.int IntKind.i64 b', Value.int IntKind.i64 wa', Value.int IntKind.i64 p', Value.int IntKind.i64 s', Value.int IntKind.i64 q', Value.int IntKind.i64 bl', Value.int IntKind.i64 v', Value.slice a2 z2.length c2] 136)) a2 z2 := by
    rcases h2 with rfl | ⟨rfl, rfl⟩
    · exact .inl rfl
    · exact h1x
  clear h1 h2 hc1
  go_wp2_with fail
  generalize (w1.alloc (Obj.cells #[Value.int IntKind.i64 k', Value.int IntKind.i64 f', Value.int IntKind.i64 e', Value.int IntKind.i64 b', Value.int IntKind.i64 wa', Value.int IntKind.i64 p', Value.int IntKind.i64 s', Value.int IntKind.i64 q', Value.int IntKind.i64 bl', Value.int IntKind.i64 v', Value.slice a2 z2.length c2] 136)) = W1 at *
  refine (rsame_any k f e b wa p s q bl v k' f' e' b' wa' p' s' q' bl' v' a a2 c c2 zs z2 W1 hl h1x h2x).mono ?_
  rintro r w2 ⟨rfl, hb2⟩
  have hc2 : ∀ i, w2.cell? ⟨w.heap.size, i, none⟩ = #[Value.int IntKind.i64 k, Value.int IntKind.i64 f, Value.int IntKind.i64 e, Value.int IntKind.i64 b, Value.int IntKind.i64 wa, Value.int IntKind.i64 p, Value.int IntKind.i64 s, Value.int IntKind.i64 q, Value.int IntKind.i64 bl, Value.int IntKind.i64 v, Value.slice a zs.length c][i]? := fun i => (hb2.cell (by show w.heap.size < _; omega)).trans (hcx i)
  have hbb2 := hbx.trans (hb2.mono (by omega))
  have hs2 := hb2.size
  have hq : w.heap.size < w2.heap.size := by omega
  clear hcx hcy hb2 hbx hbb1 h1x h2x hs1 hs2 hsx hs0
  generalize sameB zs z2 k f e b wa p s q bl v k' f' e' b' wa' p' s' q' bl' v' = B0 at *
  go_wp2_with (first | (go_at_call 154; refine (in_any _ _ _).mono ?_; rintro r w' ⟨rfl, rfl⟩))
  all_goals go_ret
  all_goals refine ⟨ret_bool ?_, hbb2⟩
  all_goals rw [HB.out]
  all_goals simp [*]
theorem rightM_low (zs : List Int) (k f e b wa p s q bl v : Int) (h : k < 1) (bk : -9223372036854775808 ≤ k ∧ k ≤ 9223372036854775807) : rightB zs [] k f e b wa p s q bl v k f e 0 0 0 0 0 0 0 = isMsg k f [0, e, b, wa, p, s, q, bl, v, (zs.length : Int)] := by
  have e1 : isMsg k f [0, e, b, wa, p, s, q, bl, v, (zs.length : Int)] = false := by
    unfold isMsg outB
    rw [decide_eq_true (by omega)]
    rfl
  have e2 : inB (wrap64 (k - 1)) 9 = false := by
    unfold inB wrap64
    rw [decide_eq_false_iff_not]
    omega
  rw [e1]
  unfold rightB
  rw [e2]
  simp
theorem rightM_high (zs : List Int) (k f e b wa p s q bl v : Int) (h : 10 < k) (bk : -9223372036854775808 ≤ k ∧ k ≤ 9223372036854775807) : rightB zs [] k f e b wa p s q bl v k f e 0 0 0 0 0 0 0 = isMsg k f [0, e, b, wa, p, s, q, bl, v, (zs.length : Int)] := by
  have e1 : isMsg k f [0, e, b, wa, p, s, q, bl, v, (zs.length : Int)] = false := by
    unfold isMsg outB
    rw [decide_eq_true (by omega)]
    rfl
  have e2 : inB (wrap64 (k - 1)) 9 = false := by
    unfold inB wrap64
    rw [decide_eq_false_iff_not]
    omega
  rw [e1]
  unfold rightB
  rw [e2]
  simp
theorem rightM_1 (zs : List Int) (f e b wa p s q bl v : Int) : rightB zs [] 1 f e b wa p s q bl v 1 f e b 0 0 0 0 0 0 = isMsg 1 f [0, e, b, wa, p, s, q, bl, v, (zs.length : Int)] := by
  have e1 : inB (wrap64 (1 - 1)) 9 = true := by unfold inB wrap64; rw [decide_eq_true (by omega)]
  rw [Bool.eq_iff_iff]
  unfold rightB isMsg
  rw [e1]
  rw [show ((1 : Int).toNat) = 1 from rfl]
  unfold sameB fieldsB inB outB
  simp only [Bool.and_eq_true, decide_eq_true_eq, Bool.not_eq_true', decide_eq_false_iff_not, isMsg_1, ← List.length_eq_zero_iff, true_and, and_true, eq_self]
  omega
theorem rightM_2 (zs : List Int) (f e b wa p s q bl v : Int) : rightB zs [] 2 f e b wa p s q bl v 2 f e b wa p s 0 0 0 = isMsg 2 f [0, e, b, wa, p, s, q, bl, v, (zs.length : Int)] := by
  have e1 : inB (wrap64 (2 - 1)) 9 = true := by unfold inB wrap64; rw [decide_eq_true (by omega)]
  rw [Bool.eq_iff_iff]
  unfold rightB isMsg
  rw [e1]
  rw [show ((2 : Int).toNat) = 2 from rfl]
  unfold sameB fieldsB inB outB
  simp only [Bool.and_eq_true, decide_eq_true_eq, Bool.not_eq_true', decide_eq_false_iff_not, isMsg_2, ← List.length_eq_zero_iff, true_and, and_true, eq_self]
  omega
theorem rightM_3 (zs : List Int) (f e b wa p s q bl v : Int) : rightB zs [] 3 f e b wa p s q bl v 3 f e b 0 p s 0 0 0 = isMsg 3 f [0, e, b, wa, p, s, q, bl, v, (zs.length : Int)] := by
  have e1 : inB (wrap64 (3 - 1)) 9 = true := by unfold inB wrap64; rw [decide_eq_true (by omega)]
  rw [Bool.eq_iff_iff]
  unfold rightB isMsg
  rw [e1]
  rw [show ((3 : Int).toNat) = 3 from rfl]
  unfold sameB fieldsB inB outB
  simp only [Bool.and_eq_true, decide_eq_true_eq, Bool.not_eq_true', decide_eq_false_iff_not, isMsg_3, ← List.length_eq_zero_iff, true_and, and_true, eq_self]
  omega
theorem rightM_4 (zs : List Int) (f e b wa p s q bl v : Int) : rightB zs [] 4 f e b wa p s q bl v 4 f e b 0 0 0 0 0 0 = isMsg 4 f [0, e, b, wa, p, s, q, bl, v, (zs.length : Int)] := by
  have e1 : inB (wrap64 (4 - 1)) 9 = true := by unfold inB wrap64; rw [decide_eq_true (by omega)]
  rw [Bool.eq_iff_iff]
  unfold rightB isMsg
  rw [e1]
  rw [show ((4 : Int).toNat) = 4 from rfl]
  unfold sameB fieldsB inB outB
  simp only [Bool.and_eq_true, decide_eq_true_eq, Bool.not_eq_true', decide_eq_false_iff_not, isMsg_4, ← List.length_eq_zero_iff, true_and, and_true, eq_self]
  omega
theorem rightM_5 (zs : List Int) (f e b wa p s q bl v : Int) : rightB zs [] 5 f e b wa p s q bl v 5 f e b wa 0 0 0 0 0 = isMsg 5 f [0, e, b, wa, p, s, q, bl, v, (zs.length : Int)] := by
  have e1 : inB (wrap64 (5 - 1)) 9 = true := by unfold inB wrap64; rw [decide_eq_true (by omega)]
  rw [Bool.eq_iff_iff]
  unfold rightB isMsg
  rw [e1]
  rw [show ((5 : Int).toNat) = 5 from rfl]
  unfold sameB fieldsB inB outB
  simp only [Bool.and_eq_true, decide_eq_true_eq, Bool.not_eq_true', decide_eq_false_iff_not, isMsg_5, ← List.length_eq_zero_iff, true_and, and_true, eq_self]
  omega
theorem rightM_6 (zs : List Int) (f e b wa p s q bl v : Int) : rightB zs [] 6 f e b wa p s q bl v 6 f e 0 0 p s 0 0 0 = isMsg 6 f [0, e, b, wa, p, s, q, bl, v, (zs.length : Int)] := by
  have e1 : inB (wrap64 (6 - 1)) 9 = true := by unfold inB wrap64; rw [decide_eq_true (by omega)]
  rw [Bool.eq_iff_iff]
  unfold rightB isMsg
  rw [e1]
  rw [show ((6 : Int).toNat) = 6 from rfl]
  unfold sameB fieldsB inB outB
  simp only [Bool.and_eq_true, decide_eq_true_eq, Bool.not_eq_true', decide_eq_false_iff_not, isMsg_6, ← List.length_eq_zero_iff, true_and, and_true, eq_self]
  omega
theorem rightM_7 (zs : List Int) (f e b wa p s q bl v : Int) (bv : -9223372036854775808 ≤ v ∧ v ≤ 9223372036854775807) : rightB zs [] 7 f e b wa p s q bl v 7 f e 0 0 0 0 q bl v = isMsg 7 f [0, e, b, wa, p, s, q, bl, v, (zs.length : Int)] := by
  have e1 : inB (wrap64 (7 - 1)) 9 = true := by unfold inB wrap64; rw [decide_eq_true (by omega)]
  rw [Bool.eq_iff_iff]
  unfold rightB isMsg
  rw [e1]
  rw [show ((7 : Int).toNat) = 7 from rfl]
  unfold sameB fieldsB inB outB
  simp only [Bool.and_eq_true, decide_eq_true_eq, Bool.not_eq_true', decide_eq_false_iff_not, isMsg_7, ← List.length_eq_zero_iff, true_and, and_true, eq_self]
  omega
theorem rightM_8 (zs : List Int) (f e b wa p s q bl v : Int) : rightB zs [] 8 f e b wa p s q bl v 8 f e 0 0 0 0 q 0 0 = isMsg 8 f [0, e, b, wa, p, s, q, bl, v, (zs.length : Int)] := by
  have e1 : inB (wrap64 (8 - 1)) 9 = true := by unfold inB wrap64; rw [decide_eq_true (by omega)]
  rw [Bool.eq_iff_iff]
  unfold rightB isMsg
  rw [e1]
  rw [show ((8 : Int).toNat) = 8 from rfl]
  unfold sameB fieldsB inB outB
  simp only [Bool.and_eq_true, decide_eq_true_eq, Bool.not_eq_true', decide_eq_false_iff_not, isMsg_8, ← List.length_eq_zero_iff, true_and, and_true, eq_self]
  omega
theorem rightM_9 (zs : List Int) (f e b wa p s q bl v : Int) : rightB zs zs 9 f e b wa p s q bl v 9 f e 0 0 0 0 q 0 0 = isMsg 9 f [0, e, b, wa, p, s, q, bl, v, (zs.length : Int)] := by
  have e1 : inB (wrap64 (9 - 1)) 9 = true := by unfold inB wrap64; rw [decide_eq_true (by omega)]
  rw [Bool.eq_iff_iff]
  unfold rightB isMsg
  rw [e1]
  rw [show ((9 : Int).toNat) = 9 from rfl]
  unfold sameB fieldsB inB outB
  simp only [Bool.and_eq_true, decide_eq_true_eq, Bool.not_eq_true', decide_eq_false_iff_not, isMsg_9, true_and, and_true, eq_self]
  omega
theorem rightM_10 (zs : List Int) (f e b wa p s q bl v : Int) : rightB zs [] 10 f e b wa p s q bl v 10 f e 0 0 0 0 q 0 0 = isMsg 10 f [0, e, b, wa, p, s, q, bl, v, (zs.length : Int)] := by
  have e1 : inB (wrap64 (10 - 1)) 9 = true := by unfold inB wrap64; rw [decide_eq_true (by omega)]
  rw [Bool.eq_iff_iff]
  unfold rightB isMsg
  rw [e1]
  rw [show ((10 : Int).toNat) = 10 from rfl]
  unfold sameB fieldsB inB outB
  simp only [Bool.and_eq_true, decide_eq_true_eq, Bool.not_eq_true', decide_eq_false_iff_not, isMsg_10, ← List.length_eq_zero_iff, true_and, and_true, eq_self]
  omega
def rOf (k f e b wa p s q bl v : Int) (zs : List Int) : Bool := isMsg k f [0, e, b, wa, p, s, q, bl, v, (zs.length : Int)]
set_option maxHeartbeats 1000000 in
theorem right_any (k f e b wa p s q bl v : Int) (a : Option Addr) (c : Nat) (zs : List Int) (w : World) (hl : zs.length ≤ 9223372036854775807) (bk : -9223372036854775808 ≤ k ∧ k ≤ 9223372036854775807) (bv : -9223372036854775808 ≤ v ∧ v ≤ 9223372036854775807) (h1 : intsAt w a zs) :
    Calls Tryz.prog 95 #[.agg #[.int .i64 k, .int .i64 f, .int .i64 e, .int .i64 b, .int .i64 wa, .int .i64 p, .int .i64 s, .int .i64 q, .int .i64 bl, .int .i64 v, .slice a zs.length c]] w fun r w' => r = .returned (.bool (isMsg k f [0, e, b, wa, p, s, q, bl, v, (zs.length : Int)])) ∧ Below w.heap.size w w' := by
  by_cases hlow : k < 1
  · rw [← rightM_low zs k f e b wa p s q bl v hlow bk]
    exact right_gen _ _ _ _ _ _ _ _ _ _ _ _ _ _ _ _ _ _ _ _ a none c 0 zs [] w hl h1 (.inl rfl) (fun w => only_low k f e b wa p s q bl v a zs.length c w hlow)
  by_cases hhigh : 10 < k
  · rw [← rightM_high zs k f e b wa p s q bl v hhigh bk]
    exact right_gen _ _ _ _ _ _ _ _ _ _ _ _ _ _ _ _ _ _ _ _ a none c 0 zs [] w hl h1 (.inl rfl) (fun w => only_high k f e b wa p s q bl v a zs.length c w hhigh)
  rcases (show k = 1 ∨ k = 2 ∨ k = 3 ∨ k = 4 ∨ k = 5 ∨ k = 6 ∨ k = 7 ∨ k = 8 ∨ k = 9 ∨ k = 10 by omega) with rfl | rfl | rfl | rfl | rfl | rfl | rfl | rfl | rfl | rfl
  · rw [← rightM_1 zs f e b wa p s q bl v]
    exact right_gen _ _ _ _ _ _ _ _ _ _ _ _ _ _ _ _ _ _ _ _ a none c 0 zs [] w hl h1 (.inl rfl) (fun w => only_1 f e b wa p s q bl v a zs.length c w)
  · rw [← rightM_2 zs f e b wa p s q bl v]
    exact right_gen _ _ _ _ _ _ _ _ _ _ _ _ _ _ _ _ _ _ _ _ a none c 0 zs [] w hl h1 (.inl rfl) (fun w => only_2 f e b wa p s q bl v a zs.length c w)
  · rw [← rightM_3 zs f e b wa p s q bl v]
    exact right_gen _ _ _ _ _ _ _ _ _ _ _ _ _ _ _ _ _ _ _ _ a none c 0 zs [] w hl h1 (.inl rfl) (fun w => only_3 f e b wa p s q bl v a zs.length c w)
  · rw [← rightM_4 zs f e b wa p s q bl v]
    exact right_gen _ _ _ _ _ _ _ _ _ _ _ _ _ _ _ _ _ _ _ _ a none c 0 zs [] w hl h1 (.inl rfl) (fun w => only_4 f e b wa p s q bl v a zs.length c w)
  · rw [← rightM_5 zs f e b wa p s q bl v]
    exact right_gen _ _ _ _ _ _ _ _ _ _ _ _ _ _ _ _ _ _ _ _ a none c 0 zs [] w hl h1 (.inl rfl) (fun w => only_5 f e b wa p s q bl v a zs.length c w)
  · rw [← rightM_6 zs f e b wa p s q bl v]
    exact right_gen _ _ _ _ _ _ _ _ _ _ _ _ _ _ _ _ _ _ _ _ a none c 0 zs [] w hl h1 (.inl rfl) (fun w => only_6 f e b wa p s q bl v a zs.length c w)
  · rw [← rightM_7 zs f e b wa p s q bl v bv]
    exact right_gen _ _ _ _ _ _ _ _ _ _ _ _ _ _ _ _ _ _ _ _ a none c 0 zs [] w hl h1 (.inl rfl) (fun w => only_7 f e b wa p s q bl v a zs.length c w)
  · rw [← rightM_8 zs f e b wa p s q bl v]
    exact right_gen _ _ _ _ _ _ _ _ _ _ _ _ _ _ _ _ _ _ _ _ a none c 0 zs [] w hl h1 (.inl rfl) (fun w => only_8 f e b wa p s q bl v a zs.length c w)
  · rw [← rightM_9 zs f e b wa p s q bl v]
    exact right_gen _ _ _ _ _ _ _ _ _ _ _ _ _ _ _ _ _ _ _ _ a a c c zs zs w hl h1 (.inr ⟨rfl, rfl⟩) (fun w => only_9 f e b wa p s q bl v a zs.length c w)
  · rw [← rightM_10 zs f e b wa p s q bl v]
    exact right_gen _ _ _ _ _ _ _ _ _ _ _ _ _ _ _ _ _ _ _ _ a none c 0 zs [] w hl h1 (.inl rfl) (fun w => only_10 f e b wa p s q bl v a zs.length c w)
end Go.Proofs.YtdcainmlcpafbaaGreatDoor
