import Derived.Test.YtdcainmlcpafbaaGreatDoorA7
namespace Go.Proofs.YtdcainmlcpafbaaGreatDoor
theorem allZero_ten (a0 a1 a2 a3 a4 a5 a6 a7 a8 a9 : Int) : allZero [a0, a1, a2, a3, a4, a5, a6, a7, a8, a9] = true ↔ a0 = 0 ∧ a1 = 0 ∧ a2 = 0 ∧ a3 = 0 ∧ a4 = 0 ∧ a5 = 0 ∧ a6 = 0 ∧ a7 = 0 ∧ a8 = 0 ∧ a9 = 0 := by
  simp [allZero, List.replicate]
def okEnd : Option (List Int) → Bool
  | none => false
  | some a => allZero a
theorem isMsgN_eq (k : Nat) (nums : List Int) : isMsgN k nums = okEnd (runChk (rowOf k) nums) := by
  unfold isMsgN; cases runChk (rowOf k) nums <;> rfl
theorem chk_step (f : Nat) (r : List Nat) (arr : List Int) : okEnd (runChk (f :: r) arr) = true ↔ (loOf f ≤ arr.getD f 0 ∧ arr.getD f 0 ≤ hiOf f) ∧ okEnd (runChk r (arr.set f 0)) = true := by
  rw [runChk]
  by_cases h : arr.getD f 0 < loOf f ∨ hiOf f < arr.getD f 0
  · rw [if_pos h]
    constructor
    · intro h2; simp [okEnd] at h2
    · rintro ⟨h2, _⟩; omega
  · rw [if_neg h]
    constructor
    · intro h2; exact ⟨by omega, h2⟩
    · rintro ⟨_, h2⟩; exact h2
theorem isMsg_1 (e b wa p s q bl v n : Int) : isMsgN 1 [0, e, b, wa, p, s, q, bl, v, n] = true ↔ (0 ≤ e ∧ e ≤ 1000000000000) ∧ (0 ≤ b ∧ b ≤ 1000000000000) ∧ wa = 0 ∧ p = 0 ∧ s = 0 ∧ q = 0 ∧ bl = 0 ∧ v = 0 ∧ n = 0 := by
  rw [isMsgN_eq]
  rw [show rowOf 1 = [1, 2, 0, 0, 0] from rfl]
  rw [chk_step, chk_step, chk_step, chk_step, chk_step]
  simp only [loOf, hiOf, loTab, hiTab, List.getD_eq_getElem?_getD, List.set_cons_zero, List.set_cons_succ, List.getElem?_cons_zero, List.getElem?_cons_succ, Option.getD_some, runChk, okEnd, allZero_ten, true_and]
  all_goals omega
theorem isMsg_2 (e b wa p s q bl v n : Int) : isMsgN 2 [0, e, b, wa, p, s, q, bl, v, n] = true ↔ (0 ≤ e ∧ e ≤ 1000000000000) ∧ (0 ≤ b ∧ b ≤ 1000000000000) ∧ (0 ≤ wa ∧ wa ≤ 1000000000000) ∧ (0 ≤ p ∧ p ≤ 5) ∧ (0 ≤ s ∧ s ≤ 31) ∧ q = 0 ∧ bl = 0 ∧ v = 0 ∧ n = 0 := by
  rw [isMsgN_eq]
  rw [show rowOf 2 = [1, 2, 3, 4, 5] from rfl]
  rw [chk_step, chk_step, chk_step, chk_step, chk_step]
  simp only [loOf, hiOf, loTab, hiTab, List.getD_eq_getElem?_getD, List.set_cons_zero, List.set_cons_succ, List.getElem?_cons_zero, List.getElem?_cons_succ, Option.getD_some, runChk, okEnd, allZero_ten, true_and]
  all_goals omega
theorem isMsg_3 (e b wa p s q bl v n : Int) : isMsgN 3 [0, e, b, wa, p, s, q, bl, v, n] = true ↔ (0 ≤ e ∧ e ≤ 1000000000000) ∧ (0 ≤ b ∧ b ≤ 1000000000000) ∧ (0 ≤ p ∧ p ≤ 5) ∧ (0 ≤ s ∧ s ≤ 31) ∧ wa = 0 ∧ q = 0 ∧ bl = 0 ∧ v = 0 ∧ n = 0 := by
  rw [isMsgN_eq]
  rw [show rowOf 3 = [1, 2, 4, 5, 0] from rfl]
  rw [chk_step, chk_step, chk_step, chk_step, chk_step]
  simp only [loOf, hiOf, loTab, hiTab, List.getD_eq_getElem?_getD, List.set_cons_zero, List.set_cons_succ, List.getElem?_cons_zero, List.getElem?_cons_succ, Option.getD_some, runChk, okEnd, allZero_ten, true_and]
  all_goals omega
theorem isMsg_4 (e b wa p s q bl v n : Int) : isMsgN 4 [0, e, b, wa, p, s, q, bl, v, n] = true ↔ (0 ≤ e ∧ e ≤ 1000000000000) ∧ (0 ≤ b ∧ b ≤ 1000000000000) ∧ wa = 0 ∧ p = 0 ∧ s = 0 ∧ q = 0 ∧ bl = 0 ∧ v = 0 ∧ n = 0 := by
  rw [isMsgN_eq]
  rw [show rowOf 4 = [1, 2, 0, 0, 0] from rfl]
  rw [chk_step, chk_step, chk_step, chk_step, chk_step]
  simp only [loOf, hiOf, loTab, hiTab, List.getD_eq_getElem?_getD, List.set_cons_zero, List.set_cons_succ, List.getElem?_cons_zero, List.getElem?_cons_succ, Option.getD_some, runChk, okEnd, allZero_ten, true_and]
  all_goals omega
theorem isMsg_5 (e b wa p s q bl v n : Int) : isMsgN 5 [0, e, b, wa, p, s, q, bl, v, n] = true ↔ (0 ≤ e ∧ e ≤ 1000000000000) ∧ (0 ≤ b ∧ b ≤ 1000000000000) ∧ (0 ≤ wa ∧ wa ≤ 1000000000000) ∧ p = 0 ∧ s = 0 ∧ q = 0 ∧ bl = 0 ∧ v = 0 ∧ n = 0 := by
  rw [isMsgN_eq]
  rw [show rowOf 5 = [1, 2, 3, 0, 0] from rfl]
  rw [chk_step, chk_step, chk_step, chk_step, chk_step]
  simp only [loOf, hiOf, loTab, hiTab, List.getD_eq_getElem?_getD, List.set_cons_zero, List.set_cons_succ, List.getElem?_cons_zero, List.getElem?_cons_succ, Option.getD_some, runChk, okEnd, allZero_ten, true_and]
  all_goals omega
theorem isMsg_6 (e b wa p s q bl v n : Int) : isMsgN 6 [0, e, b, wa, p, s, q, bl, v, n] = true ↔ (0 ≤ e ∧ e ≤ 1000000000000) ∧ (0 ≤ p ∧ p ≤ 5) ∧ (0 ≤ s ∧ s ≤ 31) ∧ b = 0 ∧ wa = 0 ∧ q = 0 ∧ bl = 0 ∧ v = 0 ∧ n = 0 := by
  rw [isMsgN_eq]
  rw [show rowOf 6 = [1, 4, 5, 0, 0] from rfl]
  rw [chk_step, chk_step, chk_step, chk_step, chk_step]
  simp only [loOf, hiOf, loTab, hiTab, List.getD_eq_getElem?_getD, List.set_cons_zero, List.set_cons_succ, List.getElem?_cons_zero, List.getElem?_cons_succ, Option.getD_some, runChk, okEnd, allZero_ten, true_and]
  all_goals omega
theorem isMsg_7 (e b wa p s q bl v n : Int) : isMsgN 7 [0, e, b, wa, p, s, q, bl, v, n] = true ↔ (0 ≤ e ∧ e ≤ 1000000000000) ∧ (0 ≤ q ∧ q ≤ 1000000000000) ∧ (0 ≤ bl ∧ bl ≤ 3) ∧ (-9223372036854775808 ≤ v ∧ v ≤ 9223372036854775807) ∧ b = 0 ∧ wa = 0 ∧ p = 0 ∧ s = 0 ∧ n = 0 := by
  rw [isMsgN_eq]
  rw [show rowOf 7 = [1, 6, 7, 8, 0] from rfl]
  rw [chk_step, chk_step, chk_step, chk_step, chk_step]
  simp only [loOf, hiOf, loTab, hiTab, List.getD_eq_getElem?_getD, List.set_cons_zero, List.set_cons_succ, List.getElem?_cons_zero, List.getElem?_cons_succ, Option.getD_some, runChk, okEnd, allZero_ten, true_and]
  all_goals omega
theorem isMsg_8 (e b wa p s q bl v n : Int) : isMsgN 8 [0, e, b, wa, p, s, q, bl, v, n] = true ↔ (0 ≤ e ∧ e ≤ 1000000000000) ∧ (0 ≤ q ∧ q ≤ 1000000000000) ∧ b = 0 ∧ wa = 0 ∧ p = 0 ∧ s = 0 ∧ bl = 0 ∧ v = 0 ∧ n = 0 := by
  rw [isMsgN_eq]
  rw [show rowOf 8 = [1, 6, 0, 0, 0] from rfl]
  rw [chk_step, chk_step, chk_step, chk_step, chk_step]
  simp only [loOf, hiOf, loTab, hiTab, List.getD_eq_getElem?_getD, List.set_cons_zero, List.set_cons_succ, List.getElem?_cons_zero, List.getElem?_cons_succ, Option.getD_some, runChk, okEnd, allZero_ten, true_and]
  all_goals omega
theorem isMsg_9 (e b wa p s q bl v n : Int) : isMsgN 9 [0, e, b, wa, p, s, q, bl, v, n] = true ↔ (0 ≤ e ∧ e ≤ 1000000000000) ∧ (0 ≤ q ∧ q ≤ 1000000000000) ∧ (0 ≤ n ∧ n ≤ 4) ∧ b = 0 ∧ wa = 0 ∧ p = 0 ∧ s = 0 ∧ bl = 0 ∧ v = 0 := by
  rw [isMsgN_eq]
  rw [show rowOf 9 = [1, 6, 9, 0, 0] from rfl]
  rw [chk_step, chk_step, chk_step, chk_step, chk_step]
  simp only [loOf, hiOf, loTab, hiTab, List.getD_eq_getElem?_getD, List.set_cons_zero, List.set_cons_succ, List.getElem?_cons_zero, List.getElem?_cons_succ, Option.getD_some, runChk, okEnd, allZero_ten, true_and, and_true]
  all_goals omega
theorem isMsg_10 (e b wa p s q bl v n : Int) : isMsgN 10 [0, e, b, wa, p, s, q, bl, v, n] = true ↔ (0 ≤ e ∧ e ≤ 1000000000000) ∧ (0 ≤ q ∧ q ≤ 1000000000000) ∧ b = 0 ∧ wa = 0 ∧ p = 0 ∧ s = 0 ∧ bl = 0 ∧ v = 0 ∧ n = 0 := by
  rw [isMsgN_eq]
  rw [show rowOf 10 = [1, 6, 0, 0, 0] from rfl]
  rw [chk_step, chk_step, chk_step, chk_step, chk_step]
  simp only [loOf, hiOf, loTab, hiTab, List.getD_eq_getElem?_getD, List.set_cons_zero, List.set_cons_succ, List.getElem?_cons_zero, List.getElem?_cons_succ, Option.getD_some, runChk, okEnd, allZero_ten, true_and]
  all_goals omega
end Go.Proofs.YtdcainmlcpafbaaGreatDoor
