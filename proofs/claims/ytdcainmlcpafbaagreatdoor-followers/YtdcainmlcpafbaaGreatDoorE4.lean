import Derived.Test.YtdcainmlcpafbaaGreatDoorE3
namespace Go.Proofs.YtdcainmlcpafbaaGreatDoor
open Go.RowKit

theorem cntB_tail (f : Nat → Bool) (k : Nat) : ∀ n, k ≤ n → (∀ i, k ≤ i → i < n → f i = false) → cntB f n = cntB f k := by
  intro n
  induction n with
  | zero => intro h _; rw [show k = 0 by omega]
  | succ n ih =>
    intro h hf
    by_cases e : k = n + 1
    · rw [e]
    · rw [cntB, ih (by omega) (fun i h1 h2 => hf i h1 (by omega)), hf n (by omega) (by omega)]
      simp
theorem cntB_congr (f g : Nat → Bool) : ∀ n, (∀ i, i < n → f i = g i) → cntB f n = cntB g n := by
  intro n
  induction n with
  | zero => intro _; rfl
  | succ n ih => intro h; rw [cntB, cntB, ih (fun i hi => h i (by omega)), h n (by omega)]
theorem cntB_zero (f : Nat → Bool) : ∀ n, cntB f n = 0 ↔ ∀ i, i < n → f i = false := by
  intro n
  induction n with
  | zero => simp [cntB]
  | succ n ih =>
    rw [cntB]
    constructor
    · intro h i hi
      have h1 : cntB f n = 0 := by omega
      have h2 : f n = false := by
        cases hf : f n with
        | false => rfl
        | true => rw [hf] at h; simp at h
      by_cases e : i = n
      · rw [e]; exact h2
      · exact ih.1 h1 i (by omega)
    · intro h
      rw [ih.2 (fun i hi => h i (by omega)), h n (by omega)]
      rfl
theorem bit_low (o : Int) (i : Nat) (hi : i < 5) : bitI o i = bitI (((o % 32).toNat : Nat) : Int) i := by
  unfold bitI
  have h0 : 0 ≤ o % 32 := Int.emod_nonneg _ (by omega)
  rw [Int.toNat_of_nonneg h0]
  match i, hi with
  | 0, _ => simp only [Int.pow_zero]; congr 1; simp only [eq_iff_iff]; omega
  | 1, _ => rw [show (2 : Int) ^ 1 = 2 from rfl]; congr 1; simp only [eq_iff_iff]; omega
  | 2, _ => rw [show (2 : Int) ^ 2 = 4 from rfl]; congr 1; simp only [eq_iff_iff]; omega
  | 3, _ => rw [show (2 : Int) ^ 3 = 8 from rfl]; congr 1; simp only [eq_iff_iff]; omega
  | 4, _ => rw [show (2 : Int) ^ 4 = 16 from rfl]; congr 1; simp only [eq_iff_iff]; omega
theorem bit_none (S i : Nat) (hS : S < 32) (hi : 5 ≤ i) : bitI (S : Int) i = false := by
  unfold bitI
  have h : (S : Int) / 2 ^ i = 0 := by
    apply Int.ediv_eq_zero_of_lt (by omega)
    have h1 : (2 : Nat) ^ 5 ≤ 2 ^ i := Nat.pow_le_pow_right (by omega) hi
    have h2 : ((2 ^ i : Nat) : Int) = (2 : Int) ^ i := by simp
    omega
  rw [h]
  decide
theorem bit_some (o : Int) (h1 : -9223372036854775808 ≤ o) (h2 : o ≤ 9223372036854775807) (h : ¬ (0 ≤ o ∧ o < 32)) : ∃ i, 5 ≤ i ∧ i < 64 ∧ bitI o i = true := by
  by_cases hn : o < 0
  · refine ⟨63, by omega, by omega, ?_⟩
    unfold bitI
    rw [show (2 : Int) ^ 63 = 9223372036854775808 from rfl, decide_eq_true_eq]
    omega
  · obtain ⟨n, rfl⟩ := Int.eq_ofNat_of_zero_le (show 0 ≤ o by omega)
    have hn0 : n ≠ 0 := by omega
    have a1 := Nat.log2_self_le hn0
    have a2 := @Nat.lt_log2_self n
    have b1 : 5 ≤ n.log2 := by
      rcases Nat.lt_or_ge n.log2 5 with c | c
      · have : 2 ^ (n.log2 + 1) ≤ 2 ^ 5 := Nat.pow_le_pow_right (by omega) (by omega)
        omega
      · exact c
    have b2 : n.log2 < 64 := by
      rcases Nat.lt_or_ge n.log2 64 with c | c
      · exact c
      · have : 2 ^ 64 ≤ 2 ^ n.log2 := Nat.pow_le_pow_right (by omega) c
        omega
    refine ⟨n.log2, b1, b2, ?_⟩
    unfold bitI
    have e : (n : Int) / 2 ^ n.log2 = 1 := by
      have : n / 2 ^ n.log2 = 1 := by
        apply Nat.div_eq_of_lt_le
        · simpa using a1
        · rw [Nat.pow_succ] at a2; omega
      have h3 : ((n / 2 ^ n.log2 : Nat) : Int) = (n : Int) / 2 ^ n.log2 := by simp
      rw [← h3, this]; rfl
    rw [e]
    decide
theorem or_eq (S M : Nat) (o : Int) (hS : S < 32) (hM : M < 32) (h1 : -9223372036854775808 ≤ o) (h2 : o ≤ 9223372036854775807) :
    (S : Int) = bits .or .i64 o (M : Int) ↔ (0 ≤ o ∧ o < 32) ∧ (o % 32).toNat ||| M = S := by
  have e2 : (BitVec.ofInt 64 (M : Int)).toNat = M := by rw [BitVec.ofInt_natCast, BitVec.toNat_ofNat]; exact Nat.mod_eq_of_lt (by omega)
  have e1 : (BitVec.ofInt 64 o).toNat = (o % 18446744073709551616).toNat := by rw [BitVec.toNat_ofInt]; rfl
  have e0 : bits .or .i64 o (M : Int) = IntKind.i64.wrap ((((o % 18446744073709551616).toNat ||| M : Nat)) : Int) := by
    show IntKind.i64.wrap ((BitVec.ofInt 64 o ||| BitVec.ofInt 64 (M : Int)).toNat : Int) = _
    rw [BitVec.toNat_or, e1, e2]
  rw [e0, IntKind.wrap_i64]
  have hlt : (o % 18446744073709551616).toNat ||| M < 2 ^ 64 := Nat.or_lt_two_pow (by omega) (by omega)
  have hle : (o % 18446744073709551616).toNat ≤ (o % 18446744073709551616).toNat ||| M := Nat.left_le_or
  constructor
  · intro h
    have e3 : (o % 18446744073709551616).toNat ||| M = S := by omega
    have e4 : 0 ≤ o ∧ o < 32 := by omega
    refine ⟨e4, ?_⟩
    rw [← e3]
    congr 1
    omega
  · rintro ⟨h3, h4⟩
    have e5 : (o % 18446744073709551616).toNat = (o % 32).toNat := by omega
    rw [e5, h4]
    omega
theorem small : ∀ S, S < 32 → ∀ r, r < 32 → ((S &&& (31 - r) = 0 ↔ cntB (moreF (r : Nat) (S : Nat)) 5 = 0) ∧ (pop (S &&& (31 - r)) = 1 ↔ cntB (moreF (r : Nat) (S : Nat)) 5 = 1) ∧ ((r ||| (S &&& (31 - r)) = S) ↔ cntB (lessF (r : Nat) (S : Nat)) 5 = 0)) := by
  decide +kernel
theorem sets_eq (oP oS nP : Int) (S : Nat) (hS : S < 32) (h1 : -9223372036854775808 ≤ oS) (h2 : oS ≤ 9223372036854775807) :
    ((((addM S oS : Nat) : Int) == 0) || oneB oP oS nP S) = endB oS S oP nP := by
  have hr : (oS % 32).toNat < 32 := by omega
  obtain ⟨s1, s2, s3⟩ := small S hS _ hr
  have m5 : cntB (moreF oS S) 64 = cntB (moreF (((oS % 32).toNat : Nat) : Int) S) 5 := by
    rw [cntB_tail _ 5 64 (by omega) (fun i h3 _ => by unfold moreF; rw [bit_none S i hS h3]; rfl)]
    exact cntB_congr _ _ 5 (fun i hi => by unfold moreF; rw [bit_low oS i hi])
  have l5 : cntB (lessF oS S) 64 = 0 ↔ (0 ≤ oS ∧ oS < 32) ∧ cntB (lessF (((oS % 32).toNat : Nat) : Int) S) 5 = 0 := by
    rw [cntB_zero, cntB_zero]
    constructor
    · intro h
      refine ⟨?_, fun i hi => ?_⟩
      · by_cases c : 0 ≤ oS ∧ oS < 32
        · exact c
        · obtain ⟨i, i1, i2, i3⟩ := bit_some oS h1 h2 c
          have := h i i2
          unfold lessF at this
          rw [i3, bit_none S i hS i1] at this
          cases this
      · have := h i (by omega)
        unfold lessF at this ⊢
        rw [← bit_low oS i hi]
        exact this
    · rintro ⟨h3, h4⟩ i hi
      by_cases c : i < 5
      · have := h4 i c
        unfold lessF at this ⊢
        rw [bit_low oS i c]
        exact this
      · unfold lessF
        rw [show oS = ((oS.toNat : Nat) : Int) by omega, bit_none oS.toNat i (by omega) (by omega)]
        rfl
  have ho := or_eq S (addM S oS) oS hS (addM_lt S oS) h1 h2
  unfold oneB endB
  rw [m5, Bool.eq_iff_iff]
  simp only [Bool.or_eq_true, beq_iff_eq, decide_eq_true_eq]
  rw [ho, l5]
  unfold addM
  rw [← s1, ← s2, ← s3]
  constructor
  · rintro (h | ⟨h3, h4, h5, h6⟩)
    · exact .inl (by omega)
    · exact .inr ⟨h3, ⟨h5, h6⟩, h4.symm⟩
  · rintro (h | ⟨h3, ⟨h5, h6⟩, h4⟩)
    · exact .inl (by omega)
    · exact .inr ⟨h3, h4.symm, h5, h6⟩
/-- The code's Follows is the document's. -/
theorem fol_eq (oE oP oS nE nP nS : Int) (h1 : -9223372036854775808 ≤ oS) (h2 : oS ≤ 9223372036854775807) : folC oE oP oS nE nP nS = folR oE oP oS nE nP nS := by
  unfold folC folR epochB primB
  by_cases h : 1 ≤ nS ∧ nS ≤ 31
  · obtain ⟨S, rfl⟩ := Int.eq_ofNat_of_zero_le (show 0 ≤ nS by omega)
    rw [Int.toNat_natCast, sets_eq oP oS nP S (by omega) h1 h2]
    generalize endB oS S oP nP = x
    generalize bitI S (nP - 1).toNat = y
    rw [Bool.eq_iff_iff]
    simp only [Bool.and_eq_true, decide_eq_true_eq]
    constructor
    · rintro ⟨a, ⟨b, c⟩, d⟩; exact ⟨by omega, c, d⟩
    · rintro ⟨a, b, c⟩; exact ⟨by omega, ⟨by omega, b⟩, c⟩
  · rw [decide_eq_false (p := 1 ≤ nP ∧ nP ≤ 5 ∧ 1 ≤ nS ∧ nS ≤ 31) (by omega), decide_eq_false (p := 0 ≤ oE ∧ 1 ≤ nE ∧ nE ≤ 1000000000000 ∧ oE = nE - 1 ∧ 1 ≤ nS ∧ nS ≤ 31 ∧ 1 ≤ nP ∧ nP ≤ 5) (by omega)]
    simp
end Go.Proofs.YtdcainmlcpafbaaGreatDoor
