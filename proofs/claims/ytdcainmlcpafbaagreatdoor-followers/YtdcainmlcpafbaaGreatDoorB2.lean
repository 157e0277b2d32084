import Derived.Test.YtdcainmlcpafbaaGreatDoorA8
namespace Go.Proofs.YtdcainmlcpafbaaGreatDoor
open Go.RowKit

theorem byteN_int (n : Int) (k : Nat) : ((byteN n k).toNat : Int) = n / 2 ^ (8 * k) % 256 := by
  unfold byteN
  rw [UInt8.toNat_ofNat']
  have h0 : 0 ≤ n / 2 ^ (8 * k) % 256 := Int.emod_nonneg _ (by omega)
  have h1 : n / 2 ^ (8 * k) % 256 < 256 := Int.emod_lt_of_pos _ (by omega)
  omega
theorem natOf_be8 (n : Int) : (natOf (be n 8) : Int) = n % 18446744073709551616 := by
  have b0 : ((byteN n 0).toNat : Int) = n / 1 % 256 := byteN_int n 0
  have b1 : ((byteN n 1).toNat : Int) = n / 256 % 256 := byteN_int n 1
  have b2 : ((byteN n 2).toNat : Int) = n / 65536 % 256 := byteN_int n 2
  have b3 : ((byteN n 3).toNat : Int) = n / 16777216 % 256 := byteN_int n 3
  have b4 : ((byteN n 4).toNat : Int) = n / 4294967296 % 256 := byteN_int n 4
  have b5 : ((byteN n 5).toNat : Int) = n / 1099511627776 % 256 := byteN_int n 5
  have b6 : ((byteN n 6).toNat : Int) = n / 281474976710656 % 256 := byteN_int n 6
  have b7 : ((byteN n 7).toNat : Int) = n / 72057594037927936 % 256 := byteN_int n 7
  simp only [be, natOf, List.foldl_cons, List.foldl_nil]
  omega
theorem numVal_be8 (n : Int) (h1 : -9223372036854775808 ≤ n) (h2 : n ≤ 9223372036854775807) : numVal (be n 8) = n := by
  unfold numVal
  rw [natOf_be8]
  unfold wrap64
  omega
theorem take8 (n : Int) (r : List UInt8) (h1 : -9223372036854775808 ≤ n) (h2 : n ≤ 9223372036854775807) : takeNum (be n 8 ++ r) 8 = n := by
  unfold takeNum
  rw [if_neg (by simp [be_length]), List.take_left' (be_length n 8), numVal_be8 n h1 h2]
theorem drop8 (n : Int) (r : List UInt8) : dropNum (be n 8 ++ r) 8 = r := by
  unfold dropNum
  rw [if_neg (by simp [be_length]), List.drop_left' (be_length n 8)]
theorem take1 (x : UInt8) (r : List UInt8) : takeNum (x :: r) 1 = (x.toNat : Int) := by
  have hx := x.toNat_lt
  unfold takeNum
  rw [if_neg (by simp)]
  simp only [numVal, List.take_succ_cons, List.take_zero, natOf, List.foldl_cons, List.foldl_nil]
  rw [IntWalk.wrap64_in _ (by omega)]
  omega
theorem drop1 (x : UInt8) (r : List UInt8) : dropNum (x :: r) 1 = r := by
  unfold dropNum
  rw [if_neg (by simp)]
  rfl
theorem be1 (n : Nat) (h : n < 256) : be (n : Int) 1 = [UInt8.ofNat n] := by
  have e : byteN (n : Int) 0 = UInt8.ofNat n := by
    apply UInt8.toNat_inj.1
    have b0 := byteN_int (n : Int) 0
    have : ((UInt8.ofNat n).toNat : Int) = n := by rw [UInt8.toNat_ofNat']; omega
    simp at b0
    omega
  simp [be, e]
theorem readVals_be (zs : List Int) (hz : ∀ z ∈ zs, -9223372036854775808 ≤ z ∧ z ≤ 9223372036854775807) : ∀ (r : List UInt8) (vs : List Int), readVals zs.length (zs.flatMap (fun v => be v 8) ++ r) vs = (r, vs ++ zs) := by
  induction zs with
  | nil => intro r vs; simp [readVals]
  | cons z zs ih =>
    intro r vs
    have hz1 := hz z (by simp)
    rw [List.length_cons, readVals, List.flatMap_cons, List.append_assoc, take8 z _ hz1.1 hz1.2, drop8, ih (fun y hy => hz y (by simp [hy]))]
    simp

theorem gstep_num (r : List UInt8) (nums vals : List Int) (F : Nat) (n : Int) (h0 : F ≠ 0) (h9 : F ≠ 9) (h1 : -9223372036854775808 ≤ n) (h2 : n ≤ 9223372036854775807) :
    gstep ⟨be n 8 ++ r, nums, vals⟩ F = ⟨r, nums.set F n, vals⟩ := by
  unfold gstep
  rw [if_neg h0, if_neg h9]
  simp only [take8 n r h1 h2, drop8]
theorem gstep_zero (st : Gs) : gstep st 0 = st := rfl
theorem gstep_vals (r : List UInt8) (nums : List Int) (zs : List Int) (hl : zs.length ≤ 4) (hz : ∀ z ∈ zs, -9223372036854775808 ≤ z ∧ z ≤ 9223372036854775807) :
    gstep ⟨be (zs.length : Int) 1 ++ zs.flatMap (fun v => be v 8) ++ r, nums, []⟩ 9 = ⟨r, nums, zs⟩ := by
  have e : ((UInt8.ofNat zs.length).toNat : Int) = zs.length := by rw [UInt8.toNat_ofNat']; omega
  unfold gstep
  rw [if_neg (by omega), if_pos rfl, be1 zs.length (by omega)]
  simp only [List.cons_append, take1, drop1, e, Int.toNat_natCast, readVals_be zs hz, List.nil_append]

theorem fb0 (nums zs : List Int) : fieldBytes nums zs 0 = [] := rfl
theorem fbn (nums zs : List Int) (F : Nat) (h0 : F ≠ 0) (h9 : F ≠ 9) : fieldBytes nums zs F = be (nums.getD F 0) 8 := by unfold fieldBytes; rw [if_neg h0, if_neg h9]
theorem fb9 (nums zs : List Int) : fieldBytes nums zs 9 = be (nums.getD 9 0) 1 ++ zs.flatMap (fun v => be v 8) := by unfold fieldBytes; rw [if_neg (by omega), if_pos rfl]
def setAll (nums : List Int) : List Nat → List Int → List Int
  | [], N => N
  | F :: l, N => setAll nums l (if F = 0 then N else N.set F (nums.getD F 0))
theorem fold_fields (nums zs : List Int) (hr : ∀ F, -9223372036854775808 ≤ nums.getD F 0 ∧ nums.getD F 0 ≤ 9223372036854775807) (tail : List UInt8) (V : List Int) :
    ∀ (l : List Nat) (N : List Int), (∀ F ∈ l, F ≠ 9) → l.foldl gstep ⟨l.flatMap (fieldBytes nums zs) ++ tail, N, V⟩ = ⟨tail, setAll nums l N, V⟩ := by
  intro l
  induction l with
  | nil => intro N _; rfl
  | cons F l ih =>
    intro N h9
    have hF9 := h9 F (by simp)
    rw [List.foldl_cons, List.flatMap_cons]
    by_cases h0 : F = 0
    · subst h0
      rw [fb0, List.nil_append, gstep_zero, ih N (fun G hG => h9 G (by simp [hG]))]
      rfl
    · rw [fbn nums zs F h0 hF9, List.append_assoc, gstep_num _ _ _ F _ h0 hF9 (hr F).1 (hr F).2, ih _ (fun G hG => h9 G (by simp [hG]))]
      rw [setAll, if_neg h0]
theorem range_of (e b wa p s q bl v n : Int) (h : ∀ x ∈ [e, b, wa, p, s, q, bl, v, n], -9223372036854775808 ≤ x ∧ x ≤ 9223372036854775807) (F : Nat) :
    -9223372036854775808 ≤ [0, e, b, wa, p, s, q, bl, v, n].getD F 0 ∧ [0, e, b, wa, p, s, q, bl, v, n].getD F 0 ≤ 9223372036854775807 := by
  simp only [List.forall_mem_cons] at h
  match F with
  | 0 => exact ⟨by simp, by simp⟩
  | 1 => exact h.1
  | 2 => exact h.2.1
  | 3 => exact h.2.2.1
  | 4 => exact h.2.2.2.1
  | 5 => exact h.2.2.2.2.1
  | 6 => exact h.2.2.2.2.2.1
  | 7 => exact h.2.2.2.2.2.2.1
  | 8 => exact h.2.2.2.2.2.2.2.1
  | 9 => exact h.2.2.2.2.2.2.2.2.1
  | F + 10 => simp

theorem gAt_five (k : Nat) (hk : k < 11) (rest : List UInt8) : gAt k 5 rest = (rowOf k).foldl gstep ⟨rest, List.replicate 10 0, []⟩ := by
  unfold gAt
  rw [List.take_of_length_le (by rw [rowOf_len k hk]; omega)]

/-- What is read out of a right message's bytes is that message. -/
theorem round (k f : Nat) (e b wa p s q bl v : Int) (zs : List Int) (hk1 : 1 ≤ k) (hk : k ≤ 10) (hf : f < 5) (hm : isMsgN k [0, e, b, wa, p, s, q, bl, v, (zs.length : Int)] = true)
    (hz : ∀ z ∈ zs, -9223372036854775808 ≤ z ∧ z ≤ 9223372036854775807) :
    gKind (encOf k f [0, e, b, wa, p, s, q, bl, v, (zs.length : Int)] zs) = k ∧ gFrom (encOf k f [0, e, b, wa, p, s, q, bl, v, (zs.length : Int)] zs) = f ∧
    gNums (encOf k f [0, e, b, wa, p, s, q, bl, v, (zs.length : Int)] zs) = [0, e, b, wa, p, s, q, bl, v, (zs.length : Int)] ∧ (gEnd (encOf k f [0, e, b, wa, p, s, q, bl, v, (zs.length : Int)] zs)).vals = zs := by
  have ek : ((UInt8.ofNat k).toNat : Int) = k := by rw [UInt8.toNat_ofNat']; omega
  have ef : ((UInt8.ofNat f).toNat : Int) = f := by rw [UInt8.toNat_ofNat']; omega
  generalize hN : [0, e, b, wa, p, s, q, bl, v, (zs.length : Int)] = nums at *
  obtain ⟨tail, ht⟩ : ∃ tail, encOf k f nums zs = UInt8.ofNat k :: UInt8.ofNat f :: ((rowOf k).flatMap (fieldBytes nums zs) ++ tail) := ⟨be (sumNum (bodyOf k f nums zs)) 4, by simp [encOf, bodyOf]⟩
  have h1 : gKind (encOf k f nums zs) = k := by rw [ht]; unfold gKind; rw [take1, ek]
  have h2 : gFrom (encOf k f nums zs) = f := by rw [ht]; unfold gFrom; rw [drop1, take1, ef]
  have h3 : gEnd (encOf k f nums zs) = gAt k 5 ((rowOf k).flatMap (fieldBytes nums zs) ++ tail) := by
    unfold gEnd; rw [h1, ht, drop1, drop1]; rfl
  refine ⟨h1, h2, ?_⟩
  unfold gNums
  rw [h3, gAt_five k (by omega)]
  clear h1 h2 h3 ht
  subst hN
  match k, hk1, hk with
  | 1, _, _ =>
    rw [isMsg_1] at hm
    obtain ⟨m1, m2, rfl, rfl, rfl, rfl, rfl, rfl, m9⟩ := hm
    obtain rfl : zs = [] := List.eq_nil_of_length_eq_zero (by omega)
    rw [fold_fields _ _ (range_of _ _ _ _ _ _ _ _ _ (by simp only [List.forall_mem_cons]; exact ⟨by omega, by omega, by omega, by omega, by omega, by omega, by omega, by omega, by simp, by simp⟩)) tail [] (rowOf 1) _ (by decide)]
    exact ⟨rfl, rfl⟩
  | 2, _, _ =>
    rw [isMsg_2] at hm
    obtain ⟨m1, m2, m3, m4, m5, rfl, rfl, rfl, m9⟩ := hm
    obtain rfl : zs = [] := List.eq_nil_of_length_eq_zero (by omega)
    rw [fold_fields _ _ (range_of _ _ _ _ _ _ _ _ _ (by simp only [List.forall_mem_cons]; exact ⟨by omega, by omega, by omega, by omega, by omega, by omega, by omega, by omega, by simp, by simp⟩)) tail [] (rowOf 2) _ (by decide)]
    exact ⟨rfl, rfl⟩
  | 3, _, _ =>
    rw [isMsg_3] at hm
    obtain ⟨m1, m2, m4, m5, rfl, rfl, rfl, rfl, m9⟩ := hm
    obtain rfl : zs = [] := List.eq_nil_of_length_eq_zero (by omega)
    rw [fold_fields _ _ (range_of _ _ _ _ _ _ _ _ _ (by simp only [List.forall_mem_cons]; exact ⟨by omega, by omega, by omega, by omega, by omega, by omega, by omega, by omega, by simp, by simp⟩)) tail [] (rowOf 3) _ (by decide)]
    exact ⟨rfl, rfl⟩
  | 4, _, _ =>
    rw [isMsg_4] at hm
    obtain ⟨m1, m2, rfl, rfl, rfl, rfl, rfl, rfl, m9⟩ := hm
    obtain rfl : zs = [] := List.eq_nil_of_length_eq_zero (by omega)
    rw [fold_fields _ _ (range_of _ _ _ _ _ _ _ _ _ (by simp only [List.forall_mem_cons]; exact ⟨by omega, by omega, by omega, by omega, by omega, by omega, by omega, by omega, by simp, by simp⟩)) tail [] (rowOf 4) _ (by decide)]
    exact ⟨rfl, rfl⟩
  | 5, _, _ =>
    rw [isMsg_5] at hm
    obtain ⟨m1, m2, m3, rfl, rfl, rfl, rfl, rfl, m9⟩ := hm
    obtain rfl : zs = [] := List.eq_nil_of_length_eq_zero (by omega)
    rw [fold_fields _ _ (range_of _ _ _ _ _ _ _ _ _ (by simp only [List.forall_mem_cons]; exact ⟨by omega, by omega, by omega, by omega, by omega, by omega, by omega, by omega, by simp, by simp⟩)) tail [] (rowOf 5) _ (by decide)]
    exact ⟨rfl, rfl⟩
  | 6, _, _ =>
    rw [isMsg_6] at hm
    obtain ⟨m1, m4, m5, rfl, rfl, rfl, rfl, rfl, m9⟩ := hm
    obtain rfl : zs = [] := List.eq_nil_of_length_eq_zero (by omega)
    rw [fold_fields _ _ (range_of _ _ _ _ _ _ _ _ _ (by simp only [List.forall_mem_cons]; exact ⟨by omega, by omega, by omega, by omega, by omega, by omega, by omega, by omega, by simp, by simp⟩)) tail [] (rowOf 6) _ (by decide)]
    exact ⟨rfl, rfl⟩
  | 7, _, _ =>
    rw [isMsg_7] at hm
    obtain ⟨m1, m6, m7, m8, rfl, rfl, rfl, rfl, m9⟩ := hm
    obtain rfl : zs = [] := List.eq_nil_of_length_eq_zero (by omega)
    rw [fold_fields _ _ (range_of _ _ _ _ _ _ _ _ _ (by simp only [List.forall_mem_cons]; exact ⟨by omega, by omega, by omega, by omega, by omega, by omega, by omega, by omega, by simp, by simp⟩)) tail [] (rowOf 7) _ (by decide)]
    exact ⟨rfl, rfl⟩
  | 8, _, _ =>
    rw [isMsg_8] at hm
    obtain ⟨m1, m6, rfl, rfl, rfl, rfl, rfl, rfl, m9⟩ := hm
    obtain rfl : zs = [] := List.eq_nil_of_length_eq_zero (by omega)
    rw [fold_fields _ _ (range_of _ _ _ _ _ _ _ _ _ (by simp only [List.forall_mem_cons]; exact ⟨by omega, by omega, by omega, by omega, by omega, by omega, by omega, by omega, by simp, by simp⟩)) tail [] (rowOf 8) _ (by decide)]
    exact ⟨rfl, rfl⟩
  | 9, _, _ =>
    rw [isMsg_9] at hm
    obtain ⟨m1, m6, m9, rfl, rfl, rfl, rfl, rfl, rfl⟩ := hm
    have e1 : (rowOf 9).flatMap (fieldBytes [0, e, 0, 0, 0, 0, q, 0, 0, (zs.length : Int)] zs) ++ tail = [1, 6].flatMap (fieldBytes [0, e, 0, 0, 0, 0, q, 0, 0, (zs.length : Int)] zs) ++ (be (zs.length : Int) 1 ++ zs.flatMap (fun v => be v 8) ++ tail) := by
      rw [show rowOf 9 = [1, 6] ++ [9, 0, 0] from rfl, List.flatMap_append, List.append_assoc]
      congr 1
      simp only [List.flatMap_cons, List.flatMap_nil, fb0, fb9, List.append_nil]
      rfl
    have e2 : ∀ st : Gs, (rowOf 9).foldl gstep st = gstep (([1, 6] : List Nat).foldl gstep st) 9 := fun st => rfl
    rw [e1, e2, fold_fields _ _ (range_of _ _ _ _ _ _ _ _ _ (by simp only [List.forall_mem_cons]; exact ⟨by omega, by omega, by omega, by omega, by omega, by omega, by omega, by omega, by omega, by simp⟩)) _ [] [1, 6] _ (by decide), gstep_vals _ _ zs (by omega) hz]
    exact ⟨rfl, rfl⟩
  | 10, _, _ =>
    rw [isMsg_10] at hm
    obtain ⟨m1, m6, rfl, rfl, rfl, rfl, rfl, rfl, m9⟩ := hm
    obtain rfl : zs = [] := List.eq_nil_of_length_eq_zero (by omega)
    rw [fold_fields _ _ (range_of _ _ _ _ _ _ _ _ _ (by simp only [List.forall_mem_cons]; exact ⟨by omega, by omega, by omega, by omega, by omega, by omega, by omega, by omega, by simp, by simp⟩)) tail [] (rowOf 10) _ (by decide)]
    exact ⟨rfl, rfl⟩
end Go.Proofs.YtdcainmlcpafbaaGreatDoor
