import Derived.Test.YtdcainmlcpafbaaGreatDoorB2
import Derived.Test.YtdcainmlcpafbaaGreatDoorC1
set_option linter.unusedSimpArgs false
set_option linter.unusedVariables false
namespace Go.Proofs.YtdcainmlcpafbaaGreatDoor
open Go.RowKit

def rL (bs : List UInt8) (o : Nat) (t : Nat) : List UInt8 := (List.range t).map fun i => bs.getD (o + i) 0
/-- The number that stands in t bytes from place o on, as far as there are any. -/
def rn (bs : List UInt8) (o : Nat) (t : Nat) : Int := numVal (rL bs o t)
theorem rn_zero (bs : List UInt8) (o : Nat) : rn bs o 0 = 0 := by
  show numVal [] = 0
  simp [numVal, natOf, wrap64]
theorem wrap_step (a b : Int) : wrap64 (wrap64 (wrap64 a * 256) + b) = wrap64 (a * 256 + b) := by unfold wrap64; omega
theorem rn_succ (bs : List UInt8) (o t : Nat) : rn bs o (t + 1) = wrap64 (wrap64 (rn bs o t * 256) + ((bs.getD (o + t) 0).toNat : Int)) := by
  have : rL bs o (t + 1) = rL bs o t ++ [bs.getD (o + t) 0] := by simp [rL, List.range_succ]
  unfold rn numVal
  rw [this, natOf_snoc, wrap_step]
  congr 1
theorem rn_bd (bs : List UInt8) (o t : Nat) : -9223372036854775808 ≤ rn bs o t ∧ rn bs o t ≤ 9223372036854775807 := by unfold rn numVal wrap64; omega
theorem rn_be {bs : List UInt8} {o : Nat} {x : Int} {r : List UInt8} (h : bs.drop o = be x 8 ++ r) (h1 : -9223372036854775808 ≤ x) (h2 : x ≤ 9223372036854775807) : rn bs o 8 = x := by
  have hd : ∀ i, bs.getD (o + i) 0 = (bs.drop o).getD i 0 := fun i => by simp [List.getD_eq_getElem?_getD, List.getElem?_drop]
  have : rL bs o 8 = be x 8 := by
    unfold rL
    simp only [hd, h]
    simp [be, List.range_succ]
  unfold rn
  rw [this, numVal_be8 x h1 h2]
theorem drop_be {bs : List UInt8} {o : Nat} {x : Int} {r : List UInt8} (h : bs.drop o = be x 8 ++ r) : bs.drop (o + 8) = r := by
  rw [← List.drop_drop, h, List.drop_left' (be_length x 8)]
def rk (bs : List UInt8) : Nat := (bs.getD 0 0).toNat
def rf (bs : List UInt8) : Nat := (bs.getD 1 0).toNat
def rCnt (bs : List UInt8) : Nat := if 18 < bs.length then min (bs.getD 18 0).toNat 4 else 0
def rVs (bs : List UInt8) (t : Nat) : List Int := (List.range t).map fun i => rn bs (19 + 8 * i) 8
def rVals (bs : List UInt8) : List Int := if rk bs = 9 then rVs bs (rCnt bs) else []
def rNums (bs : List UInt8) : List Int :=
  if rk bs = 1 ∨ rk bs = 4 then [0, rn bs 2 8, rn bs 10 8, 0, 0, 0, 0, 0, 0, ((rVals bs).length : Int)]
  else if rk bs = 2 then [0, rn bs 2 8, rn bs 10 8, rn bs 18 8, rn bs 26 8, rn bs 34 8, 0, 0, 0, ((rVals bs).length : Int)]
  else if rk bs = 3 then [0, rn bs 2 8, rn bs 10 8, 0, rn bs 18 8, rn bs 26 8, 0, 0, 0, ((rVals bs).length : Int)]
  else if rk bs = 5 then [0, rn bs 2 8, rn bs 10 8, rn bs 18 8, 0, 0, 0, 0, 0, ((rVals bs).length : Int)]
  else if rk bs = 6 then [0, rn bs 2 8, 0, 0, rn bs 10 8, rn bs 18 8, 0, 0, 0, ((rVals bs).length : Int)]
  else if rk bs = 7 then [0, rn bs 2 8, 0, 0, 0, 0, rn bs 10 8, rn bs 18 8, rn bs 26 8, ((rVals bs).length : Int)]
  else if rk bs = 8 ∨ rk bs = 9 ∨ rk bs = 10 then [0, rn bs 2 8, 0, 0, 0, 0, rn bs 10 8, 0, 0, ((rVals bs).length : Int)]
  else [0, rn bs 2 8, 0, 0, 0, 0, 0, 0, 0, ((rVals bs).length : Int)]
theorem rVs_succ (bs : List UInt8) (t : Nat) : rVs bs (t + 1) = rVs bs t ++ [rn bs (19 + 8 * t) 8] := by simp [rVs, List.range_succ]
theorem rVs_len (bs : List UInt8) (t : Nat) : (rVs bs t).length = t := by simp [rVs]
theorem rVals_bd (bs : List UInt8) : ∀ z ∈ rVals bs, -9223372036854775808 ≤ z ∧ z ≤ 9223372036854775807 := by
  intro z hz
  unfold rVals at hz
  split at hz
  · unfold rVs at hz
    obtain ⟨i, _, rfl⟩ := List.mem_map.1 hz
    exact rn_bd _ _ _
  · simp at hz
theorem rVals_len (bs : List UInt8) : (rVals bs).length ≤ 4 := by
  unfold rVals rCnt
  split
  · rw [rVs_len]; split <;> omega
  · simp
theorem rNums_shape (bs : List UInt8) : ∃ n1 n2 n3 n4 n5 n6 n7 n8, rNums bs = [0, n1, n2, n3, n4, n5, n6, n7, n8, ((rVals bs).length : Int)] ∧ ∀ x ∈ [n1, n2, n3, n4, n5, n6, n7, n8], -9223372036854775808 ≤ x ∧ x ≤ 9223372036854775807 := by
  have hb := fun o => rn_bd bs o 8
  have h0 : (-9223372036854775808 : Int) ≤ 0 ∧ (0 : Int) ≤ 9223372036854775807 := by omega
  unfold rNums
  repeat' split
  all_goals exact ⟨_, _, _, _, _, _, _, _, rfl, by simp only [List.forall_mem_cons]; exact ⟨by first | exact hb _ | exact h0, by first | exact hb _ | exact h0, by first | exact hb _ | exact h0, by first | exact hb _ | exact h0, by first | exact hb _ | exact h0, by first | exact hb _ | exact h0, by first | exact hb _ | exact h0, by first | exact hb _ | exact h0, by simp⟩⟩
/-- What the document reads out of a right message's bytes is that message. -/
theorem rround (k f : Nat) (e b wa p s q bl v : Int) (zs : List Int) (hk1 : 1 ≤ k) (hk : k ≤ 10) (hf : f < 5) (hm : isMsgN k [0, e, b, wa, p, s, q, bl, v, (zs.length : Int)] = true)
    (hz : ∀ z ∈ zs, -9223372036854775808 ≤ z ∧ z ≤ 9223372036854775807) (bs : List UInt8) (hbs : encOf k f [0, e, b, wa, p, s, q, bl, v, (zs.length : Int)] zs = bs) :
    rk bs = k ∧ rf bs = f ∧ rNums bs = [0, e, b, wa, p, s, q, bl, v, (zs.length : Int)] ∧ rVals bs = zs := by
  have ek : (UInt8.ofNat k).toNat = k := by rw [UInt8.toNat_ofNat']; omega
  have ef : (UInt8.ofNat f).toNat = f := by rw [UInt8.toNat_ofNat']; omega
  generalize hN : [0, e, b, wa, p, s, q, bl, v, (zs.length : Int)] = nums at *
  obtain ⟨tail, ht⟩ : ∃ tail, bs = UInt8.ofNat k :: UInt8.ofNat f :: ((rowOf k).flatMap (fieldBytes nums zs) ++ tail) := ⟨be (sumNum (bodyOf k f nums zs)) 4, by rw [← hbs]; simp [encOf, bodyOf]⟩
  have h1 : rk bs = k := by rw [ht]; exact ek
  have h2 : rf bs = f := by rw [ht]; exact ef
  have d2 : bs.drop 2 = (rowOf k).flatMap (fieldBytes nums zs) ++ tail := by rw [ht]; rfl
  refine ⟨h1, h2, ?_⟩
  clear hbs ht h2 ef hf
  subst hN
  have hV : k ≠ 9 → rVals bs = [] := fun h => by unfold rVals; rw [h1, if_neg h]
  match k, hk1, hk with
  | 1, _, _ =>
    rw [isMsg_1] at hm
    obtain ⟨m1, m2, rfl, rfl, rfl, rfl, rfl, rfl, m9⟩ := hm
    obtain rfl : zs = [] := List.eq_nil_of_length_eq_zero (by omega)
    have d2' : bs.drop 2 = (be e 8 ++ (be b 8 ++ tail)) := by
      rw [d2]
      simp [rowOf, fieldTab, fieldBytes, List.append_assoc]
    have e2 := rn_be d2' (by omega) (by omega)
    have d10 := drop_be d2'
    have e10 := rn_be d10 (by omega) (by omega)
    have hv := hV (by omega)
    refine ⟨?_, hv⟩
    unfold rNums
    rw [h1, hv, if_pos (by omega), e2, e10]
    try rfl
  | 2, _, _ =>
    rw [isMsg_2] at hm
    obtain ⟨m1, m2, m3, m4, m5, rfl, rfl, rfl, m9⟩ := hm
    obtain rfl : zs = [] := List.eq_nil_of_length_eq_zero (by omega)
    have d2' : bs.drop 2 = (be e 8 ++ (be b 8 ++ (be wa 8 ++ (be p 8 ++ (be s 8 ++ tail))))) := by
      rw [d2]
      simp [rowOf, fieldTab, fieldBytes, List.append_assoc]
    have e2 := rn_be d2' (by omega) (by omega)
    have d10 := drop_be d2'
    have e10 := rn_be d10 (by omega) (by omega)
    have d18 := drop_be d10
    have e18 := rn_be d18 (by omega) (by omega)
    have d26 := drop_be d18
    have e26 := rn_be d26 (by omega) (by omega)
    have d34 := drop_be d26
    have e34 := rn_be d34 (by omega) (by omega)
    have hv := hV (by omega)
    refine ⟨?_, hv⟩
    unfold rNums
    rw [h1, hv, if_neg (by omega), if_pos (by omega), e2, e10, e18, e26, e34]
    try rfl
  | 3, _, _ =>
    rw [isMsg_3] at hm
    obtain ⟨m1, m2, m4, m5, rfl, rfl, rfl, rfl, m9⟩ := hm
    obtain rfl : zs = [] := List.eq_nil_of_length_eq_zero (by omega)
    have d2' : bs.drop 2 = (be e 8 ++ (be b 8 ++ (be p 8 ++ (be s 8 ++ tail)))) := by
      rw [d2]
      simp [rowOf, fieldTab, fieldBytes, List.append_assoc]
    have e2 := rn_be d2' (by omega) (by omega)
    have d10 := drop_be d2'
    have e10 := rn_be d10 (by omega) (by omega)
    have d18 := drop_be d10
    have e18 := rn_be d18 (by omega) (by omega)
    have d26 := drop_be d18
    have e26 := rn_be d26 (by omega) (by omega)
    have hv := hV (by omega)
    refine ⟨?_, hv⟩
    unfold rNums
    rw [h1, hv, if_neg (by omega), if_neg (by omega), if_pos (by omega), e2, e10, e18, e26]
    try rfl
  | 4, _, _ =>
    rw [isMsg_4] at hm
    obtain ⟨m1, m2, rfl, rfl, rfl, rfl, rfl, rfl, m9⟩ := hm
    obtain rfl : zs = [] := List.eq_nil_of_length_eq_zero (by omega)
    have d2' : bs.drop 2 = (be e 8 ++ (be b 8 ++ tail)) := by
      rw [d2]
      simp [rowOf, fieldTab, fieldBytes, List.append_assoc]
    have e2 := rn_be d2' (by omega) (by omega)
    have d10 := drop_be d2'
    have e10 := rn_be d10 (by omega) (by omega)
    have hv := hV (by omega)
    refine ⟨?_, hv⟩
    unfold rNums
    rw [h1, hv, if_pos (by omega), e2, e10]
    try rfl
  | 5, _, _ =>
    rw [isMsg_5] at hm
    obtain ⟨m1, m2, m3, rfl, rfl, rfl, rfl, rfl, m9⟩ := hm
    obtain rfl : zs = [] := List.eq_nil_of_length_eq_zero (by omega)
    have d2' : bs.drop 2 = (be e 8 ++ (be b 8 ++ (be wa 8 ++ tail))) := by
      rw [d2]
      simp [rowOf, fieldTab, fieldBytes, List.append_assoc]
    have e2 := rn_be d2' (by omega) (by omega)
    have d10 := drop_be d2'
    have e10 := rn_be d10 (by omega) (by omega)
    have d18 := drop_be d10
    have e18 := rn_be d18 (by omega) (by omega)
    have hv := hV (by omega)
    refine ⟨?_, hv⟩
    unfold rNums
    rw [h1, hv, if_neg (by omega), if_neg (by omega), if_neg (by omega), if_pos (by omega), e2, e10, e18]
    try rfl
  | 6, _, _ =>
    rw [isMsg_6] at hm
    obtain ⟨m1, m4, m5, rfl, rfl, rfl, rfl, rfl, m9⟩ := hm
    obtain rfl : zs = [] := List.eq_nil_of_length_eq_zero (by omega)
    have d2' : bs.drop 2 = (be e 8 ++ (be p 8 ++ (be s 8 ++ tail))) := by
      rw [d2]
      simp [rowOf, fieldTab, fieldBytes, List.append_assoc]
    have e2 := rn_be d2' (by omega) (by omega)
    have d10 := drop_be d2'
    have e10 := rn_be d10 (by omega) (by omega)
    have d18 := drop_be d10
    have e18 := rn_be d18 (by omega) (by omega)
    have hv := hV (by omega)
    refine ⟨?_, hv⟩
    unfold rNums
    rw [h1, hv, if_neg (by omega), if_neg (by omega), if_neg (by omega), if_neg (by omega), if_pos (by omega), e2, e10, e18]
    try rfl
  | 7, _, _ =>
    rw [isMsg_7] at hm
    obtain ⟨m1, m6, m7, m8, rfl, rfl, rfl, rfl, m9⟩ := hm
    obtain rfl : zs = [] := List.eq_nil_of_length_eq_zero (by omega)
    have d2' : bs.drop 2 = (be e 8 ++ (be q 8 ++ (be bl 8 ++ (be v 8 ++ tail)))) := by
      rw [d2]
      simp [rowOf, fieldTab, fieldBytes, List.append_assoc]
    have e2 := rn_be d2' (by omega) (by omega)
    have d10 := drop_be d2'
    have e10 := rn_be d10 (by omega) (by omega)
    have d18 := drop_be d10
    have e18 := rn_be d18 (by omega) (by omega)
    have d26 := drop_be d18
    have e26 := rn_be d26 (by omega) (by omega)
    have hv := hV (by omega)
    refine ⟨?_, hv⟩
    unfold rNums
    rw [h1, hv, if_neg (by omega), if_neg (by omega), if_neg (by omega), if_neg (by omega), if_neg (by omega), if_pos (by omega), e2, e10, e18, e26]
    try rfl
  | 8, _, _ =>
    rw [isMsg_8] at hm
    obtain ⟨m1, m6, rfl, rfl, rfl, rfl, rfl, rfl, m9⟩ := hm
    obtain rfl : zs = [] := List.eq_nil_of_length_eq_zero (by omega)
    have d2' : bs.drop 2 = (be e 8 ++ (be q 8 ++ tail)) := by
      rw [d2]
      simp [rowOf, fieldTab, fieldBytes, List.append_assoc]
    have e2 := rn_be d2' (by omega) (by omega)
    have d10 := drop_be d2'
    have e10 := rn_be d10 (by omega) (by omega)
    have hv := hV (by omega)
    refine ⟨?_, hv⟩
    unfold rNums
    rw [h1, hv, if_neg (by omega), if_neg (by omega), if_neg (by omega), if_neg (by omega), if_neg (by omega), if_neg (by omega), if_pos (by omega), e2, e10]
    try rfl
  | 9, _, _ =>
    rw [isMsg_9] at hm
    obtain ⟨m1, m6, m9, rfl, rfl, rfl, rfl, rfl, rfl⟩ := hm
    have d2' : bs.drop 2 = be e 8 ++ (be q 8 ++ (be (zs.length : Int) 1 ++ (zs.flatMap (fun v => be v 8) ++ tail))) := by
      rw [d2]
      simp [rowOf, fieldTab, fieldBytes, List.append_assoc]
    have d10 := drop_be d2'
    have d18 := drop_be d10
    have e2 := rn_be d2' (by omega) (by omega)
    have e10 := rn_be d10 (by omega) (by omega)
    have ez : (UInt8.ofNat zs.length).toNat = zs.length := by rw [UInt8.toNat_ofNat']; omega
    rw [be1 zs.length (by omega)] at d18
    simp only [List.singleton_append, List.cons_append, List.nil_append] at d18
    have hl : 18 < bs.length := by
      have := congrArg List.length d18
      simp only [List.length_drop, List.length_cons] at this
      omega
    have g18 : bs.getD 18 0 = UInt8.ofNat zs.length := by
      have : bs.getD 18 0 = (bs.drop 18).getD 0 0 := by simp [List.getD_eq_getElem?_getD, List.getElem?_drop]
      rw [this, d18]; rfl
    have d19 : bs.drop 19 = zs.flatMap (fun v => be v 8) ++ tail := by
      rw [show 19 = 18 + 1 from rfl, ← List.drop_drop, d18]; rfl
    have hall : ∀ i (h : i < zs.length), rn bs (19 + 8 * i) 8 = zs[i] := by
      have key : ∀ i, i ≤ zs.length → bs.drop (19 + 8 * i) = (zs.drop i).flatMap (fun v => be v 8) ++ tail := by
        intro i
        induction i with
        | zero => intro _; exact d19
        | succ i ih =>
          intro hi
          have := ih (by omega)
          rw [List.drop_eq_getElem_cons (l := zs) (i := i) (by omega), List.flatMap_cons, List.append_assoc] at this
          rw [show 19 + 8 * (i + 1) = 19 + 8 * i + 8 by omega]
          exact drop_be this
      intro i h
      have := key i (by omega)
      rw [List.drop_eq_getElem_cons (l := zs) (i := i) h, List.flatMap_cons, List.append_assoc] at this
      exact rn_be this (hz _ (List.getElem_mem h)).1 (hz _ (List.getElem_mem h)).2
    have hv : rVals bs = zs := by
      unfold rVals rCnt
      rw [h1, if_pos rfl, if_pos hl, g18, ez, Nat.min_eq_left (by omega)]
      apply List.ext_getElem
      · exact rVs_len _ _
      · intro i h1 h2
        simp only [rVs, List.getElem_map, List.getElem_range]
        exact hall i h2
    refine ⟨?_, hv⟩
    unfold rNums
    rw [h1, hv, if_neg (by omega), if_neg (by omega), if_neg (by omega), if_neg (by omega), if_neg (by omega), if_neg (by omega), if_pos (by omega), e2, e10]
  | 10, _, _ =>
    rw [isMsg_10] at hm
    obtain ⟨m1, m6, rfl, rfl, rfl, rfl, rfl, rfl, m9⟩ := hm
    obtain rfl : zs = [] := List.eq_nil_of_length_eq_zero (by omega)
    have d2' : bs.drop 2 = (be e 8 ++ (be q 8 ++ tail)) := by
      rw [d2]
      simp [rowOf, fieldTab, fieldBytes, List.append_assoc]
    have e2 := rn_be d2' (by omega) (by omega)
    have d10 := drop_be d2'
    have e10 := rn_be d10 (by omega) (by omega)
    have hv := hV (by omega)
    refine ⟨?_, hv⟩
    unfold rNums
    rw [h1, hv, if_neg (by omega), if_neg (by omega), if_neg (by omega), if_neg (by omega), if_neg (by omega), if_neg (by omega), if_pos (by omega), e2, e10]
    try rfl

def rIs (bs : List UInt8) : Bool := isMsg (rk bs : Int) (rf bs : Int) (rNums bs)
def rEnc (bs : List UInt8) : List UInt8 := encOf (rk bs) (rf bs) (rNums bs) (rVals bs)
theorem isMsg_parts {k f e b wa p s q bl v : Int} {zs : List Int} (h : isMsg k f [0, e, b, wa, p, s, q, bl, v, (zs.length : Int)] = true) : 1 ≤ k.toNat ∧ k.toNat ≤ 10 ∧ f.toNat < 5 ∧ (k.toNat : Int) = k ∧ (f.toNat : Int) = f ∧ isMsgN k.toNat [0, e, b, wa, p, s, q, bl, v, (zs.length : Int)] = true := by
  have h' := isMsg_len h
  unfold isMsg at h
  rw [Bool.and_eq_true] at h
  exact ⟨by omega, by omega, by omega, by omega, by omega, h.2⟩
theorem gNums_shape (bs : List UInt8) : ∃ n1 n2 n3 n4 n5 n6 n7 n8, gNums bs = [0, n1, n2, n3, n4, n5, n6, n7, n8, ((gEnd bs).vals.length : Int)] := by
  have hl := gAt_len (gKind bs).toNat 5 (dropNum (dropNum bs 1) 1)
  unfold gNums
  have : (gEnd bs).nums.length = 10 := hl
  match h : (gEnd bs).nums, this with
  | [a0, a1, a2, a3, a4, a5, a6, a7, a8, a9], _ => exact ⟨a1, a2, a3, a4, a5, a6, a7, a8, by simp⟩
theorem readVals_bd : ∀ (n : Nat) (r : List UInt8) (vs : List Int), (∀ z ∈ vs, -9223372036854775808 ≤ z ∧ z ≤ 9223372036854775807) → ∀ z ∈ (readVals n r vs).2, -9223372036854775808 ≤ z ∧ z ≤ 9223372036854775807 := by
  intro n
  induction n with
  | zero => intro r vs h; exact h
  | succ n ih =>
    intro r vs h
    apply ih
    intro z hz
    rcases List.mem_append.1 hz with hz | hz
    · exact h z hz
    · obtain rfl : z = takeNum r 8 := by simpa using hz
      unfold takeNum
      split
      · omega
      · unfold numVal wrap64; omega
theorem gVals_bd (bs : List UInt8) : ∀ z ∈ (gEnd bs).vals, -9223372036854775808 ≤ z ∧ z ≤ 9223372036854775807 := by
  have key : ∀ (l : List Nat) (st : Gs), (∀ z ∈ st.vals, -9223372036854775808 ≤ z ∧ z ≤ 9223372036854775807) → ∀ z ∈ (l.foldl gstep st).vals, -9223372036854775808 ≤ z ∧ z ≤ 9223372036854775807 := by
    intro l
    induction l with
    | nil => intro st h; exact h
    | cons F l ih =>
      intro st h
      apply ih
      unfold gstep
      split
      · exact h
      · split
        · exact readVals_bd _ _ _ h
        · exact h
  exact key _ _ (by simp)
/-- The document's reading and the program's are one. -/
theorem rOk_eq (bs : List UInt8) : (dOk bs = true ∧ rIs bs = true ∧ rEnc bs = bs ∧ (rk bs : Int) = gKind bs ∧ (rf bs : Int) = gFrom bs ∧ rNums bs = gNums bs ∧ rVals bs = (gEnd bs).vals) ∨ (dOk bs = false ∧ (rIs bs = false ∨ rEnc bs ≠ bs)) := by
  cases hd : dOk bs
  · right
    refine ⟨rfl, ?_⟩
    cases hr : rIs bs
    · exact .inl rfl
    · right
      intro he
      obtain ⟨n1, n2, n3, n4, n5, n6, n7, n8, hn, _⟩ := rNums_shape bs
      unfold rIs at hr
      rw [hn] at hr
      obtain ⟨i1, i2, i3, i4, i5, i6⟩ := isMsg_parts hr
      simp only [Int.toNat_natCast] at i1 i2 i3 i6
      unfold rEnc at he
      rw [hn] at he
      obtain ⟨q1, q2, q3, q4⟩ := round (rk bs) (rf bs) n1 n2 n3 n4 n5 n6 n7 n8 (rVals bs) i1 i2 i3 i6 (rVals_bd bs)
      rw [he] at q1 q2 q3 q4
      have : dOk bs = true := by
        unfold dOk gIs gEnc
        rw [q1, q2, q3, q4, hr]
        simp only [Int.toNat_natCast, Bool.true_and, he, beq_self_eq_true]
      rw [hd] at this
      exact absurd this (by decide)
  · left
    obtain ⟨h1, h2⟩ := gIs_list hd
    obtain ⟨n1, n2, n3, n4, n5, n6, n7, n8, hn⟩ := gNums_shape bs
    unfold gIs at h1
    rw [hn] at h1
    obtain ⟨i1, i2, i3, i4, i5, i6⟩ := isMsg_parts h1
    unfold gEnc at h2
    rw [hn] at h2
    obtain ⟨q1, q2, q3, q4⟩ := rround (gKind bs).toNat (gFrom bs).toNat n1 n2 n3 n4 n5 n6 n7 n8 (gEnd bs).vals i1 i2 i3 i6 (gVals_bd bs) bs h2
    have e1 : (rk bs : Int) = gKind bs := by rw [q1, i4]
    have e2 : (rf bs : Int) = gFrom bs := by rw [q2, i5]
    refine ⟨rfl, ?_, ?_, e1, e2, by rw [q3, hn], q4⟩
    · unfold rIs; rw [e1, e2, q3, h1]
    · unfold rEnc; rw [q1, q2, q3, q4, h2]
end Go.Proofs.YtdcainmlcpafbaaGreatDoor
