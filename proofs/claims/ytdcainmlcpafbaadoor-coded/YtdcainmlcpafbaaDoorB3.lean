import Derived.Test.YtdcainmlcpafbaaDoorB2
namespace Go.Proofs.YtdcainmlcpafbaaDoor
open Go.RowKit

def lenOf (n : Nat) : List Nat → Nat
  | [] => 0
  | F :: l => (if F = 0 then 0 else if F = 9 then 1 + 8 * n else 8) + lenOf n l
theorem flat_len (nums zs : List Int) (l : List Nat) : (l.flatMap (fieldBytes nums zs)).length = lenOf zs.length l := by
  induction l with
  | nil => rfl
  | cons F l ih =>
    rw [List.flatMap_cons, List.length_append, ih, lenOf]
    congr 1
    unfold fieldBytes
    split
    · rfl
    split
    · rw [List.length_append, flatMap_len, be_length]
    · rw [be_length]
theorem encOf_length (k f : Nat) (nums zs : List Int) : (encOf k f nums zs).length = 6 + lenOf zs.length (rowOf k) := by
  unfold encOf bodyOf
  rw [List.length_append, List.length_append, flat_len, be_length]
  simp only [List.length_cons, List.length_nil]
  omega
theorem encOf_0 (k f : Nat) (nums zs : List Int) : (encOf k f nums zs)[0]? = some (UInt8.ofNat k) := by
  unfold encOf bodyOf
  rfl
theorem encOf_18 (f n : Nat) (e b wa p s q bl v : Int) (zs : List Int) (hn : n < 256) : (encOf 9 f [0, e, b, wa, p, s, q, bl, v, (n : Int)] zs)[18]? = some (UInt8.ofNat n) := by
  have h : ∃ tail, encOf 9 f [0, e, b, wa, p, s, q, bl, v, (n : Int)] zs = ([UInt8.ofNat 9, UInt8.ofNat f] ++ be e 8 ++ be q 8) ++ (UInt8.ofNat n :: tail) := by
    refine ⟨zs.flatMap (fun v => be v 8) ++ be (sumNum (bodyOf 9 f [0, e, b, wa, p, s, q, bl, v, (n : Int)] zs)) 4, ?_⟩
    unfold encOf
    generalize sumNum (bodyOf 9 f [0, e, b, wa, p, s, q, bl, v, (n : Int)] zs) = S
    unfold bodyOf
    rw [show rowOf 9 = [1, 6, 9, 0, 0] from rfl]
    simp only [List.flatMap_cons, List.flatMap_nil, fb0, fb9, fbn _ _ 1 (by omega) (by omega), fbn _ _ 6 (by omega) (by omega), List.append_nil]
    rw [show [0, e, b, wa, p, s, q, bl, v, (n : Int)].getD 1 0 = e from rfl, show [0, e, b, wa, p, s, q, bl, v, (n : Int)].getD 6 0 = q from rfl, show [0, e, b, wa, p, s, q, bl, v, (n : Int)].getD 9 0 = (n : Int) from rfl, be1 n hn]
    simp only [List.append_assoc, List.cons_append, List.nil_append]
  obtain ⟨tail, h⟩ := h
  rw [h, List.getElem?_append_right (by simp [be_length])]
  simp [be_length]

theorem ofNat_inj {a b : Nat} (ha : a < 256) (hb : b < 256) (h : UInt8.ofNat a = UInt8.ofNat b) : a = b := by
  have := congrArg UInt8.toNat h
  rw [UInt8.toNat_ofNat', UInt8.toNat_ofNat'] at this
  omega

/-- Bytes that are a message's. -/
def IsEnc (bs : List UInt8) : Prop := ∃ (k f : Nat) (e b wa p s q bl v : Int) (zs : List Int), 1 ≤ k ∧ k ≤ 10 ∧ f < 5 ∧ zs.length ≤ 4 ∧ bs = encOf k f [0, e, b, wa, p, s, q, bl, v, (zs.length : Int)] zs

theorem dOk_enc {bs : List UInt8} (h : dOk bs = true) : IsEnc bs := by
  unfold dOk at h
  rw [Bool.and_eq_true] at h
  obtain ⟨hi, he⟩ := h
  have he : gEnc bs = bs := by simpa using he
  have hl : (gEnd bs).nums.length = 10 := gAt_len _ _ _
  unfold gIs at hi
  unfold gEnc at he
  have hg : ∃ e b wa p s q bl v : Int, gNums bs = [0, e, b, wa, p, s, q, bl, v, ((gEnd bs).vals.length : Int)] := by
    unfold gNums
    match (gEnd bs).nums, hl with
    | [n0, n1, n2, n3, n4, n5, n6, n7, n8, n9], _ => exact ⟨n1, n2, n3, n4, n5, n6, n7, n8, rfl⟩
  obtain ⟨e, b, wa, p, s, q, bl, v, hg⟩ := hg
  rw [hg] at hi he
  obtain ⟨h1, h2, h3, h4, h5⟩ := isMsg_len hi
  exact ⟨(gKind bs).toNat, (gFrom bs).toNat, e, b, wa, p, s, q, bl, v, (gEnd bs).vals, by omega, by omega, by omega, h5, he.symm⟩

theorem lenOf_row (n : Nat) : ∀ k, 1 ≤ k → k ≤ 10 → 8 ≤ lenOf n (rowOf k) := by
  intro k h1 h2
  have : ∀ k, k < 11 → 1 ≤ k → ∃ l, rowOf k = 1 :: l := by
    intro k hk h1
    match k, hk, h1 with
    | 1, _, _ | 2, _, _ | 3, _, _ | 4, _, _ | 5, _, _ | 6, _, _ | 7, _, _ | 8, _, _ | 9, _, _ | 10, _, _ => exact ⟨_, rfl⟩
  obtain ⟨l, hl⟩ := this k (by omega) h1
  rw [hl, lenOf]
  simp
theorem lenOf_no9 (n n' : Nat) : ∀ l : List Nat, (∀ F ∈ l, F ≠ 9) → lenOf n l = lenOf n' l := by
  intro l
  induction l with
  | nil => intro _; rfl
  | cons F l ih =>
    intro h
    rw [lenOf, lenOf, ih (fun G hG => h G (by simp [hG])), if_neg (h F (by simp)), if_neg (h F (by simp))]
theorem row_no9 (k : Nat) (hk : k < 11) (h9 : k ≠ 9) : ∀ F ∈ rowOf k, F ≠ 9 := by
  have : ∀ k < 11, k ≠ 9 → ∀ F ∈ rowOf k, F ≠ 9 := by decide
  exact this k hk h9

theorem IsEnc.len {bs : List UInt8} (h : IsEnc bs) : 14 ≤ bs.length := by
  obtain ⟨k, f, e, b, wa, p, s, q, bl, v, zs, h1, h2, h3, h4, rfl⟩ := h
  rw [encOf_length]
  have := lenOf_row zs.length k h1 h2
  omega
theorem IsEnc.len9 {bs : List UInt8} (h : IsEnc bs) (h0 : bs[0]? = some (UInt8.ofNat 9)) : 23 ≤ bs.length := by
  obtain ⟨k, f, e, b, wa, p, s, q, bl, v, zs, h1, h2, h3, h4, rfl⟩ := h
  rw [encOf_0] at h0
  have hk : k = 9 := ofNat_inj (by omega) (by omega) (Option.some.inj h0)
  subst hk
  rw [encOf_length]
  show 23 ≤ 6 + lenOf zs.length [1, 6, 9, 0, 0]
  simp [lenOf]
  omega
theorem IsEnc.sameLen {bs bs' : List UInt8} (h : IsEnc bs) (h' : IsEnc bs') (h0 : bs[0]? = bs'[0]?) (h18 : bs[0]? = some (UInt8.ofNat 9) → bs[18]? = bs'[18]?) : bs.length = bs'.length := by
  obtain ⟨k, f, e, b, wa, p, s, q, bl, v, zs, h1, h2, h3, h4, rfl⟩ := h
  obtain ⟨k', f', e', b', wa', p', s', q', bl', v', zs', h1', h2', h3', h4', rfl⟩ := h'
  rw [encOf_0, encOf_0] at h0
  have hk : k = k' := ofNat_inj (by omega) (by omega) (Option.some.inj h0)
  subst hk
  rw [encOf_length, encOf_length]
  by_cases h9 : k = 9
  · subst h9
    have h := h18 (encOf_0 _ _ _ _)
    rw [encOf_18 _ _ _ _ _ _ _ _ _ _ _ (by omega), encOf_18 _ _ _ _ _ _ _ _ _ _ _ (by omega)] at h
    have := ofNat_inj (by omega) (by omega) (Option.some.inj h)
    rw [this]
  · rw [lenOf_no9 zs.length zs'.length (rowOf k) (row_no9 k (by omega) h9)]

/-- The sum's lower half tells one byte that is another. -/
def total (bs : List UInt8) : Nat := (bs.map (·.toNat)).sum
theorem sumOf_total (bs : List UInt8) : (sumOf bs).1 = (1 + (total bs : Int)) % 65521 := by
  have key : ∀ (n : Nat) (bs : List UInt8), bs.length = n → (sumOf bs).1 = (1 + (total bs : Int)) % 65521 := by
    intro n
    induction n with
    | zero => intro bs h; rw [List.eq_nil_of_length_eq_zero h]; rfl
    | succ n ih =>
      intro bs h
      rcases List.eq_nil_or_concat bs with rfl | ⟨l, x, rfl⟩
      · simp at h
      · rw [List.concat_eq_append] at h ⊢
        have := ih l (by simpa using h)
        rw [sumOf_snoc]
        unfold sumStep
        simp only [this]
        have ht : total (l ++ [x]) = total l + x.toNat := by simp [total]
        rw [ht]
        omega
  exact key _ bs rfl
theorem total_set (bs : List UInt8) : ∀ (i : Nat) (v : UInt8) (h : i < bs.length), total (bs.set i v) + bs[i].toNat = total bs + v.toNat := by
  induction bs with
  | nil => intro i v h; simp at h
  | cons x bs ih =>
    intro i v h
    cases i with
    | zero => simp [total]; omega
    | succ i =>
      have := ih i v (by simpa using h)
      simp only [List.set_cons_succ, List.getElem_cons_succ, total, List.map_cons, List.sum_cons] at this ⊢
      omega
theorem be4_inj {n m : Int} (hn : 0 ≤ n) (hn2 : n < 4294967296) (hm : 0 ≤ m) (hm2 : m < 4294967296) (h : be n 4 = be m 4) : n = m := by
  simp only [be, List.cons.injEq, and_true] at h
  obtain ⟨h3, h2, h1, h0⟩ := h
  have a0 := byteN_int n 0
  have a1 := byteN_int n 1
  have a2 := byteN_int n 2
  have a3 := byteN_int n 3
  have c0 := byteN_int m 0
  have c1 := byteN_int m 1
  have c2 := byteN_int m 2
  have c3 := byteN_int m 3
  rw [h0] at a0
  rw [h1] at a1
  rw [h2] at a2
  rw [h3] at a3
  have p1 : (2 : Int) ^ (8 * 1) = 256 := by decide
  have p2 : (2 : Int) ^ (8 * 2) = 65536 := by decide
  have p3 : (2 : Int) ^ (8 * 3) = 16777216 := by decide
  have p0 : (2 : Int) ^ (8 * 0) = 1 := by decide
  rw [p0] at a0 c0
  rw [p1] at a1 c1
  rw [p2] at a2 c2
  rw [p3] at a3 c3
  omega
theorem sumNum_bd (bs : List UInt8) : 0 ≤ sumNum bs ∧ sumNum bs < 4294967296 := by
  have := sumOf_bd bs
  unfold sumNum
  omega
theorem IsEnc.split {bs : List UInt8} (h : IsEnc bs) : ∃ body, bs = body ++ be (sumNum body) 4 := by
  obtain ⟨k, f, e, b, wa, p, s, q, bl, v, zs, _, _, _, _, rfl⟩ := h
  exact ⟨bodyOf k f _ zs, rfl⟩

theorem not_set {bs : List UInt8} (h : IsEnc bs) (i : Nat) (hi : i < bs.length) (v : UInt8) (hv : v ≠ bs[i]) : ¬ IsEnc (bs.set i v) := by
  intro h'
  obtain ⟨body, hb⟩ := h.split
  obtain ⟨body', hb'⟩ := h'.split
  have hlen : body.length = body'.length := by
    have h1 := congrArg List.length hb
    have h2 := congrArg List.length hb'
    rw [List.length_append, be_length] at h1 h2
    rw [List.length_set] at h2
    omega
  have hbl : bs.length = body.length + 4 := by rw [hb, List.length_append, be_length]
  by_cases hib : i < body.length
  · have e1 : bs.set i v = body.set i v ++ be (sumNum body) 4 := by rw [hb, List.set_append_left _ _ hib]
    rw [e1] at hb'
    obtain ⟨e2, e3⟩ := List.append_inj hb' (by rw [List.length_set]; exact hlen)
    have e4 := be4_inj (sumNum_bd _).1 (sumNum_bd _).2 (sumNum_bd _).1 (sumNum_bd _).2 e3
    have s1 := sumOf_bd body
    have s2 := sumOf_bd body'
    have e5 : (sumOf body).1 = (sumOf body').1 := by unfold sumNum at e4; omega
    rw [sumOf_total, sumOf_total, ← e2] at e5
    have e6 := total_set body i v hib
    have e7 : bs[i] = body[i] := by simp only [hb, List.getElem_append_left hib]
    rw [e7] at hv
    have e8 : v.toNat ≠ body[i].toNat := fun e => hv (UInt8.toNat_inj.1 e)
    have l1 := v.toNat_lt
    have l2 := body[i].toNat_lt
    omega
  · have e1 : bs.set i v = body ++ (be (sumNum body) 4).set (i - body.length) v := by rw [hb, List.set_append_right _ _ (by omega)]
    have e1' := e1
    rw [hb'] at e1'
    obtain ⟨e2, e3⟩ := List.append_inj e1' hlen.symm
    rw [← e3, e2, ← hb] at e1
    have e9 := congrArg (·[i]?) e1
    simp [hi] at e9
    exact hv e9

theorem not_less {bs : List UInt8} (h : IsEnc bs) : ¬ IsEnc (bs.take (bs.length - 1)) := by
  intro h'
  have h14 := h.len
  have := IsEnc.sameLen h h' (by rw [List.getElem?_take, if_pos (by omega)]) (fun h0 => by
    have := h.len9 h0
    rw [List.getElem?_take, if_pos (by omega)])
  rw [List.length_take] at this
  omega
theorem not_more {bs : List UInt8} (h : IsEnc bs) (x : UInt8) : ¬ IsEnc (bs ++ [x]) := by
  intro h'
  have h14 := h.len
  have := IsEnc.sameLen h h' (by rw [List.getElem?_append_left (by omega)]) (fun h0 => by
    have := h.len9 h0
    rw [List.getElem?_append_left (by omega)])
  rw [List.length_append] at this
  simp at this
theorem dOk_false {bs : List UInt8} (h : ¬ IsEnc bs) : dOk bs = false := by
  cases hd : dOk bs with
  | false => rfl
  | true => exact absurd (dOk_enc hd) h
end Go.Proofs.YtdcainmlcpafbaaDoor
