import Derived.Test.YtdcainmlcpafbaaDoorC2
namespace Go.Proofs.YtdcainmlcpafbaaDoor
open Go.RowKit

theorem restAt_take {w : World} {lim : Nat} {g cap : Nat} {bs : List UInt8} {n : Nat} (hn : n ≤ bs.length) (h : restAt w lim (.slice (some ⟨g, 0, none⟩) bs.length cap) bs) : restAt w lim (.slice (some ⟨g, 0, none⟩) n cap) (bs.take n) := by
  obtain ⟨ao, c, h1, h2, h3, h4⟩ := h
  cases h1
  refine ⟨some ⟨g, 0, none⟩, cap, by rw [List.length_take, Nat.min_eq_left hn], by rw [List.length_take]; omega, h3, ?_⟩
  rcases h4 with rfl | ⟨g', off, e, hg, hc⟩
  · exact .inl (by simp)
  · cases e
    refine .inr ⟨g, 0, rfl, hg, fun j hj => ?_⟩
    rw [List.length_take] at hj
    rw [hc j (by omega), List.getElem_take]
theorem lenOf_le (n : Nat) (hn : n ≤ 4) : ∀ l : List Nat, lenOf n l ≤ 33 * l.length := by
  intro l
  induction l with
  | nil => simp [lenOf]
  | cons F l ih =>
    rw [lenOf, List.length_cons]
    split
    · omega
    split <;> omega
theorem IsEnc.short {bs : List UInt8} (h : IsEnc bs) : bs.length ≤ 171 := by
  obtain ⟨k, f, e, b, wa, p, s, q, bl, v, zs, h1, h2, h3, h4, rfl⟩ := h
  rw [encOf_length]
  have := lenOf_le zs.length h4 (rowOf k)
  rw [rowOf_len k (by omega)] at this
  omega
theorem round_ok (k f : Nat) (e b wa p s q bl v : Int) (zs : List Int) (hk1 : 1 ≤ k) (hk : k ≤ 10) (hf : f < 5) (hm : isMsgN k [0, e, b, wa, p, s, q, bl, v, (zs.length : Int)] = true)
    (hz : ∀ z ∈ zs, -9223372036854775808 ≤ z ∧ z ≤ 9223372036854775807) : dOk (encOf k f [0, e, b, wa, p, s, q, bl, v, (zs.length : Int)] zs) = true := by
  obtain ⟨h1, h2, h3, h4⟩ := round k f e b wa p s q bl v zs hk1 hk hf hm hz
  unfold dOk gIs gEnc
  rw [h1, h2, h3, h4]
  have : outB (k : Int) (f : Int) = false := by simp [outB]; omega
  simp [isMsg, this, hm]

theorem plus_size (bs : List UInt8) : (strOf bs ++ ⟨#[120]⟩ : ByteArray).size = (strOf bs).size + 1 := by
  rw [ByteArray.size_append]; rfl
theorem plus_data (bs : List UInt8) : (strOf bs ++ ⟨#[120]⟩ : ByteArray).data.toList = bs ++ [120] := by
  rw [ByteArray.data_append]; simp [strOf]
theorem made_plus (W : World) (n : Nat) (hW : W.heap.size = n) (bs : List UInt8) (hs : (strOf bs).size ≤ 171) (fr : Nat × Nat) :
    restAt (W.alloc (Obj.cells (bytesRow (strOf bs ++ ⟨#[120]⟩) (grownCap W ((strOf bs).size + 1) 0 5)) 5 fr)).drew (W.alloc (Obj.cells (bytesRow (strOf bs ++ ⟨#[120]⟩) (grownCap W ((strOf bs).size + 1) 0 5)) 5 fr)).drew.heap.size (.slice (some ⟨n, 0, none⟩) ((strOf bs).size + 1) (grownCap W ((strOf bs).size + 1) 0 5)) (bs ++ [120]) := by
  have h := made_rest W (strOf bs ++ ⟨#[120]⟩) (by rw [plus_size]; unfold maxLen; omega) fr
  rw [plus_size, plus_data, hW] at h
  exact h
theorem OwnB.at {w : World} {base g cap : Nat} {bs : List UInt8} (h : OwnB w base (.slice (some ⟨g, 0, none⟩) bs.length cap) bs) (i : Nat) (hi : i < bs.length) : w.cell? ⟨g, i, none⟩ = some (.int .u8 (bs[i].toNat : Int)) ∧ w.frozen? ⟨g, i, none⟩ = false := by
  obtain ⟨h1, h2⟩ := h
  rcases h2 with ⟨h, _⟩ | ⟨g', cap', cur, he, hb, hg, hn, hm, hs, hx⟩
  · cases h
  · cases he
    have hc : w.cell? ⟨g, i, none⟩ = cur[i]? := cell_of_row w g i cur 5 (0, 0) hg
    have h3 := congrArg (·[i]?) hx
    simp only [Nat.mul_one, List.getElem?_take, hi, if_true, Array.getElem?_toList] at h3
    refine ⟨?_, ?_⟩
    · rw [hc, h3]; simp [bvs, hi]
    · simp [World.frozen?, hg]
theorem OwnB.put {w : World} {base g cap : Nat} {bs : List UInt8} (h : OwnB w base (.slice (some ⟨g, 0, none⟩) bs.length cap) bs) (i : Nat) (x : UInt8) :
    OwnB (w.setCell ⟨g, i, none⟩ (.int .u8 (x.toNat : Int))) base (.slice (some ⟨g, 0, none⟩) bs.length cap) (bs.set i x) := by
  have := (World.ownsRow.stored h i (.int .u8 (x.toNat : Int))).1
  unfold OwnB
  rw [List.length_set]
  have e : bvs (bs.set i x) = (bvs bs).set i (.int .u8 (x.toNat : Int)) := by simp [bvs, List.map_set]
  rw [e]
  exact this

set_option maxHeartbeats 2000000 in
theorem coded_any (K F E B WA P S Q BL V AT TO : Int) (a : Option Addr) (zs : List Int) (c : Nat) (w : World) (ht : Tabs w) (hin : intsAt w a zs)
    (bK : -9223372036854775808 ≤ K ∧ K ≤ 9223372036854775807) (bF : -9223372036854775808 ≤ F ∧ F ≤ 9223372036854775807) (bE : -9223372036854775808 ≤ E ∧ E ≤ 9223372036854775807)
    (bB : -9223372036854775808 ≤ B ∧ B ≤ 9223372036854775807) (bWA : -9223372036854775808 ≤ WA ∧ WA ≤ 9223372036854775807) (bP : -9223372036854775808 ≤ P ∧ P ≤ 9223372036854775807)
    (bS : -9223372036854775808 ≤ S ∧ S ≤ 9223372036854775807) (bQ : -9223372036854775808 ≤ Q ∧ Q ≤ 9223372036854775807) (bBL : -9223372036854775808 ≤ BL ∧ BL ≤ 9223372036854775807) (bV : -9223372036854775808 ≤ V ∧ V ≤ 9223372036854775807)
    (bAT : -9223372036854775808 ≤ AT ∧ AT ≤ 9223372036854775807) (bTO : -9223372036854775808 ≤ TO ∧ TO ≤ 9223372036854775807)
    (hzs : ∀ z ∈ zs, -9223372036854775808 ≤ z ∧ z ≤ 9223372036854775807) :
    Calls Tryd.prog 3 #[.agg #[.int .i64 K, .int .i64 F, .int .i64 E, .int .i64 B, .int .i64 WA, .int .i64 P, .int .i64 S, .int .i64 Q, .int .i64 BL, .int .i64 V, .slice a zs.length c], .int .i64 AT, .int .i64 TO] w fun r w' =>
      r = .returned (.bool true) ∧ Below w.heap.size w w' := by
  have tw := ht.two
  have hb0 := (Below.refl w.heap.size w).alloc (Nat.le_refl _) (Obj.cells #[Value.int IntKind.i64 K, Value.int IntKind.i64 F, Value.int IntKind.i64 E, Value.int IntKind.i64 B, Value.int IntKind.i64 WA, Value.int IntKind.i64 P, Value.int IntKind.i64 S, Value.int IntKind.i64 Q, Value.int IntKind.i64 BL, Value.int IntKind.i64 V, Value.slice a zs.length c] 24)
  go_enter Tryd.func3, Tryd.ntmps3
  go_wp2_with fail
  have ht0 := ht.below hb0 tw
  have hin0 := hin.later hb0
  generalize w.alloc (Obj.cells #[Value.int IntKind.i64 K, Value.int IntKind.i64 F, Value.int IntKind.i64 E, Value.int IntKind.i64 B, Value.int IntKind.i64 WA, Value.int IntKind.i64 P, Value.int IntKind.i64 S, Value.int IntKind.i64 Q, Value.int IntKind.i64 BL, Value.int IntKind.i64 V, Value.slice a zs.length c] 24) = W0 at *
  refine (tame_all K F E B WA P S Q BL V a zs c W0 hin0 bK bF bE bB bWA bP bS bQ bBL bV hzs).mono ?_
  rintro r w1 ⟨hb1, k, f, e, b, wa, p, s, q, bl, v, vs, la, lc, hk1, hk2, hf, rfl, ho, hvl, hvz, hm⟩
  have ht1 := ht0.below hb1 ht0.two
  have hb01 := hb0.trans (hb1.mono hb0.size)
  have hi1 := ho.ints.2
  have HM : Hid _ := hm
  have HV : Hid _ := hvz
  clear hm hvz ho hin0 hin ht ht0 hb0 hb1 hzs bK bF bE bB bWA bP bS bQ bBL bV
  go_wp2_with fail
  have hb2 := (Below.refl w1.heap.size w1).alloc (Nat.le_refl _) (Obj.cells #[Value.int IntKind.i64 k, Value.int IntKind.i64 f, Value.int IntKind.i64 e, Value.int IntKind.i64 b, Value.int IntKind.i64 wa, Value.int IntKind.i64 p, Value.int IntKind.i64 s, Value.int IntKind.i64 q, Value.int IntKind.i64 bl, Value.int IntKind.i64 v, Value.slice la vs.length lc] 24)
  have hx2 : ∀ i, (w1.alloc (Obj.cells #[Value.int IntKind.i64 k, Value.int IntKind.i64 f, Value.int IntKind.i64 e, Value.int IntKind.i64 b, Value.int IntKind.i64 wa, Value.int IntKind.i64 p, Value.int IntKind.i64 s, Value.int IntKind.i64 q, Value.int IntKind.i64 bl, Value.int IntKind.i64 v, Value.slice la vs.length lc] 24)).cell? ⟨w1.heap.size, i, none⟩ = #[Value.int IntKind.i64 k, Value.int IntKind.i64 f, Value.int IntKind.i64 e, Value.int IntKind.i64 b, Value.int IntKind.i64 wa, Value.int IntKind.i64 p, Value.int IntKind.i64 s, Value.int IntKind.i64 q, Value.int IntKind.i64 bl, Value.int IntKind.i64 v, Value.slice la vs.length lc][i]? := fun i => World.cell?_alloc_at _ _ _ _ rfl
  have hs2 : (w1.alloc (Obj.cells #[Value.int IntKind.i64 k, Value.int IntKind.i64 f, Value.int IntKind.i64 e, Value.int IntKind.i64 b, Value.int IntKind.i64 wa, Value.int IntKind.i64 p, Value.int IntKind.i64 s, Value.int IntKind.i64 q, Value.int IntKind.i64 bl, Value.int IntKind.i64 v, Value.slice la vs.length lc] 24)).heap.size = w1.heap.size + 1 := by simp
  have ht2 := ht1.below hb2 ht1.two
  have hi2 := hi1.later hb2
  have hb02 := hb01.trans (hb2.mono hb01.size)
  have hw02 : w.heap.size ≤ w1.heap.size := hb01.size
  generalize w1.alloc (Obj.cells #[Value.int IntKind.i64 k, Value.int IntKind.i64 f, Value.int IntKind.i64 e, Value.int IntKind.i64 b, Value.int IntKind.i64 wa, Value.int IntKind.i64 p, Value.int IntKind.i64 s, Value.int IntKind.i64 q, Value.int IntKind.i64 bl, Value.int IntKind.i64 v, Value.slice la vs.length lc] 24) = w2 at *
  have hM : isMsg (k : Int) (f : Int) [0, e, b, wa, p, s, q, bl, v, (vs.length : Int)] = true := by
    have : outB (k : Int) (f : Int) = false := by simp [outB]; omega
    simp only [isMsg, this, Bool.not_false, Bool.true_and]
    exact HM.out
  refine (kEncode_yes k f e b wa p s q bl v la vs lc w2 ht2 hi2 hM).mono ?_
  rintro r w3 ⟨x3, rfl, hx3, hb3⟩
  have hx3' : OwnB w3 w2.heap.size x3 (encOf k f [0, e, b, wa, p, s, q, bl, v, (vs.length : Int)] vs) := hx3
  clear hx3 hM
  have hdk := round_ok k f e b wa p s q bl v vs hk1 hk2 hf HM.out HV.out
  obtain ⟨rk, rf, rn, rv⟩ := round k f e b wa p s q bl v vs hk1 hk2 hf HM.out HV.out
  have hE : IsEnc (encOf k f [0, e, b, wa, p, s, q, bl, v, (vs.length : Int)] vs) := ⟨k, f, e, b, wa, p, s, q, bl, v, vs, hk1, hk2, hf, hvl, rfl⟩
  generalize encOf k f [0, e, b, wa, p, s, q, bl, v, (vs.length : Int)] vs = bs at *
  have h14 := hE.len
  have h171 := hE.short
  have HE : Hid _ := hE
  have HDK : Hid _ := hdk
  have RK : Hid _ := rk
  have RF : Hid _ := rf
  have RN : Hid _ := rn
  have RV : Hid _ := rv
  clear hE hdk rk rf rn rv
  obtain ⟨g, cap, hxe, hgb, hgcap⟩ : ∃ g cap, x3 = .slice (some ⟨g, 0, none⟩) bs.length cap ∧ w2.heap.size ≤ g ∧ bs.length ≤ cap := by
    rcases hx3'.2 with ⟨_, h0⟩ | ⟨g, cap, cur, rfl, hb, _, hn, _⟩
    · omega
    · exact ⟨g, cap, rfl, hb, hn⟩
  subst hxe
  have hgw : w.heap.size ≤ g := by omega
  have ht3 := ht2.below hb3 ht2.two
  have hb03 := hb02.trans (hb3.mono hb02.size)
  have hi3 := hi2.later hb3
  have xc3 : ∀ i, w3.cell? ⟨w1.heap.size, i, none⟩ = _ := fun i => (hb3.cell (by show w1.heap.size < _; omega)).trans (hx2 i)
  have hs3 := hb3.size
  clear hx2 hi2 ht2 hb02 hb3 hi1 hb2 ht1
  go_wp2_with fail
  refine (kDecode_any bs _ w3 ht3 hx3'.rest).mono ?_
  rintro r w4 ⟨hb4, h⟩
  obtain ⟨_, n1, n2, n3, n4, n5, n6, n7, n8, l4, rfl, hg4, ho4⟩ := h.resolve_right (by rintro ⟨hd, _⟩; rw [HDK.out] at hd; cases hd)
  clear h
  rw [RN.out] at hg4
  simp only [List.cons.injEq, true_and, and_true] at hg4
  obtain ⟨rfl, rfl, rfl, rfl, rfl, rfl, rfl, rfl, _⟩ := hg4
  rw [RV.out] at ho4
  rw [RK.out, RF.out]
  obtain ⟨la4, lc4, rfl⟩ := ho4.shape
  have hi4 := hi3.later hb4
  have hj4 := ho4.ints.2
  have hx4 := hx3'.later hb4
  have ht4 := ht3.below hb4 ht3.two
  have hb04 := hb03.trans (hb4.mono hb03.size)
  have q4 : w1.heap.size < w4.heap.size := by have := hb4.size; omega
  have xc4 : ∀ i, w4.cell? ⟨w1.heap.size, i, none⟩ = _ := fun i => (hb4.cell (by show w1.heap.size < _; omega)).trans (xc3 i)
  have hd14 : decide ((bs.length : Int) < 14) = false := by simp; omega
  clear xc3 hi3 hx3' ht3 hb03 hs3 hs2 hb01 ho4
  have hb5 := (Below.refl w4.heap.size w4).alloc (Nat.le_refl _) (Obj.cells #[Value.int IntKind.i64 k, Value.int IntKind.i64 f, Value.int IntKind.i64 e, Value.int IntKind.i64 b, Value.int IntKind.i64 wa, Value.int IntKind.i64 p, Value.int IntKind.i64 s, Value.int IntKind.i64 q, Value.int IntKind.i64 bl, Value.int IntKind.i64 v, Value.slice la4 vs.length lc4] 24)
  go_wp2_with fail
  refine (same_yes k f e b wa p s q bl v la la4 lc lc4 vs _ hvl (hi4.later hb5) (hj4.later hb5)).mono ?_
  rintro r w6 ⟨rfl, hb6⟩
  have hb46 := hb5.trans (hb6.mono (by simp))
  have hx6 := hx4.later hb46
  have ht6 := ht4.below hb46 ht4.two
  have hb06 := hb04.trans (hb46.mono hb04.size)
  clear xc4 hi4 hj4 hx4 ht4 hb04 hb5 hb6 hb46 q4
  have hn1 : (1 : Int) ≤ (bs.length : Int) := by omega
  go_wp2_with fail
  refine (kDecode_any (bs.take (bs.length - 1)) _ w6 ht6 (restAt_take (by omega) hx6.rest)).mono ?_
  rintro r w7 ⟨hb7, h⟩
  obtain ⟨_, rfl⟩ := h.resolve_left (by rintro ⟨hd, _⟩; rw [dOk_false (not_less HE.out)] at hd; cases hd)
  clear h
  have hx7 := hx6.later hb7
  have ht7 := ht6.below hb7 ht6.two
  have hb07 := hb06.trans (hb7.mono hb06.size)
  have hb8 := (Below.refl w7.heap.size w7).alloc (Nat.le_refl _) (Obj.cells #[Value.int IntKind.i64 0, Value.int IntKind.i64 0, Value.int IntKind.i64 0, Value.int IntKind.i64 0, Value.int IntKind.i64 0, Value.int IntKind.i64 0, Value.int IntKind.i64 0, Value.int IntKind.i64 0, Value.int IntKind.i64 0, Value.int IntKind.i64 0, Value.slice none 0 0] 24)
  have cv8 := conv_bytes (hx7.later hb8).bytesAt
  have hconv := fun w => run_bytes_of_string (P := Tryd.prog) w 9 26 5 (strOf bs ++ ⟨#[120]⟩) Tryd.underlying9 Tryd.underlying26 Tryd.underlying5
  have hsz : (strOf bs).size ≤ 171 := by show bs.toArray.size ≤ 171; simpa using h171
  clear hx6 ht6 hb06 hb7
  go_wp2_with fail
  have hs8 : (w7.alloc (Obj.cells #[Value.int IntKind.i64 0, Value.int IntKind.i64 0, Value.int IntKind.i64 0, Value.int IntKind.i64 0, Value.int IntKind.i64 0, Value.int IntKind.i64 0, Value.int IntKind.i64 0, Value.int IntKind.i64 0, Value.int IntKind.i64 0, Value.int IntKind.i64 0, Value.slice none 0 0] 24)).heap.size = w7.heap.size + 1 := by simp
  have hx8 := hx7.later hb8
  have ht8 := ht7.below hb8 ht7.two
  have hb08 := hb07.trans (hb8.mono hb07.size)
  clear hconv cv8 hb8 hx7 ht7 hb07
  generalize w7.alloc (Obj.cells #[Value.int IntKind.i64 0, Value.int IntKind.i64 0, Value.int IntKind.i64 0, Value.int IntKind.i64 0, Value.int IntKind.i64 0, Value.int IntKind.i64 0, Value.int IntKind.i64 0, Value.int IntKind.i64 0, Value.int IntKind.i64 0, Value.int IntKind.i64 0, Value.slice none 0 0] 24) = w8 at *
  have hr9 := made_plus w8 (w7.heap.size + 1) hs8 bs hsz ((bytesRow (strOf bs ++ ⟨#[120]⟩) (grownCap w8 ((strOf bs).size + 1) 0 5)).size, (bytesRow (strOf bs ++ ⟨#[120]⟩) (grownCap w8 ((strOf bs).size + 1) 0 5)).size + 1)
  have hb9 := ((Below.refl w8.heap.size w8).alloc (Nat.le_refl _) (Obj.cells (bytesRow (strOf bs ++ ⟨#[120]⟩) (grownCap w8 ((strOf bs).size + 1) 0 5)) 5 ((bytesRow (strOf bs ++ ⟨#[120]⟩) (grownCap w8 ((strOf bs).size + 1) 0 5)).size, (bytesRow (strOf bs ++ ⟨#[120]⟩) (grownCap w8 ((strOf bs).size + 1) 0 5)).size + 1))).drew
  generalize (w8.alloc (Obj.cells (bytesRow (strOf bs ++ ⟨#[120]⟩) (grownCap w8 ((strOf bs).size + 1) 0 5)) 5 ((bytesRow (strOf bs ++ ⟨#[120]⟩) (grownCap w8 ((strOf bs).size + 1) 0 5)).size, (bytesRow (strOf bs ++ ⟨#[120]⟩) (grownCap w8 ((strOf bs).size + 1) 0 5)).size + 1))).drew = w9 at *
  have ht9 := ht8.below hb9 ht8.two
  have hb09 := hb08.trans (hb9.mono hb08.size)
  have hx9 := hx8.later hb9
  refine (kDecode_any (bs ++ [120]) _ w9 ht9 hr9).mono ?_
  rintro r w10 ⟨hb10, h⟩
  obtain ⟨_, rfl⟩ := h.resolve_left (by rintro ⟨hd, _⟩; rw [dOk_false (not_more HE.out 120)] at hd; cases hd)
  clear h
  have hx10 := hx9.later hb10
  have ht10 := ht9.below hb10 ht9.two
  have hb010 := hb09.trans (hb10.mono hb09.size)
  have hb11 := (Below.refl w10.heap.size w10).alloc (Nat.le_refl _) (Obj.cells #[Value.int IntKind.i64 0, Value.int IntKind.i64 0, Value.int IntKind.i64 0, Value.int IntKind.i64 0, Value.int IntKind.i64 0, Value.int IntKind.i64 0, Value.int IntKind.i64 0, Value.int IntKind.i64 0, Value.int IntKind.i64 0, Value.int IntKind.i64 0, Value.slice none 0 0] 24)
  have hx11 := hx10.later hb11
  have ht11 := ht10.below hb11 ht10.two
  have hb011 := hb010.trans (hb11.mono hb010.size)
  clear hx9 ht9 hb09 hb10 hx8 ht8 hb08 hb9 hr9 hx10 ht10 hb010 hb11 hs8
  obtain ⟨i, hi, hil⟩ : ∃ i : Nat, raw AT % (bs.length : Int) = (i : Int) ∧ i < bs.length := by
    have := mod_in AT (bs.length : Int) (by omega)
    exact ⟨(raw AT % (bs.length : Int)).toNat, by omega, by omega⟩
  obtain ⟨T, hT, hTl⟩ : ∃ T : Nat, raw TO % 256 = (T : Int) ∧ T < 256 := by
    have := mod_in TO 256 (by omega)
    exact ⟨(raw TO % 256).toNat, by omega, by omega⟩
  have HI : Hid _ := hi
  have HTT : Hid _ := hT
  clear hi hT
  go_wp2_with fail
  refine (pick_any _ _ _ (by omega) (by omega) (by omega)).mono ?_
  rintro r w12 ⟨rfl, rfl⟩
  rw [HI.out]
  go_wp2_with fail
  refine (pick_any _ _ _ (by omega) (by omega) (by omega)).mono ?_
  rintro r w12 ⟨rfl, rfl⟩
  rw [HTT.out]
  generalize w10.alloc (Obj.cells #[Value.int IntKind.i64 0, Value.int IntKind.i64 0, Value.int IntKind.i64 0, Value.int IntKind.i64 0, Value.int IntKind.i64 0, Value.int IntKind.i64 0, Value.int IntKind.i64 0, Value.int IntKind.i64 0, Value.int IntKind.i64 0, Value.int IntKind.i64 0, Value.slice none 0 0] 24) = w11 at *
  obtain ⟨hci, hfi⟩ := hx11.at i hil
  have hnx : ∀ y : UInt8, y ≠ bs[i] → dOk (bs.set i y) = false := fun y hy => dOk_false (not_set HE.out i hil y hy)
  have HNX : Hid _ := hnx
  clear hnx
  have hgi : w.heap.size ≤ g := hgw
  generalize hX : bs[i] = X at *
  have hXl := X.toNat_lt
  have hXi : (X.toNat : Int) < 256 := by omega
  have hil2 : (i : Int) < (bs.length : Int) := by omega
  by_cases hTX : T = X.toNat
  · have tX : ((T : Int) == (X.toNat : Int)) = true := by simp [hTX]
    have HTX : Hid _ := hTX
    clear hTX hX
    go_wp2_with fail
    have ey : ((T : Int) + 1) % 256 = ((UInt8.ofNat (T + 1)).toNat : Int) := by rw [UInt8.toNat_ofNat']; omega
    have hny : UInt8.ofNat (T + 1) ≠ X := by
      intro h
      have := congrArg UInt8.toNat h
      rw [UInt8.toNat_ofNat', ← HTX.out] at this
      omega
    have hx13 := hx11.put i (UInt8.ofNat (T + 1))
    have hb13 := (Below.refl w.heap.size w11).setCell (p := ⟨g, i, none⟩) hgi (.int .u8 ((UInt8.ofNat (T + 1)).toNat : Int))
    have ht13 := ht11.below hb13 tw
    have hb013 := hb011.trans hb13
    clear hci hfi hx11 ht11 hb011
    rw [ey]
    generalize w11.setCell ⟨g, i, none⟩ (.int .u8 ((UInt8.ofNat (T + 1)).toNat : Int)) = w13 at *
    refine (kDecode_any (bs.set i (UInt8.ofNat (T + 1))) _ w13 ht13 hx13.rest).mono ?_
    rintro r w14 ⟨hb14, h⟩
    obtain ⟨_, rfl⟩ := h.resolve_left (by rintro ⟨hd, _⟩; rw [HNX.out _ hny] at hd; cases hd)
    clear h
    have hb014 := hb013.trans (hb14.mono hb013.size)
    clear ey hny tX hx13 hb13 ht13 hb013 hb14
    go_wp2
    go_ret
    exact ⟨rfl, hb014.alloc hb014.size _⟩
  · have tX : ((T : Int) == (X.toNat : Int)) = false := by simp; omega
    have HTX : Hid _ := hTX
    clear hTX hX
    go_wp2_with fail
    have ey : (T : Int) = ((UInt8.ofNat T).toNat : Int) := by rw [UInt8.toNat_ofNat']; omega
    have hny : UInt8.ofNat T ≠ X := by
      intro h
      have := congrArg UInt8.toNat h
      rw [UInt8.toNat_ofNat'] at this
      exact HTX.out (by omega)
    have hx13 := hx11.put i (UInt8.ofNat T)
    have hb13 := (Below.refl w.heap.size w11).setCell (p := ⟨g, i, none⟩) hgi (.int .u8 ((UInt8.ofNat T).toNat : Int))
    have ht13 := ht11.below hb13 tw
    have hb013 := hb011.trans hb13
    clear hci hfi hx11 ht11 hb011
    rw [show Value.int IntKind.u8 (T : Int) = Value.int IntKind.u8 ((UInt8.ofNat T).toNat : Int) from congrArg _ ey]
    generalize w11.setCell ⟨g, i, none⟩ (.int .u8 ((UInt8.ofNat T).toNat : Int)) = w13 at *
    refine (kDecode_any (bs.set i (UInt8.ofNat T)) _ w13 ht13 hx13.rest).mono ?_
    rintro r w14 ⟨hb14, h⟩
    obtain ⟨_, rfl⟩ := h.resolve_left (by rintro ⟨hd, _⟩; rw [HNX.out _ hny] at hd; cases hd)
    clear h
    have hb014 := hb013.trans (hb14.mono hb013.size)
    clear ey hny tX hx13 hb13 ht13 hb013 hb14
    go_wp2
    go_ret
    exact ⟨rfl, hb014.alloc hb014.size _⟩
end Go.Proofs.YtdcainmlcpafbaaDoor
