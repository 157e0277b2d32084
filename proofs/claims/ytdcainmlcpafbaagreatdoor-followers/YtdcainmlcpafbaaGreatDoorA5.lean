import Derived.Test.YtdcainmlcpafbaaGreatDoorA4
namespace Go.Proofs.YtdcainmlcpafbaaGreatDoor
open Go.RowKit

def fieldBytes (nums vals : List Int) (f : Nat) : List UInt8 :=
  if f = 0 then [] else if f = 9 then be (nums.getD 9 0) 1 ++ vals.flatMap (fun v => be v 8) else be (nums.getD f 0) 8
def bodyOf (k f : Nat) (nums vals : List Int) : List UInt8 := [UInt8.ofNat k, UInt8.ofNat f] ++ (rowOf k).flatMap (fieldBytes nums vals)
def sumNum (b : List UInt8) : Int := 65536 * (sumOf b).2 + (sumOf b).1
def encOf (k f : Nat) (nums vals : List Int) : List UInt8 := bodyOf k f nums vals ++ be (sumNum (bodyOf k f nums vals)) 4

def intsAt (w : World) (ao : Option Addr) (zs : List Int) : Prop :=
  zs = [] ∨ ∃ g off, ao = some ⟨g, off, none⟩ ∧ g < w.heap.size ∧ ∀ j (h : j < zs.length), w.cell? ⟨g, off + j, none⟩ = some (.int .i64 zs[j])

theorem appendNumber1 (n : Int) (base : Nat) (v : Value) (xs : List UInt8) (w : World) (hlen : xs.length ≤ 1000000) (hown : OwnB w base v xs) (hbase : base ≤ w.heap.size) :
    Calls Tryz.prog 213 #[v, .int .i64 n, .int .i64 1] w fun e w' => ∃ v', e = .returned v' ∧ OwnB w' base v' (xs ++ be n 1) ∧ Below base w w' := appendNumber_any n 1 (by omega) base v xs w hlen hown hbase
theorem appendNumber4 (n : Int) (base : Nat) (v : Value) (xs : List UInt8) (w : World) (hlen : xs.length ≤ 1000000) (hown : OwnB w base v xs) (hbase : base ≤ w.heap.size) :
    Calls Tryz.prog 213 #[v, .int .i64 n, .int .i64 4] w fun e w' => ∃ v', e = .returned v' ∧ OwnB w' base v' (xs ++ be n 4) ∧ Below base w w' := appendNumber_any n 4 (by omega) base v xs w hlen hown hbase
theorem appendNumber8 (n : Int) (base : Nat) (v : Value) (xs : List UInt8) (w : World) (hlen : xs.length ≤ 1000000) (hown : OwnB w base v xs) (hbase : base ≤ w.heap.size) :
    Calls Tryz.prog 213 #[v, .int .i64 n, .int .i64 8] w fun e w' => ∃ v', e = .returned v' ∧ OwnB w' base v' (xs ++ be n 8) ∧ Below base w w' := appendNumber_any n 8 (by omega) base v xs w hlen hown hbase

theorem flatMap_len (zs : List Int) : (zs.flatMap (fun v => be v 8)).length = 8 * zs.length := by
  induction zs with
  | nil => rfl
  | cons z zs ih => simp [be_length, ih]; omega
theorem fieldBytes_len (nums vals : List Int) (f : Nat) (h : vals.length ≤ 4) : (fieldBytes nums vals f).length ≤ 33 := by
  unfold fieldBytes
  split
  · simp
  split
  · rw [List.length_append, flatMap_len, be_length]; omega
  · rw [be_length]; omega
theorem rows_len (nums vals : List Int) (h : vals.length ≤ 4) (l : List Nat) : (l.flatMap (fieldBytes nums vals)).length ≤ 33 * l.length := by
  induction l with
  | nil => simp
  | cons f l ih => have := fieldBytes_len nums vals f h; rw [List.flatMap_cons, List.length_append, List.length_cons]; omega
theorem rowOf_len (k : Nat) (hk : k < 11) : (rowOf k).length = 5 := by
  have : ∀ k < 11, (rowOf k).length = 5 := by decide
  exact this k hk
theorem rowOf_take (k j : Nat) (hk : k < 11) (hj : j < 5) : (rowOf k).take (j + 1) = (rowOf k).take j ++ [fieldAt k j] := by
  have : ∀ k < 11, ∀ j < 5, (rowOf k).take (j + 1) = (rowOf k).take j ++ [fieldAt k j] := by decide
  exact this k hk j hj
def headAt (k f : Nat) (nums vals : List Int) (j : Nat) : List UInt8 := [UInt8.ofNat k, UInt8.ofNat f] ++ ((rowOf k).take j).flatMap (fieldBytes nums vals)
theorem headAt_len (k f : Nat) (nums vals : List Int) (j : Nat) (hk : k < 11) (h : vals.length ≤ 4) : (headAt k f nums vals j).length ≤ 200 := by
  have h1 := rows_len nums vals h ((rowOf k).take j)
  have h2 : ((rowOf k).take j).length ≤ 5 := by rw [List.length_take, rowOf_len k hk]; omega
  unfold headAt
  simp
  simp at h1 h2
  omega
theorem headAt_succ (k f : Nat) (nums vals : List Int) (j : Nat) (hk : k < 11) (hj : j < 5) : headAt k f nums vals (j + 1) = headAt k f nums vals j ++ fieldBytes nums vals (fieldAt k j) := by
  unfold headAt
  rw [rowOf_take k j hk hj]
  simp
theorem headAt_all (k f : Nat) (nums vals : List Int) (hk : k < 11) : headAt k f nums vals 5 = bodyOf k f nums vals := by
  unfold headAt bodyOf
  rw [List.take_of_length_le (by rw [rowOf_len k hk]; omega)]
theorem cells10 {w : World} (x0 x1 x2 x3 x4 x5 x6 x7 x8 x9 : Int) (t : Nat) (ht : t < 10) :
    (w.alloc (.cells #[.int .i64 x0, .int .i64 x1, .int .i64 x2, .int .i64 x3, .int .i64 x4, .int .i64 x5, .int .i64 x6, .int .i64 x7, .int .i64 x8, .int .i64 x9] 298)).cell? ⟨w.heap.size, t, none⟩ = some (.int .i64 ([x0, x1, x2, x3, x4, x5, x6, x7, x8, x9].getD t 0)) := by
  rw [World.cell?_alloc_at _ _ _ _ rfl]
  match t, ht with
  | 0, _ | 1, _ | 2, _ | 3, _ | 4, _ | 5, _ | 6, _ | 7, _ | 8, _ | 9, _ => rfl
theorem OwnB.bytesAt {w : World} {base : Nat} {v : Value} {bs : List UInt8} (h : OwnB w base v bs) : bytesAt w v bs := by
  obtain ⟨h1, h2⟩ := h
  rcases h2 with ⟨rfl, h0⟩ | ⟨g, cap, cur, rfl, hb, hg, hn, hm, hs, hx⟩
  · exact ⟨none, 0, by simp [h0], by omega, by simp [maxLen], .inl (List.eq_nil_of_length_eq_zero h0)⟩
  · refine ⟨_, cap, rfl, hn, hm, .inr ⟨g, 0, rfl, fun j hj => ?_⟩⟩
    have hc := World.ownsRow.cells (w := w) (base := base) (e := 5) (size := 1) (v := .slice (some ⟨g, 0, none⟩) bs.length cap) (n := bs.length) (xs := bvs bs) ⟨h1, .inr ⟨g, cap, cur, rfl, hb, hg, hn, hm, hs, hx⟩⟩ (g := g) rfl j (.int .u8 (bs[j].toNat : Int)) (by simp [bvs, hj])
    have hadd : (⟨g, 0, none⟩ : Addr).add j = ⟨g, j, none⟩ := by unfold Addr.add; split <;> simp_all
    rw [hadd] at hc
    rw [Nat.zero_add]
    exact hc

theorem take_flat (zs : List Int) (t : Nat) (h : t < zs.length) : (zs.take (t + 1)).flatMap (fun v => be v 8) = (zs.take t).flatMap (fun v => be v 8) ++ be zs[t] 8 := by
  rw [List.take_succ_eq_append_getElem h, List.flatMap_append]
  simp only [List.flatMap_cons, List.flatMap_nil, List.append_nil]
theorem OwnB.low {w : World} {base base' : Nat} {v : Value} {bs : List UInt8} (h : OwnB w base v bs) (hb : base' ≤ base) : OwnB w base' v bs := by
  obtain ⟨h1, h2⟩ := h
  rcases h2 with h2 | ⟨g, cap, cur, hv, hg, r⟩
  · exact ⟨h1, .inl h2⟩
  · exact ⟨h1, .inr ⟨g, cap, cur, hv, by omega, r⟩⟩

set_option maxHeartbeats 2000000 in
theorem encode_in (k f : Nat) (e b wa p s q bl v : Int) (a : Option Addr) (zs : List Int) (c : Nat) (w : World) (h1 : 1 ≤ k) (h2 : k ≤ 10) (h4 : f < 5) (ht : Tabs w)
    (hl : zs.length ≤ 4) (hz : intsAt w a zs) (hm : isMsgN k [0, e, b, wa, p, s, q, bl, v, (zs.length : Int)] = true) :
    Calls Tryz.prog 157 #[.agg #[.int .i64 k, .int .i64 f, .int .i64 e, .int .i64 b, .int .i64 wa, .int .i64 p, .int .i64 s, .int .i64 q, .int .i64 bl, .int .i64 v, .slice a zs.length c]] w fun r w' =>
      ∃ x, r = .returned (.tuple #[x, .int .i64 0]) ∧ OwnB w' w.heap.size x (encOf k f [0, e, b, wa, p, s, q, bl, v, (zs.length : Int)] zs) ∧ Below w.heap.size w w' := by
  have tw := ht.two
  have t0 : 0 < w.heap.size := by omega
  have t1 : 1 < w.heap.size := by omega
  have r0 : w.cell? ⟨0, k * 5, none⟩ = _ := ht.fld k 0 (by omega) (by omega)
  have r1 := ht.fld k 1 (by omega) (by omega)
  have r2 := ht.fld k 2 (by omega) (by omega)
  have r3 := ht.fld k 3 (by omega) (by omega)
  have r4 := ht.fld k 4 (by omega) (by omega)
  have HM : Hid _ := hm
  clear hm
  go_enter Tryz.func157, Tryz.ntmps157
  go_wp2_with fail
  refine (isMessage_in k f e b wa p s q bl v a zs.length c _ h1 h2 (by omega) (by omega) (ht.below ((Below.refl w.heap.size w).alloc (Nat.le_refl _) _) (by omega))).mono ?_
  rintro r w1 ⟨rfl, hb1⟩
  rw [HM.out]
  obtain ⟨hc1, hf1⟩ := bcell hb1
  have hz1 : w.heap.size < w1.heap.size := by have := hb1.size; simp at this; omega
  have g0 : 0 < w1.heap.size := by omega
  have g1 : 1 < w1.heap.size := by omega
  go_wp2_with fail
  refine (numbersOf_any _ _ _ _ _ _ _ _ _ _ _ _ _ _).mono ?_
  rintro r w2 ⟨rfl, hb2⟩
  obtain ⟨hc2, hf2⟩ := bcell hb2
  have hz2 : w.heap.size < w2.heap.size := by have := hb2.size; omega
  have g02 : 0 < w2.heap.size := by omega
  have g12 : 1 < w2.heap.size := by omega
  go_wp2_with fail
  have hb12 : Below w.heap.size w w2 := ((Below.refl w.heap.size w).alloc (Nat.le_refl _) _).trans ((hb1.mono (by simp)).trans (hb2.mono (by omega)))
  have hbox : w2.cell? ⟨w.heap.size, 10, none⟩ = some (.slice a zs.length c) := by
    rw [hc2 _ _ hz1, hc1 _ _ (by simp), World.cell?_alloc_at _ _ _ _ rfl]; rfl
  have hnum := fun t ht => cells10 (w := w2) 0 e b wa p s q bl v (zs.length : Int) t ht
  have htab : Tabs w2 := ht.below hb12 (by omega)
  generalize hN : [0, e, b, wa, p, s, q, bl, v, (zs.length : Int)] = nums at *
  generalize hX : w2.alloc (Obj.cells #[Value.int IntKind.i64 0, Value.int IntKind.i64 e, Value.int IntKind.i64 b, Value.int IntKind.i64 wa, Value.int IntKind.i64 p, Value.int IntKind.i64 s, Value.int IntKind.i64 q, Value.int IntKind.i64 bl, Value.int IntKind.i64 v, Value.int IntKind.i64 (zs.length : Int)] 298) = W3 at *
  have hsz3 : W3.heap.size = w2.heap.size + 1 := by rw [← hX]; simp
  have hbx3 : Below w2.heap.size w2 W3 := by rw [← hX]; exact (Below.refl _ _).alloc (Nat.le_refl _) _
  have hown : OwnB (W3.alloc (Obj.cells #[Value.int IntKind.u8 ↑k, Value.int IntKind.u8 ↑f] 5)) (w2.heap.size + 1) (Value.slice (some { block := w2.heap.size + 1, off := 0 }) 2 2) (headAt k f nums zs 0) := by
    refine ⟨by simp [headAt, bvs], .inr ⟨_, 2, _, rfl, Nat.le_refl _, by rw [← hsz3]; exact heap_alloc_new W3 _, by simp [headAt], by simp [maxLen], by simp, ?_⟩⟩
    have e1 : ((UInt8.ofNat k).toNat : Int) = k := by rw [UInt8.toNat_ofNat']; omega
    have e2 : ((UInt8.ofNat f).toNat : Int) = f := by rw [UInt8.toNat_ofNat']; omega
    simp only [headAt, bvs, List.take_zero, List.flatMap_nil, List.append_nil, List.map_cons, List.map_nil, e1, e2]
    rfl
  have hbW : Below (w2.heap.size + 1) W3 (W3.alloc (Obj.cells #[Value.int IntKind.u8 ↑k, Value.int IntKind.u8 ↑f] 5)) := (Below.refl _ _).alloc (by omega) _
  have hsW : (W3.alloc (Obj.cells #[Value.int IntKind.u8 ↑k, Value.int IntKind.u8 ↑f] 5)).heap.size = w2.heap.size + 2 := by simp [hsz3]
  generalize W3.alloc (Obj.cells #[Value.int IntKind.u8 ↑k, Value.int IntKind.u8 ↑f] 5) = W0 at *
  have htab0 : Tabs W0 := (htab.below hbx3 (by omega)).below hbW (by omega)
  have hnum0 : ∀ t, t < 10 → W0.cell? ⟨w2.heap.size, t, none⟩ = some (.int .i64 (nums.getD t 0)) := fun t ht => (hbW.cell (by show w2.heap.size < _; omega)).trans (hnum t ht)
  have hbox0 : W0.cell? ⟨w.heap.size, 10, none⟩ = some (.slice a zs.length c) := (hbW.cell (by show w.heap.size < _; omega)).trans ((hbx3.cell (by exact hz2)).trans hbox)
  have hints0 : zs = [] ∨ ∃ g off, a = some ⟨g, off, none⟩ ∧ g < w2.heap.size ∧ ∀ j (h : j < zs.length), W0.cell? ⟨g, off + j, none⟩ = some (.int .i64 zs[j]) := by
    rcases hz with h | ⟨g, off, h1, h2, h3⟩
    · exact .inl h
    · exact .inr ⟨g, off, h1, by omega, fun j hj => (hbW.cell (by show g < _; omega)).trans ((hbx3.cell (by show g < _; omega)).trans ((hb12.cell (by exact h2)).trans (h3 j hj)))⟩
  have hbfin : Below w.heap.size w W0 := hb12.trans ((hbx3.mono (by omega)).trans (hbW.mono (by omega)))
  clear hc1 hf1 hc2 hf2 hb1 hb2 r0 r1 r2 r3 r4 ht tw t0 t1 hX hnum htab hbx3 hbW hbox hb12 hz hsz3
  generalize hB : w2.heap.size = B at *
  have HN : Hid _ := hN
  clear hN hB HM
  go_loopw [5, 26] (fun o i wr => ∃ (j : Nat), j ≤ 5 ∧ i = .int .i64 j ∧ OwnB wr (B + 1) o (headAt k f nums zs j) ∧ Below (B + 1) W0 wr) (fun _ i _ => 5 - (intOf i).toNat)
  case atStart => exact ⟨0, by omega, rfl, hown, Below.refl _ _⟩
  case round =>
    obtain ⟨j, hj, rfl, ho, hbw⟩ := hrel
    have hlen := headAt_len k f nums zs j (by omega) hl
    have hsr := hbw.size
    by_cases hlt : j < 5
    · have hidx : ∀ w, (Instr.index 301 (.agg #[.int .i64 (fieldAt k 0), .int .i64 (fieldAt k 1), .int .i64 (fieldAt k 2), .int .i64 (fieldAt k 3), .int .i64 (fieldAt k 4)]) (.int .i64 (j : Int))).run Tryz.prog w = .ok (.int .i64 (fieldAt k j)) w := idxField k j hlt
      have hF := fieldAt_lt k j (by omega) hlt
      have HS : Hid _ := headAt_succ k f nums zs j (by omega) hlt
      have hcF : wr.cell? ⟨B, fieldAt k j, none⟩ = some (.int .i64 (nums.getD (fieldAt k j) 0)) := (hbw.cell (by show B < _; omega)).trans (hnum0 _ hF)
      have hcB : wr.cell? ⟨w.heap.size, 10, none⟩ = some (.slice a zs.length c) := (hbw.cell (by show w.heap.size < _; omega)).trans hbox0
      generalize fieldAt k j = F at *
      generalize headAt k f nums zs j = cur at *
      by_cases hF0 : F = 0
      · subst hF0
        go_wp2
        go_roundw
        case rel => exact ⟨j + 1, by omega, by go_num, by rw [HS.out]; simpa [fieldBytes] using ho, hbw⟩
        case measure => simp [intOf]; omega
      by_cases hF9 : F = 9
      · subst hF9
        have HS2 : Hid (headAt k f nums zs (j + 1) = cur ++ be (nums.getD 9 0) 1 ++ zs.flatMap (fun v => be v 8)) := by
          unfold Hid; rw [HS.out]; simp [fieldBytes]
        clear HS hF hF0
        generalize nums.getD 9 0 = N at *
        go_wp2_with fail
        refine (appendNumber1 N (B + 1) _ cur _ (by omega) ho (by omega)).mono ?_
        rintro r w5 ⟨v5, rfl, ho5, hb5⟩
        have hcB5 : w5.cell? ⟨w.heap.size, 10, none⟩ = some (.slice a zs.length c) := (hb5.cell (by show w.heap.size < _; omega)).trans hcB
        have hbw5 : Below (B + 1) W0 w5 := hbw.trans hb5
        have hs5 := hbw5.size
        have hl5 : (cur ++ be N 1).length ≤ 201 := by rw [List.length_append, be_length]; omega
        generalize cur ++ be N 1 = cur5 at *
        clear hcB hb5 ho hbw hcF hlen hsr
        go_wp2_with fail
        go_loopw [5, 47] (fun o i wr => ∃ (t : Nat), t ≤ zs.length ∧ i = .int .i64 t ∧ OwnB wr (B + 1) o (cur5 ++ (zs.take t).flatMap (fun v => be v 8)) ∧ Below (B + 1) W0 wr) (fun _ i _ => zs.length - (intOf i).toNat)
        case atStart => exact ⟨0, Nat.zero_le _, rfl, by simpa using ho5, hbw5⟩
        case round =>
          obtain ⟨t, ht, rfl, ho6, hbw6⟩ := hrel
          have hs6 := hbw6.size
          by_cases htl : t < zs.length
          · obtain ⟨g, off, rfl, hg, hcz⟩ : ∃ g off, a = some ⟨g, off, none⟩ ∧ g < B ∧ ∀ j (h : j < zs.length), W0.cell? ⟨g, off + j, none⟩ = some (.int .i64 zs[j]) := by
              rcases hints0 with h | h
              · subst h; simp at htl
              · exact h
            have hct : wr.cell? ⟨g, off + t, none⟩ = some (.int .i64 zs[t]) := (hbw6.cell (by show g < _; omega)).trans (hcz t htl)
            have HT : Hid (cur5 ++ (zs.take (t + 1)).flatMap (fun v => be v 8) = (cur5 ++ (zs.take t).flatMap (fun v => be v 8)) ++ be zs[t] 8) := by
              unfold Hid; rw [take_flat zs t htl, List.append_assoc]
            have hl6 : (cur5 ++ (zs.take t).flatMap (fun v => be v 8)).length ≤ 1000000 := by
              rw [List.length_append, flatMap_len, List.length_take]; omega
            generalize cur5 ++ (zs.take t).flatMap (fun v => be v 8) = cur6 at *
            clear hcz ho5 hbw5 hints0
            generalize zs[t] = Z at *
            go_wp2_with fail
            refine (appendNumber8 Z (B + 1) _ cur6 _ hl6 ho6 (by omega)).mono ?_
            rintro r w7 ⟨v7, rfl, ho7, hb7⟩
            have hbw7 := hbw6.trans hb7
            clear ho6 hbw6 hb7
            go_wp2
            go_roundw
            case rel => exact ⟨t + 1, by omega, by go_num, by rw [HT.out]; exact ho7, hbw7⟩
            case measure => simp [intOf]; omega
          · have htz : zs.take t = zs := List.take_of_length_le (by omega)
            rw [htz] at ho6
            rw [← HS2.out] at ho6
            clear htz ho5 hbw5 HS2
            go_wp2
            go_roundw
            case rel => exact ⟨j + 1, by omega, by go_num, ho6, hbw6⟩
            case measure => simp [intOf]; omega
      · have n0 : ((F : Int) == 0) = false := by simp; omega
        have n9 : ((F : Int) == 9) = false := by simp; omega
        have HS2 : Hid (headAt k f nums zs (j + 1) = cur ++ be (nums.getD F 0) 8) := by
          unfold Hid; rw [HS.out]; simp [fieldBytes, hF0, hF9]
        clear HS
        generalize nums.getD F 0 = N at *
        go_wp2_with fail
        refine (appendNumber8 N (B + 1) _ cur _ (by omega) ho (by omega)).mono ?_
        rintro r w5 ⟨v5, rfl, ho5, hb5⟩
        have hbw5 : Below (B + 1) W0 w5 := hbw.trans hb5
        clear ho hbw hb5
        go_wp2
        go_roundw
        case rel => exact ⟨j + 1, by omega, by go_num, by rw [HS2.out]; exact ho5, hbw5⟩
        case measure => simp [intOf]; omega
    · have hj5 : j = 5 := by omega
      subst hj5
      rw [headAt_all k f nums zs (by omega)] at ho hlen
      have HE : Hid (encOf k f nums zs = bodyOf k f nums zs ++ be (65536 * (sumOf (bodyOf k f nums zs)).2 + (sumOf (bodyOf k f nums zs)).1) 4) := rfl
      generalize bodyOf k f nums zs = body at *
      go_wp2_with fail
      refine (sum_any body _ _ (by omega) ho.bytesAt).mono ?_
      rintro r w8 ⟨rfl, rfl⟩
      generalize 65536 * (sumOf body).2 + (sumOf body).1 = S at *
      go_wp2_with fail
      refine (appendNumber4 S (B + 1) _ body _ (by omega) ho (by omega)).mono ?_
      rintro r w9 ⟨v9, rfl, ho9, hb9⟩
      go_wp2
      go_ret2
      refine ⟨v9, rfl, ?_, hbfin.trans ((hbw.trans hb9).mono (by omega))⟩
      rw [HN.out, HE.out]
      exact ho9.low (by omega)


/-- Whether a message is one. -/
def isMsg (k f : Int) (nums : List Int) : Bool := !outB k f && isMsgN k.toNat nums

theorem isMessage_any (k f e b wa p s q bl v : Int) (a : Option Addr) (n c : Nat) (w : World) (ht : Tabs w) :
    Calls Tryz.prog 211 #[.agg #[.int .i64 k, .int .i64 f, .int .i64 e, .int .i64 b, .int .i64 wa, .int .i64 p, .int .i64 s, .int .i64 q, .int .i64 bl, .int .i64 v, .slice a n c]] w fun r w' =>
      r = .returned (.bool (isMsg k f [0, e, b, wa, p, s, q, bl, v, n])) ∧ Below w.heap.size w w' := by
  by_cases h : k < 1 ∨ 10 < k ∨ f < 0 ∨ 5 ≤ f
  · have e1 : isMsg k f [0, e, b, wa, p, s, q, bl, v, n] = false := by simp only [isMsg, outB, h, decide_true, Bool.not_true, Bool.false_and]
    rw [e1]
    exact isMessage_out k f e b wa p s q bl v a n c w h
  · have e1 : isMsg k f [0, e, b, wa, p, s, q, bl, v, n] = isMsgN k.toNat [0, e, b, wa, p, s, q, bl, v, n] := by simp only [isMsg, outB, h, decide_false, Bool.not_false, Bool.true_and]
    rw [e1]
    obtain ⟨K, rfl⟩ := Int.eq_ofNat_of_zero_le (show 0 ≤ k by omega)
    exact isMessage_in K f e b wa p s q bl v a n c w (by omega) (by omega) (by omega) (by omega) ht

set_option maxHeartbeats 400000 in
theorem encode_no (k f e b wa p s q bl v : Int) (a : Option Addr) (n c : Nat) (w : World) (ht : Tabs w) (hm : isMsg k f [0, e, b, wa, p, s, q, bl, v, (n : Int)] = false) :
    Calls Tryz.prog 157 #[.agg #[.int .i64 k, .int .i64 f, .int .i64 e, .int .i64 b, .int .i64 wa, .int .i64 p, .int .i64 s, .int .i64 q, .int .i64 bl, .int .i64 v, .slice a n c]] w fun r w' =>
      r = .returned (.tuple #[.slice none 0 0, .int .i64 1]) ∧ Below w.heap.size w w' := by
  have tw := ht.two
  have HM : Hid _ := hm
  clear hm
  go_enter Tryz.func157, Tryz.ntmps157
  go_wp2_with fail
  refine (isMessage_any k f e b wa p s q bl v a n c _ (ht.below ((Below.refl w.heap.size w).alloc (Nat.le_refl _) _) (by omega))).mono ?_
  rintro r w1 ⟨rfl, hb1⟩
  rw [HM.out]
  have hb : Below w.heap.size w w1 := ((Below.refl w.heap.size w).alloc (Nat.le_refl _) _).trans (hb1.mono (by simp))
  go_wp2
  go_ret2
  exact ⟨rfl, hb⟩

end Go.Proofs.YtdcainmlcpafbaaGreatDoor
