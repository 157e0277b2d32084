import Derived.Test.YtdcainmlcpafbaaDoorA9
namespace Go.Proofs.YtdcainmlcpafbaaDoor
open Go.RowKit
theorem OwnB.rest {w : World} {base : Nat} {v : Value} {bs : List UInt8} (h : OwnB w base v bs) : restAt w w.heap.size v bs := by
  obtain ⟨h1, h2⟩ := h
  rcases h2 with ⟨rfl, h0⟩ | ⟨g, cap, cur, rfl, hb, hg, hn, hm, hs, hx⟩
  · exact ⟨none, 0, by simp [h0], by omega, by simp [maxLen], .inl (List.eq_nil_of_length_eq_zero h0)⟩
  · refine ⟨_, cap, rfl, hn, hm, .inr ⟨g, 0, rfl, (Array.getElem?_eq_some_iff.1 hg).1, fun j hj => ?_⟩⟩
    have hc := World.ownsRow.cells (w := w) (base := base) (e := 5) (size := 1) (v := .slice (some ⟨g, 0, none⟩) bs.length cap) (n := bs.length) (xs := bvs bs) ⟨h1, .inr ⟨g, cap, cur, rfl, hb, hg, hn, hm, hs, hx⟩⟩ (g := g) rfl j (.int .u8 (bs[j].toNat : Int)) (by simp [bvs, hj])
    have hadd : (⟨g, 0, none⟩ : Addr).add j = ⟨g, j, none⟩ := by unfold Addr.add; split <;> simp_all
    rw [hadd] at hc
    rw [Nat.zero_add]
    exact hc

def copiedBytes : List UInt8 := encOf 10 4 [0, 3, 0, 0, 0, 0, 258, 0, 0, 0] []
theorem copied_ok : dOk copiedBytes = true := by kernel_rfl
theorem copied_nums : gNums copiedBytes = [0, 3, 0, 0, 0, 0, 258, 0, 0, 0] := by kernel_rfl
theorem copied_from : gFrom copiedBytes = 4 := by kernel_rfl

theorem made_rest (w : World) (s : ByteArray) (hs : s.size ≤ maxLen) (fr : Nat × Nat) :
    restAt (w.alloc (Obj.cells (bytesRow s (grownCap w s.size 0 5)) 5 fr)).drew (w.alloc (Obj.cells (bytesRow s (grownCap w s.size 0 5)) 5 fr)).drew.heap.size (.slice (some ⟨w.heap.size, 0, none⟩) s.size (grownCap w s.size 0 5)) s.data.toList := by
  have e : s.data.toList.length = s.size := Array.length_toList
  refine ⟨some ⟨w.heap.size, 0, none⟩, grownCap w s.size 0 5, by rw [e], by rw [e]; exact grownCap_ge _ _ _ _, grownCap_le_maxLen _ _ _ _ hs, .inr ⟨w.heap.size, 0, rfl, ?_, fun j hj => ?_⟩⟩
  · show w.heap.size < (w.alloc _).heap.size
    simp
  · have h1 : (w.alloc (Obj.cells (bytesRow s (grownCap w s.size 0 5)) 5 fr)).drew.cell? ⟨w.heap.size, 0 + j, none⟩ = (bytesRow s (grownCap w s.size 0 5))[0 + j]? :=
      cell_of_row (w.alloc (Obj.cells (bytesRow s (grownCap w s.size 0 5)) 5 fr)).drew w.heap.size (0 + j) _ 5 fr (heap_alloc_new w _)
    rw [h1, Nat.zero_add, bytesRow_at s _ j (by simpa using hj)]
    simp
theorem strOf_data (s : ByteArray) : strOf s.data.toList = s := by
  cases s; simp [strOf]
theorem gIs_list {bs : List UInt8} (h : dOk bs = true) : gIs bs = true ∧ gEnc bs = bs := by
  unfold dOk at h
  rw [Bool.and_eq_true] at h
  exact ⟨h.1, by simpa using h.2⟩
theorem gNums_at {bs : List UInt8} {n1 n2 n3 n4 n5 n6 n7 n8 n9 : Int} (h : gNums bs = [0, n1, n2, n3, n4, n5, n6, n7, n8, n9]) : n6 = (gNums bs).getD 6 0 := by rw [h]; rfl

set_option maxHeartbeats 1000000 in
theorem canon_any (s : ByteArray) (w : World) (ht : Tabs w) (hs : s.size ≤ maxLen) :
    Calls Tryd.prog 4 #[.string s] w fun e w' => e = .returned (.bool true) ∧ Below w.heap.size w w' := by
  have tw := ht.two
  have hconv := fun w => run_bytes_of_string (P := Tryd.prog) w 9 26 5 s Tryd.underlying9 Tryd.underlying26 Tryd.underlying5
  go_enter Tryd.func4, Tryd.ntmps4
  go_wp2_with fail
  refine (kEncode_yes 10 4 3 0 0 0 0 258 0 0 none [] 0 w ht (.inl rfl) (by kernel_rfl)).mono ?_
  rintro r w1 ⟨x1, rfl, hx1, hb1⟩
  have hx1' : OwnB w1 w.heap.size x1 copiedBytes := hx1
  have ht1 := ht.below hb1 tw
  clear hx1
  go_wp2_with fail
  refine (kDecode_any copiedBytes x1 w1 ht1 hx1'.rest).mono ?_
  rintro r w2 ⟨hb2, h⟩
  have ht2 := ht1.below hb2 ht1.two
  obtain ⟨_, n1, n2, n3, n4, n5, n6, n7, n8, l, rfl, hg, ho⟩ := h.resolve_right (by rintro ⟨hd, _⟩; rw [copied_ok] at hd; cases hd)
  clear h
  have e6 : n6 = 258 := by rw [gNums_at hg, copied_nums]; rfl
  have hb02 := hb1.trans (hb2.mono hb1.size)
  rw [copied_from, e6]
  clear hg e6 hx1' hb1 hb2
  obtain ⟨la, lc, rfl⟩ := ho.shape
  clear ho
  go_wp2_with fail
  have ht3 : Tabs (w2.alloc (Obj.cells #[Value.int IntKind.i64 (gKind copiedBytes), Value.int IntKind.i64 4, Value.int IntKind.i64 n1, Value.int IntKind.i64 n2, Value.int IntKind.i64 n3, Value.int IntKind.i64 n4, Value.int IntKind.i64 n5, Value.int IntKind.i64 258, Value.int IntKind.i64 n7, Value.int IntKind.i64 n8, Value.slice la (gEnd copiedBytes).vals.length lc] 24)) := ht2.below ((Below.refl w2.heap.size w2).alloc (Nat.le_refl _) _) ht2.two
  refine (kEncode_no 10 0 0 1 0 0 0 0 0 0 none 0 0 _ ht3 (by kernel_rfl)).mono ?_
  rintro r w4 ⟨rfl, hb4⟩
  have hs4 : w2.heap.size < w4.heap.size := by have := hb4.size; simp at this; omega
  have hc7 : w4.cell? ⟨w2.heap.size, 7, none⟩ = some (.int .i64 258) := (hb4.cell (by simp)).trans (World.cell?_alloc_at _ _ _ _ rfl)
  have hc1 : w4.cell? ⟨w2.heap.size, 1, none⟩ = some (.int .i64 4) := (hb4.cell (by simp)).trans (World.cell?_alloc_at _ _ _ _ rfl)
  have ht4 : Tabs w4 := ht3.below hb4 ht3.two
  have hb04 : Below w.heap.size w w4 := hb02.trans ((((Below.refl w2.heap.size w2).alloc (Nat.le_refl _) _).trans (hb4.mono (by simp))).mono hb02.size)
  clear hb4 ht3 ht2 hb02 ht1
  go_wp2_with fail
  have hr5 := made_rest w4 s hs ((bytesRow s (grownCap w4 s.size 0 5)).size, (bytesRow s (grownCap w4 s.size 0 5)).size + 1)
  have hb45 : Below w4.heap.size w4 (w4.alloc (Obj.cells (bytesRow s (grownCap w4 s.size 0 5)) 5 ((bytesRow s (grownCap w4 s.size 0 5)).size, (bytesRow s (grownCap w4 s.size 0 5)).size + 1))).drew := ((Below.refl _ _).alloc (Nat.le_refl _) _).drew
  have ht5 := ht4.below hb45 ht4.two
  have hb05 := hb04.trans (hb45.mono hb04.size)
  clear hconv hc7 hc1 hb04 hb45
  generalize (w4.alloc (Obj.cells (bytesRow s (grownCap w4 s.size 0 5)) 5 ((bytesRow s (grownCap w4 s.size 0 5)).size, (bytesRow s (grownCap w4 s.size 0 5)).size + 1))).drew = w5 at *
  refine (kDecode_any s.data.toList _ w5 ht5 hr5).mono ?_
  rintro r w6 ⟨hb6, h⟩
  have hb06 := hb05.trans (hb6.mono hb05.size)
  have ht6 := ht5.below hb6 ht5.two
  rcases h with ⟨hd, m1, m2, m3, m4, m5, m6, m7, m8, l6, rfl, hg, ho⟩ | ⟨hd, rfl⟩
  · obtain ⟨hi, he⟩ := gIs_list hd
    obtain ⟨la6, lc6, rfl⟩ := ho.shape
    have hints := ho.ints.2
    have hm : isMsg (gKind s.data.toList) (gFrom s.data.toList) [0, m1, m2, m3, m4, m5, m6, m7, m8, ((gEnd s.data.toList).vals.length : Int)] = true := by
      rw [← hg]; exact hi
    have hE : encOf (gKind s.data.toList).toNat (gFrom s.data.toList).toNat [0, m1, m2, m3, m4, m5, m6, m7, m8, ((gEnd s.data.toList).vals.length : Int)] (gEnd s.data.toList).vals = s.data.toList := by
      rw [← hg]; exact he
    clear hg hd hi he ho hr5
    generalize (gEnd s.data.toList).vals = VS at *
    generalize gKind s.data.toList = GK at *
    generalize gFrom s.data.toList = GF at *
    have HM : Hid _ := hm
    have HE : Hid _ := hE
    clear hm hE
    go_wp2_with fail
    have hb7 := (Below.refl w6.heap.size w6).alloc (Nat.le_refl _) (Obj.cells #[Value.int IntKind.i64 GK, Value.int IntKind.i64 GF, Value.int IntKind.i64 m1, Value.int IntKind.i64 m2, Value.int IntKind.i64 m3, Value.int IntKind.i64 m4, Value.int IntKind.i64 m5, Value.int IntKind.i64 m6, Value.int IntKind.i64 m7, Value.int IntKind.i64 m8, Value.slice la6 VS.length lc6] 24)
    refine (kEncode_yes GK GF m1 m2 m3 m4 m5 m6 m7 m8 la6 VS lc6 _ (ht6.below hb7 ht6.two) (hints.later hb7) HM.out).mono ?_
    rintro r w8 ⟨x8, rfl, hx8, hb8⟩
    rw [HE.out] at hx8
    have hc8 := conv_bytes hx8.bytesAt
    rw [strOf_data] at hc8
    have hb08 := hb06.trans ((hb7.trans (hb8.mono (by simp))).mono hb06.size)
    clear hx8 hb7 hb8
    go_wp2
    go_ret
    exact ⟨by simp, hb08⟩
  · clear hr5
    go_wp2
    go_ret
    exact ⟨rfl, hb06.alloc hb06.size _⟩

end Go.Proofs.YtdcainmlcpafbaaDoor
