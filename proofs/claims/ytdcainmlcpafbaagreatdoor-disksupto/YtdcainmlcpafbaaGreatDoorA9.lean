import Derived.Test.YtdcainmlcpafbaaGreatDoorA8
namespace Go.Proofs.YtdcainmlcpafbaaGreatDoor
open Go.RowKit

theorem decode_any (bs : List UInt8) (v : Value) (w : World) (ht : Tabs w) (hr : restAt w w.heap.size v bs) :
    Calls Tryz.prog 158 #[v] w fun e w' => Below w.heap.size w w' ∧ ((dOk bs = true ∧ ∃ n1 n2 n3 n4 n5 n6 n7 n8 l, e = .returned (.tuple #[.agg #[.int .i64 (gKind bs), .int .i64 (gFrom bs), .int .i64 n1, .int .i64 n2, .int .i64 n3, .int .i64 n4, .int .i64 n5, .int .i64 n6, .int .i64 n7, .int .i64 n8, l], .int .i64 0]) ∧
      gNums bs = [0, n1, n2, n3, n4, n5, n6, n7, n8, ((gEnd bs).vals.length : Int)] ∧ OwnI w' w.heap.size l (gEnd bs).vals) ∨
      (dOk bs = false ∧ e = .returned (.tuple #[.agg #[Value.int IntKind.i64 0, Value.int IntKind.i64 0, Value.int IntKind.i64 0, Value.int IntKind.i64 0, Value.int IntKind.i64 0, Value.int IntKind.i64 0, Value.int IntKind.i64 0, Value.int IntKind.i64 0, Value.int IntKind.i64 0, Value.int IntKind.i64 0, Value.slice none 0 0], .int .i64 2]))) := by
  by_cases hK : gKind bs < 11
  · exact decode_near bs v w ht hr hK
  · refine (decode_far bs v w ht hr (by omega)).mono ?_
    rintro e w' ⟨h1, h2⟩
    refine ⟨h1, .inr ⟨?_, h2⟩⟩
    have : outB (gKind bs) (gFrom bs) = true := by simp [outB]; omega
    simp [dOk, gIs, isMsg, this]

set_option maxHeartbeats 400000 in
set_option maxRecDepth 20000 in
theorem kEncode_yes (k f e b wa p s q bl v : Int) (a : Option Addr) (zs : List Int) (c : Nat) (w : World) (ht : Tabs w) (hz : intsAt w a zs) (hm : isMsg k f [0, e, b, wa, p, s, q, bl, v, (zs.length : Int)] = true) :
    Calls Tryz.prog 98 #[.agg #[.int .i64 k, .int .i64 f, .int .i64 e, .int .i64 b, .int .i64 wa, .int .i64 p, .int .i64 s, .int .i64 q, .int .i64 bl, .int .i64 v, .slice a zs.length c]] w fun r w' =>
      ∃ x, r = .returned (.tuple #[x, .int .i64 0]) ∧ OwnB w' w.heap.size x (encOf k.toNat f.toNat [0, e, b, wa, p, s, q, bl, v, (zs.length : Int)] zs) ∧ Below w.heap.size w w' := by
  have tw := ht.two
  have hb0 := (Below.refl w.heap.size w).alloc (Nat.le_refl _) (Obj.cells #[Value.int IntKind.i64 k, Value.int IntKind.i64 f, Value.int IntKind.i64 e, Value.int IntKind.i64 b, Value.int IntKind.i64 wa, Value.int IntKind.i64 p, Value.int IntKind.i64 s, Value.int IntKind.i64 q, Value.int IntKind.i64 bl, Value.int IntKind.i64 v, Value.slice a zs.length c] 136)
  go_enter Tryz.func98, Tryz.ntmps98
  go_wp2_with fail
  refine (encode_yes k f e b wa p s q bl v a zs c _ (ht.below hb0 (by omega)) (hz.later hb0) hm).mono ?_
  rintro r w1 ⟨x, rfl, hx, hb1⟩
  go_wp2
  go_ret2
  exact ⟨x, rfl, hx.low (by simp), hb0.trans (hb1.mono (by simp))⟩

set_option maxHeartbeats 400000 in
set_option maxRecDepth 20000 in
theorem kEncode_no (k f e b wa p s q bl v : Int) (a : Option Addr) (n c : Nat) (w : World) (ht : Tabs w) (hm : isMsg k f [0, e, b, wa, p, s, q, bl, v, (n : Int)] = false) :
    Calls Tryz.prog 98 #[.agg #[.int .i64 k, .int .i64 f, .int .i64 e, .int .i64 b, .int .i64 wa, .int .i64 p, .int .i64 s, .int .i64 q, .int .i64 bl, .int .i64 v, .slice a n c]] w fun r w' =>
      r = .returned (.tuple #[.slice none 0 0, .int .i64 1]) ∧ Below w.heap.size w w' := by
  have tw := ht.two
  have hb0 := (Below.refl w.heap.size w).alloc (Nat.le_refl _) (Obj.cells #[Value.int IntKind.i64 k, Value.int IntKind.i64 f, Value.int IntKind.i64 e, Value.int IntKind.i64 b, Value.int IntKind.i64 wa, Value.int IntKind.i64 p, Value.int IntKind.i64 s, Value.int IntKind.i64 q, Value.int IntKind.i64 bl, Value.int IntKind.i64 v, Value.slice a n c] 136)
  go_enter Tryz.func98, Tryz.ntmps98
  go_wp2_with fail
  refine (encode_no k f e b wa p s q bl v a n c _ (ht.below hb0 (by omega)) hm).mono ?_
  rintro r w1 ⟨rfl, hb1⟩
  go_wp2
  go_ret2
  exact ⟨rfl, hb0.trans (hb1.mono (by simp))⟩

set_option maxHeartbeats 400000 in
set_option maxRecDepth 20000 in
theorem kDecode_any (bs : List UInt8) (v : Value) (w : World) (ht : Tabs w) (hr : restAt w w.heap.size v bs) :
    Calls Tryz.prog 103 #[v] w fun e w' => Below w.heap.size w w' ∧ ((dOk bs = true ∧ ∃ n1 n2 n3 n4 n5 n6 n7 n8 l, e = .returned (.tuple #[.agg #[.int .i64 (gKind bs), .int .i64 (gFrom bs), .int .i64 n1, .int .i64 n2, .int .i64 n3, .int .i64 n4, .int .i64 n5, .int .i64 n6, .int .i64 n7, .int .i64 n8, l], .int .i64 0]) ∧
      gNums bs = [0, n1, n2, n3, n4, n5, n6, n7, n8, ((gEnd bs).vals.length : Int)] ∧ OwnI w' w.heap.size l (gEnd bs).vals) ∨
      (dOk bs = false ∧ e = .returned (.tuple #[.agg #[Value.int IntKind.i64 0, Value.int IntKind.i64 0, Value.int IntKind.i64 0, Value.int IntKind.i64 0, Value.int IntKind.i64 0, Value.int IntKind.i64 0, Value.int IntKind.i64 0, Value.int IntKind.i64 0, Value.int IntKind.i64 0, Value.int IntKind.i64 0, Value.slice none 0 0], .int .i64 2]))) := by
  have tw := ht.two
  have hb0 := (Below.refl w.heap.size w).alloc (Nat.le_refl _) (Obj.cells #[Value.int IntKind.i64 0, Value.int IntKind.i64 0, Value.int IntKind.i64 0, Value.int IntKind.i64 0, Value.int IntKind.i64 0, Value.int IntKind.i64 0, Value.int IntKind.i64 0, Value.int IntKind.i64 0, Value.int IntKind.i64 0, Value.int IntKind.i64 0, Value.slice none 0 0] 136)
  have hr0 := (hr.keep fun b o hlt => hb0.cell (p := ⟨b, o, none⟩) hlt).wide (show w.heap.size ≤ (w.alloc (Obj.cells #[Value.int IntKind.i64 0, Value.int IntKind.i64 0, Value.int IntKind.i64 0, Value.int IntKind.i64 0, Value.int IntKind.i64 0, Value.int IntKind.i64 0, Value.int IntKind.i64 0, Value.int IntKind.i64 0, Value.int IntKind.i64 0, Value.int IntKind.i64 0, Value.slice none 0 0] 136)).heap.size by simp)
  go_enter Tryz.func103, Tryz.ntmps103
  go_wp2_with fail
  refine (decode_any bs v _ (ht.below hb0 (by omega)) hr0).mono ?_
  rintro r w1 ⟨hb1, h⟩
  have zc1 : ∀ i, w1.cell? ⟨w.heap.size, i, none⟩ = #[Value.int IntKind.i64 0, Value.int IntKind.i64 0, Value.int IntKind.i64 0, Value.int IntKind.i64 0, Value.int IntKind.i64 0, Value.int IntKind.i64 0, Value.int IntKind.i64 0, Value.int IntKind.i64 0, Value.int IntKind.i64 0, Value.int IntKind.i64 0, Value.slice none 0 0][i]? := fun i => (hb1.cell (by simp)).trans (World.cell?_alloc_at _ _ _ _ rfl)
  have zf1 : ∀ i, w1.frozen? ⟨w.heap.size, i, none⟩ = false := fun i => (hb1.frozen (by simp)).trans (World.frozen?_alloc_at _ _ _ _ rfl)
  have hbf := hb0.trans (hb1.mono (by simp))
  have hs0 : (w.alloc (Obj.cells #[Value.int IntKind.i64 0, Value.int IntKind.i64 0, Value.int IntKind.i64 0, Value.int IntKind.i64 0, Value.int IntKind.i64 0, Value.int IntKind.i64 0, Value.int IntKind.i64 0, Value.int IntKind.i64 0, Value.int IntKind.i64 0, Value.int IntKind.i64 0, Value.slice none 0 0] 136)).heap.size = w.heap.size + 1 := by simp
  rcases h with ⟨hd, n1, n2, n3, n4, n5, n6, n7, n8, l, rfl, hg, ho⟩ | ⟨hd, rfl⟩
  · rw [hs0] at ho
    obtain ⟨la, lc, rfl⟩ := ho.shape
    have HG : Hid _ := hg
    have HD : Hid _ := hd
    clear hg hd hb1 hr0 hr hb0 hs0
    go_wp2
    obtain ⟨W, hW, ⟨c0, c1, c2, c3, c4, c5, c6, c7, c8, c9, c10⟩, hbut, hbl⟩ := put11 w1 w.heap.size (.int .i64 (gKind bs)) (.int .i64 (gFrom bs)) (.int .i64 n1) (.int .i64 n2) (.int .i64 n3) (.int .i64 n4) (.int .i64 n5) (.int .i64 n6) (.int .i64 n7) (.int .i64 n8) (.slice la (gEnd bs).vals.length lc) (fun i hi => by rw [zc1]; simp; omega)
    have hownW := (ho.but hbut (by omega)).low (show w.heap.size ≤ w.heap.size + 1 by omega)
    rw [hW]
    clear hW zc1 zf1 ho hbut
    exact bodyPost_ret (v := .tuple #[.agg #[.int .i64 (gKind bs), .int .i64 (gFrom bs), .int .i64 n1, .int .i64 n2, .int .i64 n3, .int .i64 n4, .int .i64 n5, .int .i64 n6, .int .i64 n7, .int .i64 n8, .slice la (gEnd bs).vals.length lc], .int .i64 0]) (by simp [results, Tryz.results103, go_sem, c0, c1, c2, c3, c4, c5, c6, c7, c8, c9, c10]) rfl ⟨hbl _ _ (Nat.le_refl _) hbf, .inl ⟨HD.out, n1, n2, n3, n4, n5, n6, n7, n8, _, rfl, HG.out, hownW⟩⟩
  · have HD : Hid _ := hd
    clear hd hb1 hr0 hr hb0 hs0
    go_wp2
    obtain ⟨W, hW, ⟨c0, c1, c2, c3, c4, c5, c6, c7, c8, c9, c10⟩, _, hbl⟩ := put11 w1 w.heap.size (.int .i64 0) (.int .i64 0) (.int .i64 0) (.int .i64 0) (.int .i64 0) (.int .i64 0) (.int .i64 0) (.int .i64 0) (.int .i64 0) (.int .i64 0) (.slice none 0 0) (fun i hi => by rw [zc1]; simp; omega)
    rw [hW]
    clear hW zc1 zf1
    exact bodyPost_ret (v := .tuple #[.agg #[Value.int IntKind.i64 0, Value.int IntKind.i64 0, Value.int IntKind.i64 0, Value.int IntKind.i64 0, Value.int IntKind.i64 0, Value.int IntKind.i64 0, Value.int IntKind.i64 0, Value.int IntKind.i64 0, Value.int IntKind.i64 0, Value.int IntKind.i64 0, Value.slice none 0 0], .int .i64 2]) (by simp [results, Tryz.results103, go_sem, c0, c1, c2, c3, c4, c5, c6, c7, c8, c9, c10]) rfl ⟨hbl _ _ (Nat.le_refl _) hbf, .inr ⟨HD.out, rfl⟩⟩

end Go.Proofs.YtdcainmlcpafbaaGreatDoor
