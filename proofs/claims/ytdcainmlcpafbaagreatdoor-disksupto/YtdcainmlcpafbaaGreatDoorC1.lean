import Derived.Test.YtdcainmlcpafbaaGreatDoorA9
namespace Go.Proofs.YtdcainmlcpafbaaGreatDoor
open Go.RowKit
theorem OwnB.rest {w : World} {base : Nat} {v : Value} {bs : List UInt8} (h : OwnB w base v bs) : restAt w w.heap.size v bs := by
  obtain ⟨h1, h2⟩ := h
  rcases h2 with ⟨rfl, h0⟩ | ⟨g, cap, cur, rfl, hb, hg, hn, hm, hs, hx⟩
  · exact ⟨none, 0, by simp [h0], by omega, by simp [maxLen], .inl (List.eq_nil_of_length_eq_zero h0)⟩
  · refine ⟨_, cap, rfl, hn, hm, .inr ⟨g, 0, rfl, (Array.getElem?_eq_some_iff.1 hg).1, fun j hj => ?_⟩⟩
    have hc := World.ownsRow.cells (w := w) (base := base) (e := 5) (size := 1) (v := .slice (some ⟨g, 0, none⟩) bs.length cap) (n := bs.length) (xs := bvs bs) ⟨h1, .inr ⟨g, cap, cur, rfl, hb, hg, hn, hm, hs, hx⟩⟩ (g := g) rfl j (.int .u8 (bs[j].toNat : Int)) (by simp [bvs, hj])
    have hadd : (⟨g, 0, none⟩ : Addr).add j = ⟨g, j, none⟩ := by unfold Addr.add; split <;> simp_all
    rw [hadd] at hc
    rw [Nat.zero_add]
    exact hc

theorem made_rest (w : World) (s : ByteArray) (hs : s.size ≤ maxLen) (fr : Nat × Nat) :
    restAt (w.alloc (Obj.cells (bytesRow s (grownCap w s.size 0 5)) 5 fr)).drew (w.alloc (Obj.cells (bytesRow s (grownCap w s.size 0 5)) 5 fr)).drew.heap.size (.slice (some ⟨w.heap.size, 0, none⟩) s.size (grownCap w s.size 0 5)) s.data.toList := by
  have e : s.data.toList.length = s.size := Array.length_toList
  refine ⟨some ⟨w.heap.size, 0, none⟩, grownCap w s.size 0 5, by rw [e], by rw [e]; exact grownCap_ge _ _ _ _, grownCap_le_maxLen _ _ _ _ hs, .inr ⟨w.heap.size, 0, rfl, ?_, fun j hj => ?_⟩⟩
  · show w.heap.size < (w.alloc _).heap.size
    simp
  · have h1 : (w.alloc (Obj.cells (bytesRow s (grownCap w s.size 0 5)) 5 fr)).drew.cell? ⟨w.heap.size, 0 + j, none⟩ = (bytesRow s (grownCap w s.size 0 5))[0 + j]? :=
      cell_of_row (w.alloc (Obj.cells (bytesRow s (grownCap w s.size 0 5)) 5 fr)).drew w.heap.size (0 + j) _ 5 fr (heap_alloc_new w _)
    rw [h1, Nat.zero_add, bytesRow_at s _ j (by simpa using hj)]
    simp
theorem strOf_data (s : ByteArray) : strOf s.data.toList = s := by
  cases s; simp [strOf]
theorem gIs_list {bs : List UInt8} (h : dOk bs = true) : gIs bs = true ∧ gEnc bs = bs := by
  unfold dOk at h
  rw [Bool.and_eq_true] at h
  exact ⟨h.1, by simpa using h.2⟩
theorem gNums_at {bs : List UInt8} {n1 n2 n3 n4 n5 n6 n7 n8 n9 : Int} (h : gNums bs = [0, n1, n2, n3, n4, n5, n6, n7, n8, n9]) : n6 = (gNums bs).getD 6 0 := by rw [h]; rfl

end Go.Proofs.YtdcainmlcpafbaaGreatDoor
