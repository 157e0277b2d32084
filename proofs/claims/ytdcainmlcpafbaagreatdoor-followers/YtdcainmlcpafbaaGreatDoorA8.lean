import Derived.Test.YtdcainmlcpafbaaGreatDoorB1
import Derived.Laws.IdiomStrings
import Derived.Laws.BytesArg
namespace Go.Proofs.YtdcainmlcpafbaaGreatDoor
open Go.RowKit

def strOf (bs : List UInt8) : ByteArray := ⟨bs.toArray⟩
theorem conv_bytes {w : World} {v : Value} {bs : List UInt8} (h : bytesAt w v bs) : (convert 148 9 v).run Tryz.prog w = .ok (.string (strOf bs)) w := by
  obtain ⟨ao, cap, rfl, _, _, h4⟩ := h
  rcases h4 with rfl | ⟨g, off, rfl, hc⟩
  · cases ao with
    | none => exact run_convert_bytes_nil w 148 5 Tryz.underlying148 Tryz.underlying5 0 cap 9 Tryz.underlying9
    | some a => exact run_convert_bytes_back w 148 9 5 a cap [] Tryz.underlying148 Tryz.underlying5 Tryz.underlying9 (fun j hj => by simp at hj)
  · exact run_convert_bytes_back w 148 9 5 ⟨g, off, none⟩ cap bs Tryz.underlying148 Tryz.underlying5 Tryz.underlying9 (fun j hj => by
      have hadd : (⟨g, off, none⟩ : Addr).add j = ⟨g, off + j, none⟩ := by unfold Addr.add; split <;> simp_all
      rw [hadd]; exact hc j hj)

set_option maxHeartbeats 400000 in
set_option maxRecDepth 20000 in
theorem equal_any (v1 v2 : Value) (b1 b2 : List UInt8) (w : World) (h1 : bytesAt w v1 b1) (h2 : bytesAt w v2 b2) :
    Calls Tryz.prog 216 #[v1, v2] w fun e w' => e = .returned (.bool (b1 == b2)) ∧ w' = w := by
  have c1 := conv_bytes h1
  have c2 := conv_bytes h2
  have H : Hid (((strOf b1).toList == (strOf b2).toList) = (b1 == b2)) := by
    unfold Hid
    rw [← beq_toListBytes]
    show ((⟨b1⟩ : Array UInt8) == ⟨b2⟩) = (b1 == b2)
    simp
  go_enter Tryz.func216, Tryz.ntmps216
  go_wp2
  go_ret
  exact ⟨congrArg (fun b => Ending.returned (.bool b)) H.out, rfl⟩

theorem isMsg_len {k f e b wa p s q bl v : Int} {n : Nat} (h : isMsg k f [0, e, b, wa, p, s, q, bl, v, (n : Int)] = true) : 1 ≤ k ∧ k ≤ 10 ∧ 0 ≤ f ∧ f < 5 ∧ n ≤ 4 := by
  unfold isMsg at h
  rw [Bool.and_eq_true] at h
  obtain ⟨h1, h2⟩ := h
  have h3 : ¬ (k < 1 ∨ 10 < k ∨ f < 0 ∨ 5 ≤ f) := by simpa [outB] using h1
  refine ⟨by omega, by omega, by omega, by omega, ?_⟩
  obtain ⟨K, rfl⟩ := Int.eq_ofNat_of_zero_le (show 0 ≤ k by omega)
  rw [show (K : Int).toNat = K by simp] at h2
  have hK : 1 ≤ K ∧ K ≤ 10 := by omega
  match K, hK with
  | 1, _ => rw [isMsg_1] at h2; omega
  | 2, _ => rw [isMsg_2] at h2; omega
  | 3, _ => rw [isMsg_3] at h2; omega
  | 4, _ => rw [isMsg_4] at h2; omega
  | 5, _ => rw [isMsg_5] at h2; omega
  | 6, _ => rw [isMsg_6] at h2; omega
  | 7, _ => rw [isMsg_7] at h2; omega
  | 8, _ => rw [isMsg_8] at h2; omega
  | 9, _ => rw [isMsg_9] at h2; omega
  | 10, _ => rw [isMsg_10] at h2; omega

theorem OwnI.ints {w : World} {base : Nat} {a : Option Addr} {n c : Nat} {zs : List Int} (h : OwnI w base (.slice a n c) zs) : n = zs.length ∧ intsAt w a zs := by
  have h0 := h
  obtain ⟨h1, h2⟩ := h
  rcases h2 with ⟨he, hn0⟩ | ⟨g, cap, cur, he, hb, hg, hn, hm, hs, hx⟩
  · cases he
    exact ⟨hn0.symm, .inl (List.eq_nil_of_length_eq_zero hn0)⟩
  · cases he
    refine ⟨rfl, .inr ⟨g, 0, rfl, (Array.getElem?_eq_some_iff.1 hg).1, fun j hj => ?_⟩⟩
    have hc := World.ownsRow.cells h0 (g := g) rfl j (.int .i64 zs[j]) (by simp [hj])
    have hadd : (⟨g, 0, none⟩ : Addr).add j = ⟨g, j, none⟩ := by unfold Addr.add; split <;> simp_all
    rw [hadd] at hc
    rw [Nat.zero_add]
    exact hc

/-- Encode, of whatever message. -/
theorem encode_yes (k f e b wa p s q bl v : Int) (a : Option Addr) (zs : List Int) (c : Nat) (w : World) (ht : Tabs w) (hz : intsAt w a zs) (hm : isMsg k f [0, e, b, wa, p, s, q, bl, v, (zs.length : Int)] = true) :
    Calls Tryz.prog 157 #[.agg #[.int .i64 k, .int .i64 f, .int .i64 e, .int .i64 b, .int .i64 wa, .int .i64 p, .int .i64 s, .int .i64 q, .int .i64 bl, .int .i64 v, .slice a zs.length c]] w fun r w' =>
      ∃ x, r = .returned (.tuple #[x, .int .i64 0]) ∧ OwnB w' w.heap.size x (encOf k.toNat f.toNat [0, e, b, wa, p, s, q, bl, v, (zs.length : Int)] zs) ∧ Below w.heap.size w w' := by
  obtain ⟨h1, h2, h3, h4, h5⟩ := isMsg_len hm
  unfold isMsg at hm
  rw [Bool.and_eq_true] at hm
  obtain ⟨K, rfl⟩ := Int.eq_ofNat_of_zero_le (show 0 ≤ k by omega)
  obtain ⟨F, rfl⟩ := Int.eq_ofNat_of_zero_le h3
  exact encode_in K F e b wa p s q bl v a zs c w (by omega) (by omega) (by omega) ht h5 hz hm.2

/-- The numbers of what guess tells, as numbersOf lays them out. -/
def gNums (bs : List UInt8) : List Int := ((gEnd bs).nums.set 0 0).set 9 ((gEnd bs).vals.length : Int)
def gEnc (bs : List UInt8) : List UInt8 := encOf (gKind bs).toNat (gFrom bs).toNat (gNums bs) (gEnd bs).vals
def gIs (bs : List UInt8) : Bool := isMsg (gKind bs) (gFrom bs) (gNums bs)
/-- Are they a message's bytes? -/
def dOk (bs : List UInt8) : Bool := gIs bs && (gEnc bs == bs)

theorem restAt.wide {w : World} {lim lim' : Nat} {v : Value} {bs : List UInt8} (h : restAt w lim v bs) (hl : lim ≤ lim') : restAt w lim' v bs := by
  obtain ⟨ao, cap, h1, h2, h3, h4⟩ := h
  refine ⟨ao, cap, h1, h2, h3, ?_⟩
  rcases h4 with h4 | ⟨g, off, e, hg, hc⟩
  · exact .inl h4
  · exact .inr ⟨g, off, e, by omega, hc⟩
theorem intsAt.later {w w' : World} {a : Option Addr} {zs : List Int} (h : intsAt w a zs) (hb : Below w.heap.size w w') : intsAt w' a zs := by
  rcases h with h | ⟨g, off, e, hg, hc⟩
  · exact .inl h
  · exact .inr ⟨g, off, e, Nat.lt_of_lt_of_le hg hb.size, fun j hj => (hb.cell (by exact hg)).trans (hc j hj)⟩
theorem restAt.bytes {w : World} {lim : Nat} {v : Value} {bs : List UInt8} (h : restAt w lim v bs) : bytesAt w v bs := by
  obtain ⟨ao, cap, h1, h2, h3, h4⟩ := h
  refine ⟨ao, cap, h1, h2, h3, ?_⟩
  rcases h4 with h4 | ⟨g, off, e, _, hc⟩
  · exact .inl h4
  · exact .inr ⟨g, off, e, hc⟩

theorem zero24 (w : World) : (∀ i, (w.alloc (Obj.cells #[Value.int IntKind.i64 0, Value.int IntKind.i64 0, Value.int IntKind.i64 0, Value.int IntKind.i64 0, Value.int IntKind.i64 0, Value.int IntKind.i64 0, Value.int IntKind.i64 0, Value.int IntKind.i64 0, Value.int IntKind.i64 0, Value.int IntKind.i64 0, Value.slice none 0 0] 136)).cell? ⟨w.heap.size, i, none⟩ = #[Value.int IntKind.i64 0, Value.int IntKind.i64 0, Value.int IntKind.i64 0, Value.int IntKind.i64 0, Value.int IntKind.i64 0, Value.int IntKind.i64 0, Value.int IntKind.i64 0, Value.int IntKind.i64 0, Value.int IntKind.i64 0, Value.int IntKind.i64 0, Value.slice none 0 0][i]?) ∧ (∀ i, (w.alloc (Obj.cells #[Value.int IntKind.i64 0, Value.int IntKind.i64 0, Value.int IntKind.i64 0, Value.int IntKind.i64 0, Value.int IntKind.i64 0, Value.int IntKind.i64 0, Value.int IntKind.i64 0, Value.int IntKind.i64 0, Value.int IntKind.i64 0, Value.int IntKind.i64 0, Value.slice none 0 0] 136)).frozen? ⟨w.heap.size, i, none⟩ = false) :=
  ⟨fun _ => World.cell?_alloc_at _ _ _ _ rfl, fun _ => World.frozen?_alloc_at _ _ _ _ rfl⟩

set_option maxHeartbeats 1000000 in
set_option maxRecDepth 20000 in
theorem decode_near (bs : List UInt8) (v : Value) (w : World) (ht : Tabs w) (hr : restAt w w.heap.size v bs) (hK : gKind bs < 11) :
    Calls Tryz.prog 158 #[v] w fun e w' => Below w.heap.size w w' ∧ ((dOk bs = true ∧ ∃ n1 n2 n3 n4 n5 n6 n7 n8 l, e = .returned (.tuple #[.agg #[.int .i64 (gKind bs), .int .i64 (gFrom bs), .int .i64 n1, .int .i64 n2, .int .i64 n3, .int .i64 n4, .int .i64 n5, .int .i64 n6, .int .i64 n7, .int .i64 n8, l], .int .i64 0]) ∧
      gNums bs = [0, n1, n2, n3, n4, n5, n6, n7, n8, ((gEnd bs).vals.length : Int)] ∧ OwnI w' w.heap.size l (gEnd bs).vals) ∨
      (dOk bs = false ∧ e = .returned (.tuple #[.agg #[Value.int IntKind.i64 0, Value.int IntKind.i64 0, Value.int IntKind.i64 0, Value.int IntKind.i64 0, Value.int IntKind.i64 0, Value.int IntKind.i64 0, Value.int IntKind.i64 0, Value.int IntKind.i64 0, Value.int IntKind.i64 0, Value.int IntKind.i64 0, Value.slice none 0 0], .int .i64 2]))) := by
  have tw := ht.two
  have hb0 : Below w.heap.size w (w.alloc (Obj.cells #[Value.int IntKind.i64 0, Value.int IntKind.i64 0, Value.int IntKind.i64 0, Value.int IntKind.i64 0, Value.int IntKind.i64 0, Value.int IntKind.i64 0, Value.int IntKind.i64 0, Value.int IntKind.i64 0, Value.int IntKind.i64 0, Value.int IntKind.i64 0, Value.slice none 0 0] 136)) := (Below.refl _ _).alloc (Nat.le_refl _) _
  have hr0 : restAt (w.alloc (Obj.cells #[Value.int IntKind.i64 0, Value.int IntKind.i64 0, Value.int IntKind.i64 0, Value.int IntKind.i64 0, Value.int IntKind.i64 0, Value.int IntKind.i64 0, Value.int IntKind.i64 0, Value.int IntKind.i64 0, Value.int IntKind.i64 0, Value.int IntKind.i64 0, Value.slice none 0 0] 136)) (w.alloc (Obj.cells #[Value.int IntKind.i64 0, Value.int IntKind.i64 0, Value.int IntKind.i64 0, Value.int IntKind.i64 0, Value.int IntKind.i64 0, Value.int IntKind.i64 0, Value.int IntKind.i64 0, Value.int IntKind.i64 0, Value.int IntKind.i64 0, Value.int IntKind.i64 0, Value.slice none 0 0] 136)).heap.size v bs := (hr.keep fun b o hlt => hb0.cell (p := ⟨b, o, none⟩) hlt).wide (by simp)
  obtain ⟨zc, zf⟩ := zero24 w
  have ht0 : Tabs (w.alloc (Obj.cells #[Value.int IntKind.i64 0, Value.int IntKind.i64 0, Value.int IntKind.i64 0, Value.int IntKind.i64 0, Value.int IntKind.i64 0, Value.int IntKind.i64 0, Value.int IntKind.i64 0, Value.int IntKind.i64 0, Value.int IntKind.i64 0, Value.int IntKind.i64 0, Value.slice none 0 0] 136)) := ht.below hb0 (by omega)
  have hs0 : (w.alloc (Obj.cells #[Value.int IntKind.i64 0, Value.int IntKind.i64 0, Value.int IntKind.i64 0, Value.int IntKind.i64 0, Value.int IntKind.i64 0, Value.int IntKind.i64 0, Value.int IntKind.i64 0, Value.int IntKind.i64 0, Value.int IntKind.i64 0, Value.int IntKind.i64 0, Value.slice none 0 0] 136)).heap.size = w.heap.size + 1 := by simp
  go_enter Tryz.func158, Tryz.ntmps158
  go_wp2_with fail
  generalize w.alloc (Obj.cells #[Value.int IntKind.i64 0, Value.int IntKind.i64 0, Value.int IntKind.i64 0, Value.int IntKind.i64 0, Value.int IntKind.i64 0, Value.int IntKind.i64 0, Value.int IntKind.i64 0, Value.int IntKind.i64 0, Value.int IntKind.i64 0, Value.int IntKind.i64 0, Value.slice none 0 0] 136) = W0 at *
  refine (guess_near bs v W0 ht0 hr0 hK).mono ?_
  rintro e w1 ⟨n1, n2, n3, n4, n5, n6, n7, n8, n0, n9, l, rfl, hnums, hown, hb1⟩
  have HG : Hid (gNums bs = [0, n1, n2, n3, n4, n5, n6, n7, n8, ((gEnd bs).vals.length : Int)]) := by
    unfold Hid gNums; rw [hnums]; rfl
  clear hnums
  obtain ⟨la, lc, rfl⟩ := hown.shape
  have hi1 := (hown.ints).2
  have zc1 : ∀ i, w1.cell? ⟨w.heap.size, i, none⟩ = #[Value.int IntKind.i64 0, Value.int IntKind.i64 0, Value.int IntKind.i64 0, Value.int IntKind.i64 0, Value.int IntKind.i64 0, Value.int IntKind.i64 0, Value.int IntKind.i64 0, Value.int IntKind.i64 0, Value.int IntKind.i64 0, Value.int IntKind.i64 0, Value.slice none 0 0][i]? := fun i => (hb1.cell (by show w.heap.size < _; omega)).trans (zc i)
  have zf1 : ∀ i, w1.frozen? ⟨w.heap.size, i, none⟩ = false := fun i => (hb1.frozen (by show w.heap.size < _; omega)).trans (zf i)
  have hs1 := hb1.size
  have HD : Hid (dOk bs = (gIs bs && (gEnc bs == bs))) := rfl
  have HI : Hid (gIs bs = isMsg (gKind bs) (gFrom bs) [0, n1, n2, n3, n4, n5, n6, n7, n8, ((gEnd bs).vals.length : Int)]) := by
    unfold Hid gIs; rw [HG.out]
  have HC : Hid (gEnc bs = encOf (gKind bs).toNat (gFrom bs).toNat [0, n1, n2, n3, n4, n5, n6, n7, n8, ((gEnd bs).vals.length : Int)] (gEnd bs).vals) := by
    unfold Hid gEnc; rw [HG.out]
  have hr1 : restAt w1 W0.heap.size v bs := hr0.keep fun b o hlt => hb1.cell (p := ⟨b, o, none⟩) hlt
  have ht1 : Tabs w1 := ht0.below hb1 (by omega)
  have hbw1 : Below w.heap.size w w1 := hb0.trans (hb1.mono (by omega))
  clear zc zf hb0 hr0 ht0 hb1 hr ht
  generalize hGK : gKind bs = GK at *
  generalize hGF : gFrom bs = GF at *
  generalize hVS : (gEnd bs).vals = VS at *
  have HGK : Hid _ := hGK
  have HGF : Hid _ := hGF
  have HVS : Hid _ := hVS
  clear hGK hGF hVS
  go_wp2_with fail
  have hb2 : Below w1.heap.size w1 (w1.alloc (Obj.cells #[Value.int IntKind.i64 GK, Value.int IntKind.i64 GF, Value.int IntKind.i64 n1, Value.int IntKind.i64 n2, Value.int IntKind.i64 n3, Value.int IntKind.i64 n4, Value.int IntKind.i64 n5, Value.int IntKind.i64 n6, Value.int IntKind.i64 n7, Value.int IntKind.i64 n8, Value.slice la VS.length lc] 136)) := (Below.refl _ _).alloc (Nat.le_refl _) _
  have mc : ∀ i, (w1.alloc (Obj.cells #[Value.int IntKind.i64 GK, Value.int IntKind.i64 GF, Value.int IntKind.i64 n1, Value.int IntKind.i64 n2, Value.int IntKind.i64 n3, Value.int IntKind.i64 n4, Value.int IntKind.i64 n5, Value.int IntKind.i64 n6, Value.int IntKind.i64 n7, Value.int IntKind.i64 n8, Value.slice la VS.length lc] 136)).cell? ⟨w1.heap.size, i, none⟩ = #[Value.int IntKind.i64 GK, Value.int IntKind.i64 GF, Value.int IntKind.i64 n1, Value.int IntKind.i64 n2, Value.int IntKind.i64 n3, Value.int IntKind.i64 n4, Value.int IntKind.i64 n5, Value.int IntKind.i64 n6, Value.int IntKind.i64 n7, Value.int IntKind.i64 n8, Value.slice la VS.length lc][i]? := fun i => World.cell?_alloc_at _ _ _ _ rfl
  have hs2 : (w1.alloc (Obj.cells #[Value.int IntKind.i64 GK, Value.int IntKind.i64 GF, Value.int IntKind.i64 n1, Value.int IntKind.i64 n2, Value.int IntKind.i64 n3, Value.int IntKind.i64 n4, Value.int IntKind.i64 n5, Value.int IntKind.i64 n6, Value.int IntKind.i64 n7, Value.int IntKind.i64 n8, Value.slice la VS.length lc] 136)).heap.size = w1.heap.size + 1 := by simp
  generalize w1.alloc (Obj.cells #[Value.int IntKind.i64 GK, Value.int IntKind.i64 GF, Value.int IntKind.i64 n1, Value.int IntKind.i64 n2, Value.int IntKind.i64 n3, Value.int IntKind.i64 n4, Value.int IntKind.i64 n5, Value.int IntKind.i64 n6, Value.int IntKind.i64 n7, Value.int IntKind.i64 n8, Value.slice la VS.length lc] 136) = w2 at *
  have ht2 : Tabs w2 := ht1.below hb2 (by omega)
  have hi2 : intsAt w2 la VS := hi1.later hb2
  cases hG : isMsg GK GF [0, n1, n2, n3, n4, n5, n6, n7, n8, (VS.length : Int)] with
  | false =>
    refine (encode_no GK GF n1 n2 n3 n4 n5 n6 n7 n8 la VS.length lc w2 ht2 hG).mono ?_
    rintro e w3 ⟨rfl, hb3⟩
    have hb13 : Below w1.heap.size w1 w3 := hb2.trans (hb3.mono (by omega))
    have zc3 : ∀ i, w3.cell? ⟨w.heap.size, i, none⟩ = #[Value.int IntKind.i64 0, Value.int IntKind.i64 0, Value.int IntKind.i64 0, Value.int IntKind.i64 0, Value.int IntKind.i64 0, Value.int IntKind.i64 0, Value.int IntKind.i64 0, Value.int IntKind.i64 0, Value.int IntKind.i64 0, Value.int IntKind.i64 0, Value.slice none 0 0][i]? := fun i => (hb13.cell (by show w.heap.size < _; omega)).trans (zc1 i)
    have zf3 : ∀ i, w3.frozen? ⟨w.heap.size, i, none⟩ = false := fun i => (hb13.frozen (by show w.heap.size < _; omega)).trans (zf1 i)
    have hdk : Hid (dOk bs = false) := by unfold Hid; rw [HD.out, HI.out, hG]; rfl
    have hbf : Below w.heap.size w w3 := hbw1.trans (hb13.mono (by omega))
    clear zc1 zf1 hb2 hb3 mc hi1 hi2 hr1 hG HD HI HC HG hown ht1 ht2 hbw1 hb13
    go_wp2
    obtain ⟨W, hW, ⟨c0, c1, c2, c3, c4, c5, c6, c7, c8, c9, c10⟩, _, hbl⟩ := put11 w3 w.heap.size (.int .i64 0) (.int .i64 0) (.int .i64 0) (.int .i64 0) (.int .i64 0) (.int .i64 0) (.int .i64 0) (.int .i64 0) (.int .i64 0) (.int .i64 0) (.slice none 0 0) (fun i hi => by rw [zc3]; simp; omega)
    rw [hW]
    clear hW zc3 zf3
    exact bodyPost_ret (v := .tuple #[.agg #[Value.int IntKind.i64 0, Value.int IntKind.i64 0, Value.int IntKind.i64 0, Value.int IntKind.i64 0, Value.int IntKind.i64 0, Value.int IntKind.i64 0, Value.int IntKind.i64 0, Value.int IntKind.i64 0, Value.int IntKind.i64 0, Value.int IntKind.i64 0, Value.slice none 0 0], .int .i64 2]) (by simp [results, Tryz.results158, go_sem, c0, c1, c2, c3, c4, c5, c6, c7, c8, c9, c10]) rfl ⟨hbl _ _ (Nat.le_refl _) hbf, .inr ⟨hdk.out, rfl⟩⟩
  | true =>
    refine (encode_yes GK GF n1 n2 n3 n4 n5 n6 n7 n8 la VS lc w2 ht2 hi2 hG).mono ?_
    rintro e w3 ⟨x, rfl, hx, hb3⟩
    rw [← HC.out] at hx
    have hb13 : Below w1.heap.size w1 w3 := hb2.trans (hb3.mono (by omega))
    have zc3 : ∀ i, w3.cell? ⟨w.heap.size, i, none⟩ = #[Value.int IntKind.i64 0, Value.int IntKind.i64 0, Value.int IntKind.i64 0, Value.int IntKind.i64 0, Value.int IntKind.i64 0, Value.int IntKind.i64 0, Value.int IntKind.i64 0, Value.int IntKind.i64 0, Value.int IntKind.i64 0, Value.int IntKind.i64 0, Value.slice none 0 0][i]? := fun i => (hb13.cell (by show w.heap.size < _; omega)).trans (zc1 i)
    have zf3 : ∀ i, w3.frozen? ⟨w.heap.size, i, none⟩ = false := fun i => (hb13.frozen (by show w.heap.size < _; omega)).trans (zf1 i)
    have mc3 : ∀ i, w3.cell? ⟨w1.heap.size, i, none⟩ = #[Value.int IntKind.i64 GK, Value.int IntKind.i64 GF, Value.int IntKind.i64 n1, Value.int IntKind.i64 n2, Value.int IntKind.i64 n3, Value.int IntKind.i64 n4, Value.int IntKind.i64 n5, Value.int IntKind.i64 n6, Value.int IntKind.i64 n7, Value.int IntKind.i64 n8, Value.slice la VS.length lc][i]? := fun i => (hb3.cell (by show w1.heap.size < _; omega)).trans (mc i)
    have hr3 : restAt w3 W0.heap.size v bs := hr1.keep fun b o hlt => hb13.cell (p := ⟨b, o, none⟩) (by show b < _; omega)
    have hdk : Hid (dOk bs = (gEnc bs == bs)) := by unfold Hid; rw [HD.out, HI.out, hG]; rfl
    have hbf : Below w.heap.size w w3 := hbw1.trans (hb13.mono (by omega))
    have hown3 : OwnI w3 W0.heap.size (.slice la VS.length lc) VS := World.ownsRow.kept hown ⟨hb13.os, hb13.tape, hb13.output, hb13.size, fun k hk _ => hb13.block k hk⟩ (row := none) (by cases la <;> simp [Value.ownBlock])
    clear zc1 zf1 hb2 hb3 mc hi1 hi2 hr1 hG HD HI HC hown ht1 ht2 hbw1 hb13
    generalize gEnc bs = ge at *
    go_wp2_with fail
    refine (equal_any x v ge bs w3 hx.bytesAt hr3.bytes).mono ?_
    rintro e w4 ⟨rfl, rfl⟩
    cases hq : (ge == bs) with
    | false =>
      have hdk2 : Hid (dOk bs = false) := by unfold Hid; rw [hdk.out, hq]
      clear hq hdk
      go_wp2
      obtain ⟨W, hW, ⟨c0, c1, c2, c3, c4, c5, c6, c7, c8, c9, c10⟩, _, hbl⟩ := put11 w4 w.heap.size (.int .i64 0) (.int .i64 0) (.int .i64 0) (.int .i64 0) (.int .i64 0) (.int .i64 0) (.int .i64 0) (.int .i64 0) (.int .i64 0) (.int .i64 0) (.slice none 0 0) (fun i hi => by rw [zc3]; simp; omega)
      rw [hW]
      clear hW zc3 zf3 mc3
      exact bodyPost_ret (v := .tuple #[.agg #[Value.int IntKind.i64 0, Value.int IntKind.i64 0, Value.int IntKind.i64 0, Value.int IntKind.i64 0, Value.int IntKind.i64 0, Value.int IntKind.i64 0, Value.int IntKind.i64 0, Value.int IntKind.i64 0, Value.int IntKind.i64 0, Value.int IntKind.i64 0, Value.slice none 0 0], .int .i64 2]) (by simp [results, Tryz.results158, go_sem, c0, c1, c2, c3, c4, c5, c6, c7, c8, c9, c10]) rfl ⟨hbl _ _ (Nat.le_refl _) hbf, .inr ⟨hdk2.out, rfl⟩⟩
    | true =>
      have hdk2 : Hid (dOk bs = true) := by unfold Hid; rw [hdk.out, hq]
      clear hq hdk
      go_wp2
      obtain ⟨W, hW, ⟨c0, c1, c2, c3, c4, c5, c6, c7, c8, c9, c10⟩, hbut, hbl⟩ := put11 w4 w.heap.size (.int .i64 GK) (.int .i64 GF) (.int .i64 n1) (.int .i64 n2) (.int .i64 n3) (.int .i64 n4) (.int .i64 n5) (.int .i64 n6) (.int .i64 n7) (.int .i64 n8) (.slice la VS.length lc) (fun i hi => by rw [zc3]; simp; omega)
      have hownW := (hown3.but hbut (by omega)).low (show w.heap.size ≤ W0.heap.size by omega)
      rw [hW]
      clear hW zc3 zf3 mc3 hown3 hbut
      exact bodyPost_ret (v := .tuple #[.agg #[.int .i64 GK, .int .i64 GF, .int .i64 n1, .int .i64 n2, .int .i64 n3, .int .i64 n4, .int .i64 n5, .int .i64 n6, .int .i64 n7, .int .i64 n8, .slice la VS.length lc], .int .i64 0]) (by simp [results, Tryz.results158, go_sem, c0, c1, c2, c3, c4, c5, c6, c7, c8, c9, c10]) rfl ⟨hbl _ _ (Nat.le_refl _) hbf, .inl ⟨hdk2.out, n1, n2, n3, n4, n5, n6, n7, n8, _, by rw [HGK.out, HGF.out], by rw [HVS.out]; exact HG.out, by rw [HVS.out]; exact hownW⟩⟩

set_option maxHeartbeats 1000000 in
set_option maxRecDepth 20000 in
theorem decode_far (bs : List UInt8) (v : Value) (w : World) (ht : Tabs w) (hr : restAt w w.heap.size v bs) (hK : 11 ≤ gKind bs) :
    Calls Tryz.prog 158 #[v] w fun e w' => Below w.heap.size w w' ∧ e = .returned (.tuple #[.agg #[Value.int IntKind.i64 0, Value.int IntKind.i64 0, Value.int IntKind.i64 0, Value.int IntKind.i64 0, Value.int IntKind.i64 0, Value.int IntKind.i64 0, Value.int IntKind.i64 0, Value.int IntKind.i64 0, Value.int IntKind.i64 0, Value.int IntKind.i64 0, Value.slice none 0 0], .int .i64 2]) := by
  have tw := ht.two
  have hb0 : Below w.heap.size w (w.alloc (Obj.cells #[Value.int IntKind.i64 0, Value.int IntKind.i64 0, Value.int IntKind.i64 0, Value.int IntKind.i64 0, Value.int IntKind.i64 0, Value.int IntKind.i64 0, Value.int IntKind.i64 0, Value.int IntKind.i64 0, Value.int IntKind.i64 0, Value.int IntKind.i64 0, Value.slice none 0 0] 136)) := (Below.refl _ _).alloc (Nat.le_refl _) _
  have hr0 : restAt (w.alloc (Obj.cells #[Value.int IntKind.i64 0, Value.int IntKind.i64 0, Value.int IntKind.i64 0, Value.int IntKind.i64 0, Value.int IntKind.i64 0, Value.int IntKind.i64 0, Value.int IntKind.i64 0, Value.int IntKind.i64 0, Value.int IntKind.i64 0, Value.int IntKind.i64 0, Value.slice none 0 0] 136)) (w.alloc (Obj.cells #[Value.int IntKind.i64 0, Value.int IntKind.i64 0, Value.int IntKind.i64 0, Value.int IntKind.i64 0, Value.int IntKind.i64 0, Value.int IntKind.i64 0, Value.int IntKind.i64 0, Value.int IntKind.i64 0, Value.int IntKind.i64 0, Value.int IntKind.i64 0, Value.slice none 0 0] 136)).heap.size v bs := (hr.keep fun b o hlt => hb0.cell (p := ⟨b, o, none⟩) hlt).wide (by simp)
  obtain ⟨zc, zf⟩ := zero24 w
  have ht0 : Tabs (w.alloc (Obj.cells #[Value.int IntKind.i64 0, Value.int IntKind.i64 0, Value.int IntKind.i64 0, Value.int IntKind.i64 0, Value.int IntKind.i64 0, Value.int IntKind.i64 0, Value.int IntKind.i64 0, Value.int IntKind.i64 0, Value.int IntKind.i64 0, Value.int IntKind.i64 0, Value.slice none 0 0] 136)) := ht.below hb0 (by omega)
  have hs0 : (w.alloc (Obj.cells #[Value.int IntKind.i64 0, Value.int IntKind.i64 0, Value.int IntKind.i64 0, Value.int IntKind.i64 0, Value.int IntKind.i64 0, Value.int IntKind.i64 0, Value.int IntKind.i64 0, Value.int IntKind.i64 0, Value.int IntKind.i64 0, Value.int IntKind.i64 0, Value.slice none 0 0] 136)).heap.size = w.heap.size + 1 := by simp
  go_enter Tryz.func158, Tryz.ntmps158
  go_wp2_with fail
  generalize w.alloc (Obj.cells #[Value.int IntKind.i64 0, Value.int IntKind.i64 0, Value.int IntKind.i64 0, Value.int IntKind.i64 0, Value.int IntKind.i64 0, Value.int IntKind.i64 0, Value.int IntKind.i64 0, Value.int IntKind.i64 0, Value.int IntKind.i64 0, Value.int IntKind.i64 0, Value.slice none 0 0] 136) = W0 at *
  refine (guess_far bs v W0 hr0 hK).mono ?_
  rintro e w1 ⟨rfl, hb1⟩
  have zc1 : ∀ i, w1.cell? ⟨w.heap.size, i, none⟩ = #[Value.int IntKind.i64 0, Value.int IntKind.i64 0, Value.int IntKind.i64 0, Value.int IntKind.i64 0, Value.int IntKind.i64 0, Value.int IntKind.i64 0, Value.int IntKind.i64 0, Value.int IntKind.i64 0, Value.int IntKind.i64 0, Value.int IntKind.i64 0, Value.slice none 0 0][i]? := fun i => (hb1.cell (by show w.heap.size < _; omega)).trans (zc i)
  have zf1 : ∀ i, w1.frozen? ⟨w.heap.size, i, none⟩ = false := fun i => (hb1.frozen (by show w.heap.size < _; omega)).trans (zf i)
  have hs1 := hb1.size
  have ht1 : Tabs w1 := ht0.below hb1 (by omega)
  have hbw1 : Below w.heap.size w w1 := hb0.trans (hb1.mono (by omega))
  clear zc zf hb0 hr0 ht0 hb1 hr ht
  go_wp2_with fail
  have hb2 : Below w1.heap.size w1 (w1.alloc (Obj.cells #[Value.int IntKind.i64 0, Value.int IntKind.i64 0, Value.int IntKind.i64 0, Value.int IntKind.i64 0, Value.int IntKind.i64 0, Value.int IntKind.i64 0, Value.int IntKind.i64 0, Value.int IntKind.i64 0, Value.int IntKind.i64 0, Value.int IntKind.i64 0, Value.slice none 0 0] 136)) := (Below.refl _ _).alloc (Nat.le_refl _) _
  have ht2 : Tabs (w1.alloc (Obj.cells #[Value.int IntKind.i64 0, Value.int IntKind.i64 0, Value.int IntKind.i64 0, Value.int IntKind.i64 0, Value.int IntKind.i64 0, Value.int IntKind.i64 0, Value.int IntKind.i64 0, Value.int IntKind.i64 0, Value.int IntKind.i64 0, Value.int IntKind.i64 0, Value.slice none 0 0] 136)) := ht1.below hb2 (by omega)
  have hs2 : (w1.alloc (Obj.cells #[Value.int IntKind.i64 0, Value.int IntKind.i64 0, Value.int IntKind.i64 0, Value.int IntKind.i64 0, Value.int IntKind.i64 0, Value.int IntKind.i64 0, Value.int IntKind.i64 0, Value.int IntKind.i64 0, Value.int IntKind.i64 0, Value.int IntKind.i64 0, Value.slice none 0 0] 136)).heap.size = w1.heap.size + 1 := by simp
  generalize w1.alloc (Obj.cells #[Value.int IntKind.i64 0, Value.int IntKind.i64 0, Value.int IntKind.i64 0, Value.int IntKind.i64 0, Value.int IntKind.i64 0, Value.int IntKind.i64 0, Value.int IntKind.i64 0, Value.int IntKind.i64 0, Value.int IntKind.i64 0, Value.int IntKind.i64 0, Value.slice none 0 0] 136) = w2 at *
  refine (encode_no 0 0 0 0 0 0 0 0 0 0 none 0 0 w2 ht2 (by decide)).mono ?_
  rintro e w3 ⟨rfl, hb3⟩
  have hb13 : Below w1.heap.size w1 w3 := hb2.trans (hb3.mono (by omega))
  have zc3 : ∀ i, w3.cell? ⟨w.heap.size, i, none⟩ = #[Value.int IntKind.i64 0, Value.int IntKind.i64 0, Value.int IntKind.i64 0, Value.int IntKind.i64 0, Value.int IntKind.i64 0, Value.int IntKind.i64 0, Value.int IntKind.i64 0, Value.int IntKind.i64 0, Value.int IntKind.i64 0, Value.int IntKind.i64 0, Value.slice none 0 0][i]? := fun i => (hb13.cell (by show w.heap.size < _; omega)).trans (zc1 i)
  have zf3 : ∀ i, w3.frozen? ⟨w.heap.size, i, none⟩ = false := fun i => (hb13.frozen (by show w.heap.size < _; omega)).trans (zf1 i)
  have hbf : Below w.heap.size w w3 := hbw1.trans (hb13.mono (by omega))
  clear zc1 zf1 hb2 hb3 ht1 ht2 hbw1 hb13
  go_wp2
  obtain ⟨W, hW, ⟨c0, c1, c2, c3, c4, c5, c6, c7, c8, c9, c10⟩, _, hbl⟩ := put11 w3 w.heap.size (.int .i64 0) (.int .i64 0) (.int .i64 0) (.int .i64 0) (.int .i64 0) (.int .i64 0) (.int .i64 0) (.int .i64 0) (.int .i64 0) (.int .i64 0) (.slice none 0 0) (fun i hi => by rw [zc3]; simp; omega)
  rw [hW]
  clear hW zc3 zf3
  exact bodyPost_ret (v := .tuple #[.agg #[Value.int IntKind.i64 0, Value.int IntKind.i64 0, Value.int IntKind.i64 0, Value.int IntKind.i64 0, Value.int IntKind.i64 0, Value.int IntKind.i64 0, Value.int IntKind.i64 0, Value.int IntKind.i64 0, Value.int IntKind.i64 0, Value.int IntKind.i64 0, Value.slice none 0 0], .int .i64 2]) (by simp [results, Tryz.results158, go_sem, c0, c1, c2, c3, c4, c5, c6, c7, c8, c9, c10]) rfl ⟨hbl _ _ (Nat.le_refl _) hbf, rfl⟩

end Go.Proofs.YtdcainmlcpafbaaGreatDoor
