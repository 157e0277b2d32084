import Derived.Test.YtdcainmlcpafbaaGreatDoorKA
import Derived.Test.YtdcainmlcpafbaaGreatDoorE10
set_option linter.unusedSimpArgs false
set_option linter.unusedVariables false
namespace Go.Proofs.YtdcainmlcpafbaaGreatDoor
open Go.RowKit

theorem encOf_len (k f : Nat) (nums vals : List Int) : 2 ≤ (encOf k f nums vals).length := by
  unfold encOf bodyOf
  simp
theorem dOk_short {bs : List UInt8} (h : bs.length < 2) : dOk bs = false := by
  cases hd : dOk bs
  · rfl
  · have := (gIs_list hd).2
    have h2 := encOf_len (gKind bs).toNat (gFrom bs).toNat (gNums bs) (gEnd bs).vals
    unfold gEnc at this
    rw [this] at h2
    omega
theorem strEq (a b : List UInt8) : ((strOf a).toList == (strOf b).toList) = (a == b) := by
  rw [← beq_toListBytes]
  show ((⟨a⟩ : Array UInt8) == ⟨b⟩) = (a == b)
  simp
theorem strOf_inj {a b : List UInt8} (h : strOf a = strOf b) : a = b := by
  unfold strOf at h
  have := congrArg ByteArray.data h
  simpa using this
set_option maxHeartbeats 2000000 in
set_option maxRecDepth 20000 in
theorem rdecode_short (bs : List UInt8) (w : World) (hl2 : bs.length < 2) :
    Calls Tryz.prog 104 #[.string (strOf bs)] w fun e w' => Below w.heap.size w w' ∧ e = .returned (.tuple #[.agg #[Value.int IntKind.i64 0, Value.int IntKind.i64 0, Value.int IntKind.i64 0, Value.int IntKind.i64 0, Value.int IntKind.i64 0, Value.int IntKind.i64 0, Value.int IntKind.i64 0, Value.int IntKind.i64 0, Value.int IntKind.i64 0, Value.int IntKind.i64 0, Value.slice none 0 0], .int .i64 2]) := by
  have hsz : (strOf bs).size = bs.length := strOf_size bs
  obtain ⟨zc, zf⟩ := zero24 w
  have hb0 : Below w.heap.size w (w.alloc (Obj.cells #[Value.int IntKind.i64 0, Value.int IntKind.i64 0, Value.int IntKind.i64 0, Value.int IntKind.i64 0, Value.int IntKind.i64 0, Value.int IntKind.i64 0, Value.int IntKind.i64 0, Value.int IntKind.i64 0, Value.int IntKind.i64 0, Value.int IntKind.i64 0, Value.slice none 0 0] 136)) := (Below.refl _ _).alloc (Nat.le_refl _) _
  go_enter Tryz.func104, Tryz.ntmps104
  go_wp2
  exact bodyPost_ret (v := .tuple #[.agg #[Value.int IntKind.i64 0, Value.int IntKind.i64 0, Value.int IntKind.i64 0, Value.int IntKind.i64 0, Value.int IntKind.i64 0, Value.int IntKind.i64 0, Value.int IntKind.i64 0, Value.int IntKind.i64 0, Value.int IntKind.i64 0, Value.int IntKind.i64 0, Value.slice none 0 0], .int .i64 2]) (by simp [results, Tryz.results104, go_sem]) rfl ⟨hb0, rfl⟩
set_option maxHeartbeats 4000000 in
set_option maxRecDepth 20000 in
theorem rdecode_long (bs : List UInt8) (w : World) (hl2 : 2 ≤ bs.length) (hlen : bs.length ≤ 140737488355328) :
    Calls Tryz.prog 104 #[.string (strOf bs)] w fun e w' => Below w.heap.size w w' ∧ ((rIs bs = true ∧ rEnc bs = bs ∧ ∃ n1 n2 n3 n4 n5 n6 n7 n8 l, e = .returned (.tuple #[.agg #[.int .i64 ((rk bs : Nat) : Int), .int .i64 ((rf bs : Nat) : Int), .int .i64 n1, .int .i64 n2, .int .i64 n3, .int .i64 n4, .int .i64 n5, .int .i64 n6, .int .i64 n7, .int .i64 n8, l], .int .i64 0]) ∧
      rNums bs = [0, n1, n2, n3, n4, n5, n6, n7, n8, ((rVals bs).length : Int)] ∧ OwnI w' w.heap.size l (rVals bs)) ∨
      ((rIs bs = false ∨ rEnc bs ≠ bs) ∧ e = .returned (.tuple #[.agg #[Value.int IntKind.i64 0, Value.int IntKind.i64 0, Value.int IntKind.i64 0, Value.int IntKind.i64 0, Value.int IntKind.i64 0, Value.int IntKind.i64 0, Value.int IntKind.i64 0, Value.int IntKind.i64 0, Value.int IntKind.i64 0, Value.int IntKind.i64 0, Value.slice none 0 0], .int .i64 2]))) := by
  have hsz : (strOf bs).size = bs.length := strOf_size bs
  have hb0 : Below w.heap.size w (w.alloc (Obj.cells #[Value.int IntKind.i64 0, Value.int IntKind.i64 0, Value.int IntKind.i64 0, Value.int IntKind.i64 0, Value.int IntKind.i64 0, Value.int IntKind.i64 0, Value.int IntKind.i64 0, Value.int IntKind.i64 0, Value.int IntKind.i64 0, Value.int IntKind.i64 0, Value.slice none 0 0] 136)) := (Below.refl _ _).alloc (Nat.le_refl _) _
  obtain ⟨zc, zf⟩ := zero24 w
  have hs0 : (w.alloc (Obj.cells #[Value.int IntKind.i64 0, Value.int IntKind.i64 0, Value.int IntKind.i64 0, Value.int IntKind.i64 0, Value.int IntKind.i64 0, Value.int IntKind.i64 0, Value.int IntKind.i64 0, Value.int IntKind.i64 0, Value.int IntKind.i64 0, Value.int IntKind.i64 0, Value.slice none 0 0] 136)).heap.size = w.heap.size + 1 := by simp
  go_enter Tryz.func104, Tryz.ntmps104
  go_wp2_with fail
  generalize w.alloc (Obj.cells #[Value.int IntKind.i64 0, Value.int IntKind.i64 0, Value.int IntKind.i64 0, Value.int IntKind.i64 0, Value.int IntKind.i64 0, Value.int IntKind.i64 0, Value.int IntKind.i64 0, Value.int IntKind.i64 0, Value.int IntKind.i64 0, Value.int IntKind.i64 0, Value.slice none 0 0] 136) = W0 at *
  refine (rguess_any bs W0 hl2 hlen).mono ?_
  rintro e w1 ⟨n1, n2, n3, n4, n5, n6, n7, n8, l, rfl, hnums, hown, hb1, hn8⟩
  have HN : Hid _ := hnums
  have HI : Hid (rIs bs = isMsg (rk bs : Int) (rf bs : Int) [0, n1, n2, n3, n4, n5, n6, n7, n8, ((rVals bs).length : Int)]) := by
    unfold Hid rIs; rw [hnums]
  have HC : Hid (rEnc bs = encOf (rk bs) (rf bs) [0, n1, n2, n3, n4, n5, n6, n7, n8, ((rVals bs).length : Int)] (rVals bs)) := by
    unfold Hid rEnc; rw [hnums]
  clear hnums
  obtain ⟨la, lc, rfl⟩ := hown.shape
  have hi1 := (hown.ints).2
  have zc1 : ∀ i, w1.cell? ⟨w.heap.size, i, none⟩ = #[Value.int IntKind.i64 0, Value.int IntKind.i64 0, Value.int IntKind.i64 0, Value.int IntKind.i64 0, Value.int IntKind.i64 0, Value.int IntKind.i64 0, Value.int IntKind.i64 0, Value.int IntKind.i64 0, Value.int IntKind.i64 0, Value.int IntKind.i64 0, Value.slice none 0 0][i]? := fun i => (hb1.cell (by show w.heap.size < _; omega)).trans (zc i)
  have zf1 : ∀ i, w1.frozen? ⟨w.heap.size, i, none⟩ = false := fun i => (hb1.frozen (by show w.heap.size < _; omega)).trans (zf i)
  have hs1 := hb1.size
  have hbw1 : Below w.heap.size w w1 := hb0.trans (hb1.mono (by omega))
  have hv4 := rVals_len bs
  have hk256 : rk bs < 256 := UInt8.toNat_lt _
  clear zc zf hb0 hb1
  generalize hVS : rVals bs = VS at *
  have HVS : Hid _ := hVS
  clear hVS
  go_wp2_with fail
  have hb2 : Below w1.heap.size w1 (w1.alloc (Obj.cells #[Value.int IntKind.i64 ((rk bs : Nat) : Int), Value.int IntKind.i64 ((rf bs : Nat) : Int), Value.int IntKind.i64 n1, Value.int IntKind.i64 n2, Value.int IntKind.i64 n3, Value.int IntKind.i64 n4, Value.int IntKind.i64 n5, Value.int IntKind.i64 n6, Value.int IntKind.i64 n7, Value.int IntKind.i64 n8, Value.slice la VS.length lc] 136)) := (Below.refl _ _).alloc (Nat.le_refl _) _
  have mc : ∀ i, (w1.alloc (Obj.cells #[Value.int IntKind.i64 ((rk bs : Nat) : Int), Value.int IntKind.i64 ((rf bs : Nat) : Int), Value.int IntKind.i64 n1, Value.int IntKind.i64 n2, Value.int IntKind.i64 n3, Value.int IntKind.i64 n4, Value.int IntKind.i64 n5, Value.int IntKind.i64 n6, Value.int IntKind.i64 n7, Value.int IntKind.i64 n8, Value.slice la VS.length lc] 136)).cell? ⟨w1.heap.size, i, none⟩ = #[Value.int IntKind.i64 ((rk bs : Nat) : Int), Value.int IntKind.i64 ((rf bs : Nat) : Int), Value.int IntKind.i64 n1, Value.int IntKind.i64 n2, Value.int IntKind.i64 n3, Value.int IntKind.i64 n4, Value.int IntKind.i64 n5, Value.int IntKind.i64 n6, Value.int IntKind.i64 n7, Value.int IntKind.i64 n8, Value.slice la VS.length lc][i]? := fun i => World.cell?_alloc_at _ _ _ _ rfl
  have hs2 : (w1.alloc (Obj.cells #[Value.int IntKind.i64 ((rk bs : Nat) : Int), Value.int IntKind.i64 ((rf bs : Nat) : Int), Value.int IntKind.i64 n1, Value.int IntKind.i64 n2, Value.int IntKind.i64 n3, Value.int IntKind.i64 n4, Value.int IntKind.i64 n5, Value.int IntKind.i64 n6, Value.int IntKind.i64 n7, Value.int IntKind.i64 n8, Value.slice la VS.length lc] 136)).heap.size = w1.heap.size + 1 := by simp
  generalize w1.alloc (Obj.cells #[Value.int IntKind.i64 ((rk bs : Nat) : Int), Value.int IntKind.i64 ((rf bs : Nat) : Int), Value.int IntKind.i64 n1, Value.int IntKind.i64 n2, Value.int IntKind.i64 n3, Value.int IntKind.i64 n4, Value.int IntKind.i64 n5, Value.int IntKind.i64 n6, Value.int IntKind.i64 n7, Value.int IntKind.i64 n8, Value.slice la VS.length lc] 136) = w2 at *
  have hi2 : intsAt w2 la VS := hi1.later hb2
  cases hG : isMsg (rk bs : Int) (rf bs : Int) [0, n1, n2, n3, n4, n5, n6, n7, n8, (VS.length : Int)] with
  | false =>
    refine (rencode_no (rk bs : Int) (rf bs : Int) n1 n2 n3 n4 n5 n6 n7 n8 la lc VS w2 (by omega) (by omega) hn8 hi2 hG).mono ?_
    rintro e w3 ⟨rfl, hb3⟩
    have hb13 : Below w1.heap.size w1 w3 := hb2.trans (hb3.mono (by omega))
    have zc3 : ∀ i, w3.cell? ⟨w.heap.size, i, none⟩ = #[Value.int IntKind.i64 0, Value.int IntKind.i64 0, Value.int IntKind.i64 0, Value.int IntKind.i64 0, Value.int IntKind.i64 0, Value.int IntKind.i64 0, Value.int IntKind.i64 0, Value.int IntKind.i64 0, Value.int IntKind.i64 0, Value.int IntKind.i64 0, Value.slice none 0 0][i]? := fun i => (hb13.cell (by show w.heap.size < _; omega)).trans (zc1 i)
    have zf3 : ∀ i, w3.frozen? ⟨w.heap.size, i, none⟩ = false := fun i => (hb13.frozen (by show w.heap.size < _; omega)).trans (zf1 i)
    have hdk : Hid (rIs bs = false) := by unfold Hid; rw [HI.out, hG]
    have hbf : Below w.heap.size w w3 := hbw1.trans (hb13.mono (by omega))
    clear zc1 zf1 hb2 hb3 mc hi1 hi2 hG HI HC HN hown hbw1 hb13
    go_wp2
    obtain ⟨W, hW, ⟨c0, c1, c2, c3, c4, c5, c6, c7, c8, c9, c10⟩, _, hbl⟩ := put11 w3 w.heap.size (.int .i64 0) (.int .i64 0) (.int .i64 0) (.int .i64 0) (.int .i64 0) (.int .i64 0) (.int .i64 0) (.int .i64 0) (.int .i64 0) (.int .i64 0) (.slice none 0 0) (fun i hi => by rw [zc3]; simp; omega)
    rw [hW]
    clear hW zc3 zf3
    exact bodyPost_ret (v := .tuple #[.agg #[Value.int IntKind.i64 0, Value.int IntKind.i64 0, Value.int IntKind.i64 0, Value.int IntKind.i64 0, Value.int IntKind.i64 0, Value.int IntKind.i64 0, Value.int IntKind.i64 0, Value.int IntKind.i64 0, Value.int IntKind.i64 0, Value.int IntKind.i64 0, Value.slice none 0 0], .int .i64 2]) (by simp [results, Tryz.results104, go_sem, c0, c1, c2, c3, c4, c5, c6, c7, c8, c9, c10]) rfl ⟨hbl _ _ (Nat.le_refl _) hbf, .inr ⟨.inl hdk.out, rfl⟩⟩
  | true =>
    refine (rencode_yes (rk bs : Int) (rf bs : Int) n1 n2 n3 n4 n5 n6 n7 n8 la lc VS w2 (by omega) hn8 hi2 hG).mono ?_
    rintro e w3 ⟨rfl, hb3⟩
    rw [Int.toNat_natCast, Int.toNat_natCast, ← HC.out]
    have hb13 : Below w1.heap.size w1 w3 := hb2.trans (hb3.mono (by omega))
    have zc3 : ∀ i, w3.cell? ⟨w.heap.size, i, none⟩ = #[Value.int IntKind.i64 0, Value.int IntKind.i64 0, Value.int IntKind.i64 0, Value.int IntKind.i64 0, Value.int IntKind.i64 0, Value.int IntKind.i64 0, Value.int IntKind.i64 0, Value.int IntKind.i64 0, Value.int IntKind.i64 0, Value.int IntKind.i64 0, Value.slice none 0 0][i]? := fun i => (hb13.cell (by show w.heap.size < _; omega)).trans (zc1 i)
    have zf3 : ∀ i, w3.frozen? ⟨w.heap.size, i, none⟩ = false := fun i => (hb13.frozen (by show w.heap.size < _; omega)).trans (zf1 i)
    have mc3 : ∀ i, w3.cell? ⟨w1.heap.size, i, none⟩ = #[Value.int IntKind.i64 ((rk bs : Nat) : Int), Value.int IntKind.i64 ((rf bs : Nat) : Int), Value.int IntKind.i64 n1, Value.int IntKind.i64 n2, Value.int IntKind.i64 n3, Value.int IntKind.i64 n4, Value.int IntKind.i64 n5, Value.int IntKind.i64 n6, Value.int IntKind.i64 n7, Value.int IntKind.i64 n8, Value.slice la VS.length lc][i]? := fun i => (hb3.cell (by show w1.heap.size < _; omega)).trans (mc i)
    have hdk : Hid (rIs bs = true) := by unfold Hid; rw [HI.out, hG]
    have hbf : Below w.heap.size w w3 := hbw1.trans (hb13.mono (by omega))
    have hown3 : OwnI w3 W0.heap.size (.slice la VS.length lc) VS := World.ownsRow.kept hown ⟨hb13.os, hb13.tape, hb13.output, hb13.size, fun k hk _ => hb13.block k hk⟩ (row := none) (by cases la <;> simp [Value.ownBlock])
    clear zc1 zf1 hb2 hb3 mc hi1 hi2 hG HI HC hown hbw1 hb13
    by_cases hq : rEnc bs = bs
    · have HQ : Hid _ := hq
      rw [hq]
      clear hq
      go_wp2
      obtain ⟨W, hW, ⟨c0, c1, c2, c3, c4, c5, c6, c7, c8, c9, c10⟩, hbut, hbl⟩ := put11 w3 w.heap.size (Value.int IntKind.i64 ((rk bs : Nat) : Int)) (Value.int IntKind.i64 ((rf bs : Nat) : Int)) (.int .i64 n1) (.int .i64 n2) (.int .i64 n3) (.int .i64 n4) (.int .i64 n5) (.int .i64 n6) (.int .i64 n7) (.int .i64 n8) (.slice la VS.length lc) (fun i hi => by rw [zc3]; simp; omega)
      have hownW := (hown3.but hbut (by omega)).low (show w.heap.size ≤ W0.heap.size by omega)
      rw [hW]
      clear hW zc3 zf3 mc3 hown3 hbut
      exact bodyPost_ret (v := .tuple #[.agg #[Value.int IntKind.i64 ((rk bs : Nat) : Int), Value.int IntKind.i64 ((rf bs : Nat) : Int), Value.int IntKind.i64 n1, Value.int IntKind.i64 n2, Value.int IntKind.i64 n3, Value.int IntKind.i64 n4, Value.int IntKind.i64 n5, Value.int IntKind.i64 n6, Value.int IntKind.i64 n7, Value.int IntKind.i64 n8, Value.slice la VS.length lc], .int .i64 0]) (by simp [results, Tryz.results104, go_sem, c0, c1, c2, c3, c4, c5, c6, c7, c8, c9, c10]) rfl ⟨hbl _ _ (Nat.le_refl _) hbf, .inl ⟨hdk.out, HQ.out, n1, n2, n3, n4, n5, n6, n7, n8, _, rfl, by rw [HVS.out]; exact HN.out, by rw [HVS.out]; exact hownW⟩⟩
    · have HQ : Hid (rEnc bs ≠ bs) := hq
      have b1 : ((strOf (rEnc bs)).toList == (strOf bs).toList) = false := by rw [strEq]; simpa using hq
      clear hq
      generalize strOf (rEnc bs) = SE at *
      go_wp2
      obtain ⟨W, hW, ⟨c0, c1, c2, c3, c4, c5, c6, c7, c8, c9, c10⟩, _, hbl⟩ := put11 w3 w.heap.size (.int .i64 0) (.int .i64 0) (.int .i64 0) (.int .i64 0) (.int .i64 0) (.int .i64 0) (.int .i64 0) (.int .i64 0) (.int .i64 0) (.int .i64 0) (.slice none 0 0) (fun i hi => by rw [zc3]; simp; omega)
      rw [hW]
      clear hW zc3 zf3 mc3
      exact bodyPost_ret (v := .tuple #[.agg #[Value.int IntKind.i64 0, Value.int IntKind.i64 0, Value.int IntKind.i64 0, Value.int IntKind.i64 0, Value.int IntKind.i64 0, Value.int IntKind.i64 0, Value.int IntKind.i64 0, Value.int IntKind.i64 0, Value.int IntKind.i64 0, Value.int IntKind.i64 0, Value.slice none 0 0], .int .i64 2]) (by simp [results, Tryz.results104, go_sem, c0, c1, c2, c3, c4, c5, c6, c7, c8, c9, c10]) rfl ⟨hbl _ _ (Nat.le_refl _) hbf, .inr ⟨.inr HQ.out, rfl⟩⟩
/-- The document's Decode reads what the program's does. -/
theorem rdecode_any (bs : List UInt8) (w : World) (hlen : bs.length ≤ 140737488355328) :
    Calls Tryz.prog 104 #[.string (strOf bs)] w fun e w' => Below w.heap.size w w' ∧ ((dOk bs = true ∧ ∃ n1 n2 n3 n4 n5 n6 n7 n8 l, e = .returned (.tuple #[.agg #[.int .i64 (gKind bs), .int .i64 (gFrom bs), .int .i64 n1, .int .i64 n2, .int .i64 n3, .int .i64 n4, .int .i64 n5, .int .i64 n6, .int .i64 n7, .int .i64 n8, l], .int .i64 0]) ∧
      gNums bs = [0, n1, n2, n3, n4, n5, n6, n7, n8, ((gEnd bs).vals.length : Int)] ∧ OwnI w' w.heap.size l (gEnd bs).vals) ∨
      (dOk bs = false ∧ e = .returned (.tuple #[.agg #[Value.int IntKind.i64 0, Value.int IntKind.i64 0, Value.int IntKind.i64 0, Value.int IntKind.i64 0, Value.int IntKind.i64 0, Value.int IntKind.i64 0, Value.int IntKind.i64 0, Value.int IntKind.i64 0, Value.int IntKind.i64 0, Value.int IntKind.i64 0, Value.slice none 0 0], .int .i64 2]))) := by
  by_cases h : bs.length < 2
  · refine (rdecode_short bs w h).mono ?_
    rintro e w' ⟨hb, rfl⟩
    exact ⟨hb, .inr ⟨dOk_short h, rfl⟩⟩
  · refine (rdecode_long bs w (by omega) hlen).mono ?_
    rintro e w' ⟨hb, hh⟩
    refine ⟨hb, ?_⟩
    rcases rOk_eq bs with ⟨h1, h2, h3, h4, h5, h6, h7⟩ | ⟨h1, h2⟩
    · rcases hh with ⟨_, _, n1, n2, n3, n4, n5, n6, n7, n8, l, rfl, hn, ho⟩ | ⟨hx, _⟩
      · refine .inl ⟨h1, n1, n2, n3, n4, n5, n6, n7, n8, l, by rw [h4, h5], by rw [← h6, hn, h7], by rw [← h7]; exact ho⟩
      · rcases hx with hx | hx
        · rw [h2] at hx; exact absurd hx (by decide)
        · exact absurd h3 hx
    · rcases hh with ⟨k1, k2, _⟩ | ⟨_, rfl⟩
      · rcases h2 with h2 | h2
        · rw [k1] at h2; exact absurd h2 (by decide)
        · exact absurd k2 h2
      · exact .inr ⟨h1, rfl⟩
end Go.Proofs.YtdcainmlcpafbaaGreatDoor
