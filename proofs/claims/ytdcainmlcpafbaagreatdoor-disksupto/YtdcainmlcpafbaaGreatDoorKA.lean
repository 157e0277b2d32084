import Derived.Test.YtdcainmlcpafbaaGreatDoorG8
import Derived.Deep.RegionHeld3
set_option linter.unusedSimpArgs false
set_option linter.unusedVariables false
namespace Go.Proofs.YtdcainmlcpafbaaGreatDoor
open Go.RowKit

theorem rVs_own {w : World} {base : Nat} {v : Value} {bs : List UInt8} {t : Nat} (h : w.ownsRow base 3 1 v (t + 1) ((rVs bs t).map (Value.int .i64) ++ [.int .i64 (rn bs (19 + 8 * t) 8)])) : OwnI w base v (rVs bs (t + 1)) := by
  unfold OwnI
  rw [rVs_len, rVs_succ, List.map_append]
  exact h
theorem rowShape {w : World} {base : Nat} {e : TypeId} {size : Nat} {v : Value} {n : Nat} {xs : List Value} (h : w.ownsRow base e size v n xs) : ∃ a c, v = .slice a n c := by
  rcases h.2 with ⟨rfl, rfl⟩ | ⟨g, cap, cur, rfl, _⟩
  · exact ⟨_, _, rfl⟩
  · exact ⟨_, _, rfl⟩
/-- Where the message that is guessed stands. -/
structure G9 (w wr : World) (bs : List UInt8) (l : Value) (t : Nat) : Prop where
  ten : ∀ i, i < 10 → wr.cell? ⟨w.heap.size + 1, i, none⟩ = some ([Value.int IntKind.i64 9, Value.int IntKind.i64 ((rf bs : Nat) : Int), Value.int IntKind.i64 (rn bs 2 8), Value.int IntKind.i64 0, Value.int IntKind.i64 0, Value.int IntKind.i64 0, Value.int IntKind.i64 0, Value.int IntKind.i64 (rn bs 10 8), Value.int IntKind.i64 0, Value.int IntKind.i64 0].getD i undef)
  at10 : wr.cell? ⟨w.heap.size + 1, 10, none⟩ = some l
  fr : ∀ i, wr.frozen? ⟨w.heap.size + 1, i, none⟩ = false
  own : OwnI wr (w.heap.size + 2) l (rVs bs t)
  res : ∀ i, wr.cell? ⟨w.heap.size, i, none⟩ = #[Value.int IntKind.i64 0, Value.int IntKind.i64 0, Value.int IntKind.i64 0, Value.int IntKind.i64 0, Value.int IntKind.i64 0, Value.int IntKind.i64 0, Value.int IntKind.i64 0, Value.int IntKind.i64 0, Value.int IntKind.i64 0, Value.int IntKind.i64 0, Value.slice none 0 0][i]?
  rfr : ∀ i, wr.frozen? ⟨w.heap.size, i, none⟩ = false
  bel : Below w.heap.size w wr
  siz : w.heap.size + 2 ≤ wr.heap.size
theorem G9.next {w wr w9 : World} {bs : List UInt8} {l v' : Value} {t : Nat} (h : G9 w wr bs l t) (hb : Below (w.heap.size + 2) wr w9) (ho : OwnI w9 (w.heap.size + 2) v' (rVs bs (t + 1))) : G9 w (w9.setCell ⟨w.heap.size + 1, 10, none⟩ v') bs v' (t + 1) := by
  have hlt : w.heap.size + 1 < w.heap.size + 2 := by omega
  have hlt0 : w.heap.size < w.heap.size + 2 := by omega
  refine ⟨fun i hi => ?_, ?_, fun i => ?_, ?_, fun i => ?_, fun i => ?_, ?_, ?_⟩
  · rw [World.cell?_setCell_other _ _ _ _ (by intro hh; have := congrArg Addr.off hh; simp at this; omega)]
    exact (hb.cell (by exact hlt)).trans (h.ten i hi)
  · exact World.cell?_setCell_same _ _ _ ((hb.cell (by exact hlt)).trans h.at10)
  · rw [World.frozen?_setCell]; exact (hb.frozen (by exact hlt)).trans (h.fr i)
  · exact ownsRow_setCell_below ho (by exact hlt) _
  · rw [World.cell?_setCell_other _ _ _ _ (by intro hh; have := congrArg Addr.block hh; simp at this)]
    exact (hb.cell (by exact hlt0)).trans (h.res i)
  · rw [World.frozen?_setCell]; exact (hb.frozen (by exact hlt0)).trans (h.rfr i)
  · exact Below.setCell (h.bel.trans (hb.mono (by omega))) (by show w.heap.size ≤ w.heap.size + 1; omega) _
  · have := h.siz; have := hb.size; simp [World.setCell]; omega

theorem rVals_not {bs : List UInt8} (h : rk bs ≠ 9) : rVals bs = [] := by unfold rVals; rw [if_neg h]
set_option maxHeartbeats 8000000 in
set_option maxRecDepth 20000 in
theorem rguess_any (bs : List UInt8) (w : World) (hl2 : 2 ≤ bs.length) (hlen : bs.length ≤ 140737488355328) :
    Calls Tryz.prog 159 #[.string (strOf bs)] w fun e w' => ∃ n1 n2 n3 n4 n5 n6 n7 n8 l, e = .returned (.agg #[.int .i64 ((rk bs : Nat) : Int), .int .i64 ((rf bs : Nat) : Int), .int .i64 n1, .int .i64 n2, .int .i64 n3, .int .i64 n4, .int .i64 n5, .int .i64 n6, .int .i64 n7, .int .i64 n8, l]) ∧
      rNums bs = [0, n1, n2, n3, n4, n5, n6, n7, n8, ((rVals bs).length : Int)] ∧ OwnI w' w.heap.size l (rVals bs) ∧ Below w.heap.size w w' ∧ (-9223372036854775808 ≤ n8 ∧ n8 ≤ 9223372036854775807) := by
  obtain ⟨i3, hi3, hz0, hz1, hz2⟩ := info_parts info3
  have HZ0 : Hid ((-9223372036854775808 : Int) ≤ 0 ∧ (0 : Int) ≤ 9223372036854775807) := by unfold Hid; omega
  have HNil : Hid (∀ w', OwnI w' w.heap.size (.slice none 0 0) []) := fun w' => World.ownsRow_nil _ _ _ _
  have hsz : (strOf bs).size = bs.length := strOf_size bs
  have hp0 : 0 < (strOf bs).size := by omega
  have hp1 : 1 < (strOf bs).size := by omega
  have H0 : Hid _ := bs0 hl2 hp0
  have H1 : Hid _ := bs1 hl2 hp1
  go_enter Tryz.func159, Tryz.ntmps159
  go_wp2
  go_cut [3] from 6 to 14 (fun x wc => x = .pointer (some ⟨w.heap.size + 1, 0, none⟩) ∧ wc = ((w.alloc (Obj.cells #[Value.int IntKind.i64 0, Value.int IntKind.i64 0, Value.int IntKind.i64 0, Value.int IntKind.i64 0, Value.int IntKind.i64 0, Value.int IntKind.i64 0, Value.int IntKind.i64 0, Value.int IntKind.i64 0, Value.int IntKind.i64 0, Value.int IntKind.i64 0, Value.slice none 0 0] 136)).alloc (Obj.cells #[Value.int IntKind.i64 ((rk bs : Nat) : Int), Value.int IntKind.i64 ((rf bs : Nat) : Int), Value.int IntKind.i64 (rn bs 2 8), Value.int IntKind.i64 0, Value.int IntKind.i64 0, Value.int IntKind.i64 0, Value.int IntKind.i64 0, Value.int IntKind.i64 0, Value.int IntKind.i64 0, Value.int IntKind.i64 0, Value.slice none 0 0] 136)).drew)
  case first =>
    go_region_held3 (fun w' => True) (trivial) (first | (go_at_call 217; refine (rnum_at bs 2 0 2 _ _ _ (by omega) (by omega) (by omega) (by omega) (by omega) rfl).mono ?_; rintro e w' ⟨rfl, rfl⟩))
    all_goals go_wp2_with fail
    all_goals go_meet
    all_goals exact ⟨rfl, by rw [H0.out, H1.out]⟩
  case rest =>
  obtain ⟨rfl, rfl⟩ := hcut
  clear H0 H1 hp0 hp1
  have hcR : ∀ i, (((w.alloc (Obj.cells #[Value.int IntKind.i64 0, Value.int IntKind.i64 0, Value.int IntKind.i64 0, Value.int IntKind.i64 0, Value.int IntKind.i64 0, Value.int IntKind.i64 0, Value.int IntKind.i64 0, Value.int IntKind.i64 0, Value.int IntKind.i64 0, Value.int IntKind.i64 0, Value.slice none 0 0] 136)).alloc (Obj.cells #[Value.int IntKind.i64 ((rk bs : Nat) : Int), Value.int IntKind.i64 ((rf bs : Nat) : Int), Value.int IntKind.i64 (rn bs 2 8), Value.int IntKind.i64 0, Value.int IntKind.i64 0, Value.int IntKind.i64 0, Value.int IntKind.i64 0, Value.int IntKind.i64 0, Value.int IntKind.i64 0, Value.int IntKind.i64 0, Value.slice none 0 0] 136)).drew).cell? ⟨w.heap.size, i, none⟩ = #[Value.int IntKind.i64 0, Value.int IntKind.i64 0, Value.int IntKind.i64 0, Value.int IntKind.i64 0, Value.int IntKind.i64 0, Value.int IntKind.i64 0, Value.int IntKind.i64 0, Value.int IntKind.i64 0, Value.int IntKind.i64 0, Value.int IntKind.i64 0, Value.slice none 0 0][i]? := fun i => (World.cell?_alloc_past _ _ _ (by simp)).trans (World.cell?_alloc_at _ _ _ _ rfl)
  have hfR : ∀ i, (((w.alloc (Obj.cells #[Value.int IntKind.i64 0, Value.int IntKind.i64 0, Value.int IntKind.i64 0, Value.int IntKind.i64 0, Value.int IntKind.i64 0, Value.int IntKind.i64 0, Value.int IntKind.i64 0, Value.int IntKind.i64 0, Value.int IntKind.i64 0, Value.int IntKind.i64 0, Value.slice none 0 0] 136)).alloc (Obj.cells #[Value.int IntKind.i64 ((rk bs : Nat) : Int), Value.int IntKind.i64 ((rf bs : Nat) : Int), Value.int IntKind.i64 (rn bs 2 8), Value.int IntKind.i64 0, Value.int IntKind.i64 0, Value.int IntKind.i64 0, Value.int IntKind.i64 0, Value.int IntKind.i64 0, Value.int IntKind.i64 0, Value.int IntKind.i64 0, Value.slice none 0 0] 136)).drew).frozen? ⟨w.heap.size, i, none⟩ = false := fun i => by simp
  have hcM : ∀ i, (((w.alloc (Obj.cells #[Value.int IntKind.i64 0, Value.int IntKind.i64 0, Value.int IntKind.i64 0, Value.int IntKind.i64 0, Value.int IntKind.i64 0, Value.int IntKind.i64 0, Value.int IntKind.i64 0, Value.int IntKind.i64 0, Value.int IntKind.i64 0, Value.int IntKind.i64 0, Value.slice none 0 0] 136)).alloc (Obj.cells #[Value.int IntKind.i64 ((rk bs : Nat) : Int), Value.int IntKind.i64 ((rf bs : Nat) : Int), Value.int IntKind.i64 (rn bs 2 8), Value.int IntKind.i64 0, Value.int IntKind.i64 0, Value.int IntKind.i64 0, Value.int IntKind.i64 0, Value.int IntKind.i64 0, Value.int IntKind.i64 0, Value.int IntKind.i64 0, Value.slice none 0 0] 136)).drew).cell? ⟨w.heap.size + 1, i, none⟩ = #[Value.int IntKind.i64 ((rk bs : Nat) : Int), Value.int IntKind.i64 ((rf bs : Nat) : Int), Value.int IntKind.i64 (rn bs 2 8), Value.int IntKind.i64 0, Value.int IntKind.i64 0, Value.int IntKind.i64 0, Value.int IntKind.i64 0, Value.int IntKind.i64 0, Value.int IntKind.i64 0, Value.int IntKind.i64 0, Value.slice none 0 0][i]? := fun i => World.cell?_alloc_at _ _ _ _ (by simp)
  have hfM : ∀ i, (((w.alloc (Obj.cells #[Value.int IntKind.i64 0, Value.int IntKind.i64 0, Value.int IntKind.i64 0, Value.int IntKind.i64 0, Value.int IntKind.i64 0, Value.int IntKind.i64 0, Value.int IntKind.i64 0, Value.int IntKind.i64 0, Value.int IntKind.i64 0, Value.int IntKind.i64 0, Value.slice none 0 0] 136)).alloc (Obj.cells #[Value.int IntKind.i64 ((rk bs : Nat) : Int), Value.int IntKind.i64 ((rf bs : Nat) : Int), Value.int IntKind.i64 (rn bs 2 8), Value.int IntKind.i64 0, Value.int IntKind.i64 0, Value.int IntKind.i64 0, Value.int IntKind.i64 0, Value.int IntKind.i64 0, Value.int IntKind.i64 0, Value.int IntKind.i64 0, Value.slice none 0 0] 136)).drew).frozen? ⟨w.heap.size + 1, i, none⟩ = false := fun i => by simp
  have hbl : Below w.heap.size w (((w.alloc (Obj.cells #[Value.int IntKind.i64 0, Value.int IntKind.i64 0, Value.int IntKind.i64 0, Value.int IntKind.i64 0, Value.int IntKind.i64 0, Value.int IntKind.i64 0, Value.int IntKind.i64 0, Value.int IntKind.i64 0, Value.int IntKind.i64 0, Value.int IntKind.i64 0, Value.slice none 0 0] 136)).alloc (Obj.cells #[Value.int IntKind.i64 ((rk bs : Nat) : Int), Value.int IntKind.i64 ((rf bs : Nat) : Int), Value.int IntKind.i64 (rn bs 2 8), Value.int IntKind.i64 0, Value.int IntKind.i64 0, Value.int IntKind.i64 0, Value.int IntKind.i64 0, Value.int IntKind.i64 0, Value.int IntKind.i64 0, Value.int IntKind.i64 0, Value.slice none 0 0] 136)).drew) := ((Below.alloc (Below.refl _ _) (Nat.le_refl _) _).alloc (by simp) _).drew
  have hsz2 : w.heap.size + 2 ≤ (((w.alloc (Obj.cells #[Value.int IntKind.i64 0, Value.int IntKind.i64 0, Value.int IntKind.i64 0, Value.int IntKind.i64 0, Value.int IntKind.i64 0, Value.int IntKind.i64 0, Value.int IntKind.i64 0, Value.int IntKind.i64 0, Value.int IntKind.i64 0, Value.int IntKind.i64 0, Value.slice none 0 0] 136)).alloc (Obj.cells #[Value.int IntKind.i64 ((rk bs : Nat) : Int), Value.int IntKind.i64 ((rf bs : Nat) : Int), Value.int IntKind.i64 (rn bs 2 8), Value.int IntKind.i64 0, Value.int IntKind.i64 0, Value.int IntKind.i64 0, Value.int IntKind.i64 0, Value.int IntKind.i64 0, Value.int IntKind.i64 0, Value.int IntKind.i64 0, Value.slice none 0 0] 136)).drew).heap.size := by show _ ≤ (World.alloc _ _).heap.size; simp
  generalize ((w.alloc (Obj.cells #[Value.int IntKind.i64 0, Value.int IntKind.i64 0, Value.int IntKind.i64 0, Value.int IntKind.i64 0, Value.int IntKind.i64 0, Value.int IntKind.i64 0, Value.int IntKind.i64 0, Value.int IntKind.i64 0, Value.int IntKind.i64 0, Value.int IntKind.i64 0, Value.slice none 0 0] 136)).alloc (Obj.cells #[Value.int IntKind.i64 ((rk bs : Nat) : Int), Value.int IntKind.i64 ((rf bs : Nat) : Int), Value.int IntKind.i64 (rn bs 2 8), Value.int IntKind.i64 0, Value.int IntKind.i64 0, Value.int IntKind.i64 0, Value.int IntKind.i64 0, Value.int IntKind.i64 0, Value.int IntKind.i64 0, Value.int IntKind.i64 0, Value.slice none 0 0] 136)).drew = W0 at *
  by_cases h9 : rk bs = 9
  · have hk := h9
    have HN : Hid (rNums bs = [0, rn bs 2 8, 0, 0, 0, 0, rn bs 10 8, 0, 0, ((rVals bs).length : Int)]) := by
      unfold Hid rNums
      rw [h9, if_neg (by omega), if_neg (by omega), if_neg (by omega), if_neg (by omega), if_neg (by omega), if_neg (by omega), if_pos (by omega)]
    have HV : Hid (rVals bs = rVs bs (rCnt bs)) := by unfold Hid rVals; rw [if_pos h9]
    rw [h9] at hcM
    have HK : Hid _ := hk
    clear hk h9
    have m0 := hcM 0
    have m7 := hcM 7
    simp at m0 m7
    have f7 := hfM 7
    have f0 := hfM 0
    have HG : Hid (G9 w (W0.setCell ⟨w.heap.size + 1, 7, none⟩ (Value.int IntKind.i64 (rn bs 10 8))) bs (.slice none 0 0) 0) := by
      refine ⟨fun i hi => ?_, ?_, fun i => ?_, ?_, fun i => ?_, fun i => ?_, ?_, ?_⟩
      · by_cases h7 : i = 7
        · subst h7
          rw [World.cell?_setCell_same _ _ _ m7]; rfl
        · rw [World.cell?_setCell_other _ _ _ _ (by intro hh; have := congrArg Addr.off hh; simp at this; omega), hcM i]
          obtain h | h | h | h | h | h | h | h | h : i = 0 ∨ i = 1 ∨ i = 2 ∨ i = 3 ∨ i = 4 ∨ i = 5 ∨ i = 6 ∨ i = 8 ∨ i = 9 := by omega
          all_goals subst h; rfl
      · rw [World.cell?_setCell_other _ _ _ _ (by intro hh; have := congrArg Addr.off hh; simp at this), hcM 10]; rfl
      · rw [World.frozen?_setCell]; exact hfM i
      · exact World.ownsRow_nil _ _ _ _
      · rw [World.cell?_setCell_other _ _ _ _ (by intro hh; have := congrArg Addr.block hh; simp at this)]; exact hcR i
      · rw [World.frozen?_setCell]; exact hfR i
      · exact Below.setCell hbl (by show w.heap.size ≤ w.heap.size + 1; omega) _
      · simp [World.setCell]; omega
    clear hcR hfR hcM hfM hbl hsz2
    go_wp2_with (first | (go_at_call 217; refine (rnum_at bs 2 1 10 _ _ _ (by omega) (by omega) (by omega) (by omega) (by omega) rfl).mono ?_; rintro e w' ⟨rfl, hh⟩; replace hh := hh.symm; subst hh))
    go_loopw [4, 5] (fun ix _ wr => ∃ (t : Nat) (l : Value), t ≤ rCnt bs ∧ ix = .int .i64 t ∧ G9 w wr bs l t) (fun ix _ _ => rCnt bs - (intOf ix).toNat)
    case atStart => exact ⟨0, _, by omega, rfl, HG.out⟩
    case round =>
      clear HG m0 m7 f7 f0
      obtain ⟨t, l, ht, rfl, hg⟩ := hrel
      have HGr : Hid _ := hg
      by_cases htl : t < rCnt bs
      · have hcnt := htl
        unfold rCnt at hcnt
        have h18 : 18 < bs.length := by
          by_cases h : 18 < bs.length
          · exact h
          · rw [if_neg h] at hcnt; omega
        rw [if_pos h18] at hcnt
        have hp18 : 18 < (strOf bs).size := by omega
        have e18 := strOf_at bs 18 h18 hp18
        have hx18 := UInt8.toNat_lt bs[18]
        have e18' : (bs.getD 18 0) = bs[18] := by rw [List.getD_eq_getElem?_getD, List.getElem?_eq_getElem h18, Option.getD_some]; rfl
        rw [e18'] at hcnt
        have hw18 : IntKind.i64.wrap ((strOf bs)[18].toNat : Int) = (bs[18].toNat : Int) := by rw [e18, wrap_small _ (by omega) (by omega)]
        have hw18' : wrap64 ((strOf bs)[18].toNat : Int) = (bs[18].toNat : Int) := by rw [e18, w64 _ (by omega) (by omega)]
        clear e18 e18'
        have ht4 : t < 4 := by omega
        have ht18 : (t : Int) < (bs[18].toNat : Int) := by omega
        generalize (bs[18].toNat : Int) = S18 at *
        obtain ⟨la, lc, rfl⟩ := hg.own.shape
        have hown : OwnI wr (w.heap.size + 2) (.slice la (rVs bs t).length lc) (rVs bs t) := hg.own
        rw [rVs_len] at hown
        have h10 := hg.at10
        rw [rVs_len] at h10
        have f10 := hg.fr 10
        have hsz2 := hg.siz
        have HGl : Hid (G9 w wr bs (.slice la t lc) t) := by have := HGr.out; rw [rVs_len] at this; exact this
        have HO : Hid _ := hown
        clear hg hcnt HGr hown
        go_wp2_with (first | (go_at_call 217; refine (rnum_at bs 19 t (19 + 8 * t) _ _ _ (by omega) (by omega) (by omega) (by omega) (by omega) rfl).mono ?_; rintro e w' ⟨rfl, hh⟩; replace hh := hh.symm; subst hh) | (at_builtin; go_loud (refine wpList_append_own _ rfl _ _ 59 rfl (w.heap.size + 2) 3 i3 (.int .i64 0) 1 8 Tryz.underlying59 hi3 hz0 hz1 hz2 rfl (by decide) _ t ((rVs bs t).map (Value.int .i64)) rfl (World.ownsRow.alloc (by have := HO.out; unfold OwnI at this; rw [rVs_len] at this; exact this) _) ⟨wr.heap.size, 0, none⟩ 1 1 [.int .i64 (rn bs (19 + 8 * t) 8)] rfl rfl (cell_one_new _ _ _) ?c2 ?c3 ?c4 ?c5 ?_)))
        case c2 => intro u hu; simp at hu; subst hu; rfl
        case c3 => unfold maxLen; omega
        case c4 => omega
        case c5 => simp; omega
        intro v' w9 ho' hgr _
        have hbb : Below (w.heap.size + 2) wr w9 := ((Below.refl _ _).alloc hsz2 _).grown hgr (by simp; omega) (fun g hg => (World.ownsRow.lt HO.out g hg).1)
        obtain ⟨va, vc, rfl⟩ := rowShape ho'
        have hG2 := HGl.out.next hbb (rVs_own ho')
        have k10 : w9.cell? ⟨w.heap.size + 1, 10, none⟩ = some (.slice la t lc) := (hbb.cell (by show w.heap.size + 1 < w.heap.size + 2; omega)).trans h10
        have kf : w9.frozen? ⟨w.heap.size + 1, 10, none⟩ = false := (hbb.frozen (by show w.heap.size + 1 < w.heap.size + 2; omega)).trans f10
        clear ho' hgr hbb h10 f10
        have HG2 : Hid _ := hG2
        clear hG2
        go_wp2
        go_roundw
        case rel => exact ⟨t + 1, _, by omega, by go_num, HG2.out⟩
        case measure => simp [intOf]; omega
      · obtain rfl : t = rCnt bs := by omega
        obtain ⟨la, lc, rfl⟩ := hg.own.shape
        have t0 := hg.ten 0 (by omega)
        have t1 := hg.ten 1 (by omega)
        have t2 := hg.ten 2 (by omega)
        have t3 := hg.ten 3 (by omega)
        have t4 := hg.ten 4 (by omega)
        have t5 := hg.ten 5 (by omega)
        have t6 := hg.ten 6 (by omega)
        have t7 := hg.ten 7 (by omega)
        have t8 := hg.ten 8 (by omega)
        have t9 := hg.ten 9 (by omega)
        simp at t0 t1 t2 t3 t4 t5 t6 t7 t8 t9
        have t10 := hg.at10
        have hcR := hg.res
        have hfR := hg.rfr
        have HOwn : Hid (OwnI wr (w.heap.size + 2) (.slice la (rVs bs (rCnt bs)).length lc) (rVs bs (rCnt bs))) := hg.own
        have HBel : Hid _ := hg.bel
        clear hg HGr
        have key : ∀ W, OwnI W (w.heap.size + 2) (.slice la (rVs bs (rCnt bs)).length lc) (rVs bs (rCnt bs)) → OwnI W w.heap.size (.slice la (rVs bs (rCnt bs)).length lc) (rVs bs (rCnt bs)) := fun W h => h.low (by omega)
        obtain ⟨W, hW, ⟨c0, c1, c2, c3, c4, c5, c6, c7, c8, c9, c10⟩, hbut, hbl2⟩ := put11 wr w.heap.size (Value.int IntKind.i64 9) (Value.int IntKind.i64 ((rf bs : Nat) : Int)) (Value.int IntKind.i64 (rn bs 2 8)) (Value.int IntKind.i64 0) (Value.int IntKind.i64 0) (Value.int IntKind.i64 0) (Value.int IntKind.i64 0) (Value.int IntKind.i64 (rn bs 10 8)) (Value.int IntKind.i64 0) (Value.int IntKind.i64 0) (.slice la (rVs bs (rCnt bs)).length lc) (fun i hi => by rw [hcR]; simp; omega)
        have HW : Hid _ := hW
        have hbelW := hbl2 w.heap.size w (Nat.le_refl _) HBel.out
        have hownW := key W (HOwn.out.but hbut (by omega))
        have HOW : Hid _ := hownW
        clear hW hbut hbl2 hownW key
        by_cases h18 : 18 < bs.length
        · have hp18 : 18 < (strOf bs).size := by omega
          have e18 := strOf_at bs 18 h18 hp18
          have hx18 := UInt8.toNat_lt bs[18]
          have e18' : (bs.getD 18 0) = bs[18] := by rw [List.getD_eq_getElem?_getD, List.getElem?_eq_getElem h18, Option.getD_some]; rfl
          have hcnt : rCnt bs = min bs[18].toNat 4 := by unfold rCnt; rw [if_pos h18, e18']
          have HC : Hid _ := hcnt
          have hw18 : IntKind.i64.wrap ((strOf bs)[18].toNat : Int) = (bs[18].toNat : Int) := by rw [e18, wrap_small _ (by omega) (by omega)]
          have hw18' : wrap64 ((strOf bs)[18].toNat : Int) = (bs[18].toNat : Int) := by rw [e18, w64 _ (by omega) (by omega)]
          clear e18 e18'
          by_cases hlt : (rCnt bs : Int) < (bs[18].toNat : Int)
          · have h4 : ¬ ((rCnt bs : Int) < 4) := by omega
            clear hcnt
            generalize (bs[18].toNat : Int) = S18 at *
            go_wp2
            rw [HW.out]
            exact bodyPost_ret (v := .agg #[Value.int IntKind.i64 9, Value.int IntKind.i64 ((rf bs : Nat) : Int), Value.int IntKind.i64 (rn bs 2 8), Value.int IntKind.i64 0, Value.int IntKind.i64 0, Value.int IntKind.i64 0, Value.int IntKind.i64 0, Value.int IntKind.i64 (rn bs 10 8), Value.int IntKind.i64 0, Value.int IntKind.i64 0, .slice la (rVs bs (rCnt bs)).length lc]) (by simp [results, Tryz.results159, go_sem, c0, c1, c2, c3, c4, c5, c6, c7, c8, c9, c10]) rfl ⟨_, _, _, _, _, _, _, _, _, by rw [HK.out]; rfl, HN.out, by rw [HV.out]; exact HOW.out, hbelW, HZ0.out⟩
          · clear hcnt
            generalize (bs[18].toNat : Int) = S18 at *
            go_wp2
            rw [HW.out]
            exact bodyPost_ret (v := .agg #[Value.int IntKind.i64 9, Value.int IntKind.i64 ((rf bs : Nat) : Int), Value.int IntKind.i64 (rn bs 2 8), Value.int IntKind.i64 0, Value.int IntKind.i64 0, Value.int IntKind.i64 0, Value.int IntKind.i64 0, Value.int IntKind.i64 (rn bs 10 8), Value.int IntKind.i64 0, Value.int IntKind.i64 0, .slice la (rVs bs (rCnt bs)).length lc]) (by simp [results, Tryz.results159, go_sem, c0, c1, c2, c3, c4, c5, c6, c7, c8, c9, c10]) rfl ⟨_, _, _, _, _, _, _, _, _, by rw [HK.out]; rfl, HN.out, by rw [HV.out]; exact HOW.out, hbelW, HZ0.out⟩
        · go_wp2
          rw [HW.out]
          exact bodyPost_ret (v := .agg #[Value.int IntKind.i64 9, Value.int IntKind.i64 ((rf bs : Nat) : Int), Value.int IntKind.i64 (rn bs 2 8), Value.int IntKind.i64 0, Value.int IntKind.i64 0, Value.int IntKind.i64 0, Value.int IntKind.i64 0, Value.int IntKind.i64 (rn bs 10 8), Value.int IntKind.i64 0, Value.int IntKind.i64 0, .slice la (rVs bs (rCnt bs)).length lc]) (by simp [results, Tryz.results159, go_sem, c0, c1, c2, c3, c4, c5, c6, c7, c8, c9, c10]) rfl ⟨_, _, _, _, _, _, _, _, _, by rw [HK.out]; rfl, HN.out, by rw [HV.out]; exact HOW.out, hbelW, HZ0.out⟩
  by_cases k1 : rk bs = 1
  · have hk := k1
    clear k1 h9
    have HN : Hid (rNums bs = [0, rn bs 2 8, rn bs 10 8, 0, 0, 0, 0, 0, 0, ((rVals bs).length : Int)]) := by
      unfold Hid rNums
      rw [hk, if_pos (by omega)]
    have HV : Hid (rVals bs = []) := rVals_not (by omega)
    rw [hk] at hcM
    have HK : Hid _ := hk
    clear hk
    have m0 := hcM 0
    have m1 := hcM 1
    have m2 := hcM 2
    have m3 := hcM 3
    have m4 := hcM 4
    have m5 := hcM 5
    have m6 := hcM 6
    have m7 := hcM 7
    have m8 := hcM 8
    have m9 := hcM 9
    have m10 := hcM 10
    simp at m0 m1 m2 m3 m4 m5 m6 m7 m8 m9 m10
    clear hcM
    go_wp2_with (first | (go_at_call 217; refine (rnum_at bs 2 1 10 _ _ _ (by omega) (by omega) (by omega) (by omega) (by omega) rfl).mono ?_; rintro e w' ⟨rfl, hh⟩; replace hh := hh.symm; subst hh) | (go_at_call 217; refine (rnum_at bs 2 2 18 _ _ _ (by omega) (by omega) (by omega) (by omega) (by omega) rfl).mono ?_; rintro e w' ⟨rfl, hh⟩; replace hh := hh.symm; subst hh) | (go_at_call 217; refine (rnum_at bs 2 3 26 _ _ _ (by omega) (by omega) (by omega) (by omega) (by omega) rfl).mono ?_; rintro e w' ⟨rfl, hh⟩; replace hh := hh.symm; subst hh) | (go_at_call 217; refine (rnum_at bs 2 4 34 _ _ _ (by omega) (by omega) (by omega) (by omega) (by omega) rfl).mono ?_; rintro e w' ⟨rfl, hh⟩; replace hh := hh.symm; subst hh))
    obtain ⟨W, hW, ⟨c0, c1, c2, c3, c4, c5, c6, c7, c8, c9, c10⟩, hbut, hbl2⟩ := put11 (W0.setCell ⟨w.heap.size + 1, 3, none⟩ (Value.int IntKind.i64 (rn bs 10 8))) w.heap.size (Value.int IntKind.i64 1) (Value.int IntKind.i64 ((rf bs : Nat) : Int)) (Value.int IntKind.i64 (rn bs 2 8)) (Value.int IntKind.i64 (rn bs 10 8)) (Value.int IntKind.i64 0) (Value.int IntKind.i64 0) (Value.int IntKind.i64 0) (Value.int IntKind.i64 0) (Value.int IntKind.i64 0) (Value.int IntKind.i64 0) (Value.slice none 0 0) (fun i hi => by simp [World.cell?_setCell_other, hcR]; omega)
    have hbelW := hbl2 w.heap.size w (Nat.le_refl _) ((Below.setCell hbl (by show w.heap.size ≤ w.heap.size + 1; omega) _))
    rw [hW]
    clear hW hcR hfR hbut
    exact bodyPost_ret (v := .agg #[Value.int IntKind.i64 1, Value.int IntKind.i64 ((rf bs : Nat) : Int), Value.int IntKind.i64 (rn bs 2 8), Value.int IntKind.i64 (rn bs 10 8), Value.int IntKind.i64 0, Value.int IntKind.i64 0, Value.int IntKind.i64 0, Value.int IntKind.i64 0, Value.int IntKind.i64 0, Value.int IntKind.i64 0, Value.slice none 0 0]) (by simp [results, Tryz.results159, go_sem, c0, c1, c2, c3, c4, c5, c6, c7, c8, c9, c10]) rfl ⟨_, _, _, _, _, _, _, _, _, by rw [HK.out]; rfl, HN.out, by rw [HV.out]; exact HNil.out _, hbelW, HZ0.out⟩
  by_cases k2 : rk bs = 2
  · have hk := k2
    clear k2 h9 k1
    have HN : Hid (rNums bs = [0, rn bs 2 8, rn bs 10 8, rn bs 18 8, rn bs 26 8, rn bs 34 8, 0, 0, 0, ((rVals bs).length : Int)]) := by
      unfold Hid rNums
      rw [hk, if_neg (by omega), if_pos (by omega)]
    have HV : Hid (rVals bs = []) := rVals_not (by omega)
    rw [hk] at hcM
    have HK : Hid _ := hk
    clear hk
    have m0 := hcM 0
    have m1 := hcM 1
    have m2 := hcM 2
    have m3 := hcM 3
    have m4 := hcM 4
    have m5 := hcM 5
    have m6 := hcM 6
    have m7 := hcM 7
    have m8 := hcM 8
    have m9 := hcM 9
    have m10 := hcM 10
    simp at m0 m1 m2 m3 m4 m5 m6 m7 m8 m9 m10
    clear hcM
    go_wp2_with (first | (go_at_call 217; refine (rnum_at bs 2 1 10 _ _ _ (by omega) (by omega) (by omega) (by omega) (by omega) rfl).mono ?_; rintro e w' ⟨rfl, hh⟩; replace hh := hh.symm; subst hh) | (go_at_call 217; refine (rnum_at bs 2 2 18 _ _ _ (by omega) (by omega) (by omega) (by omega) (by omega) rfl).mono ?_; rintro e w' ⟨rfl, hh⟩; replace hh := hh.symm; subst hh) | (go_at_call 217; refine (rnum_at bs 2 3 26 _ _ _ (by omega) (by omega) (by omega) (by omega) (by omega) rfl).mono ?_; rintro e w' ⟨rfl, hh⟩; replace hh := hh.symm; subst hh) | (go_at_call 217; refine (rnum_at bs 2 4 34 _ _ _ (by omega) (by omega) (by omega) (by omega) (by omega) rfl).mono ?_; rintro e w' ⟨rfl, hh⟩; replace hh := hh.symm; subst hh))
    obtain ⟨W, hW, ⟨c0, c1, c2, c3, c4, c5, c6, c7, c8, c9, c10⟩, hbut, hbl2⟩ := put11 ((((W0.setCell ⟨w.heap.size + 1, 3, none⟩ (Value.int IntKind.i64 (rn bs 10 8))).setCell ⟨w.heap.size + 1, 4, none⟩ (Value.int IntKind.i64 (rn bs 18 8))).setCell ⟨w.heap.size + 1, 5, none⟩ (Value.int IntKind.i64 (rn bs 26 8))).setCell ⟨w.heap.size + 1, 6, none⟩ (Value.int IntKind.i64 (rn bs 34 8))) w.heap.size (Value.int IntKind.i64 2) (Value.int IntKind.i64 ((rf bs : Nat) : Int)) (Value.int IntKind.i64 (rn bs 2 8)) (Value.int IntKind.i64 (rn bs 10 8)) (Value.int IntKind.i64 (rn bs 18 8)) (Value.int IntKind.i64 (rn bs 26 8)) (Value.int IntKind.i64 (rn bs 34 8)) (Value.int IntKind.i64 0) (Value.int IntKind.i64 0) (Value.int IntKind.i64 0) (Value.slice none 0 0) (fun i hi => by simp [World.cell?_setCell_other, hcR]; omega)
    have hbelW := hbl2 w.heap.size w (Nat.le_refl _) ((Below.setCell (Below.setCell (Below.setCell (Below.setCell hbl (by show w.heap.size ≤ w.heap.size + 1; omega) _) (by show w.heap.size ≤ w.heap.size + 1; omega) _) (by show w.heap.size ≤ w.heap.size + 1; omega) _) (by show w.heap.size ≤ w.heap.size + 1; omega) _))
    rw [hW]
    clear hW hcR hfR hbut
    exact bodyPost_ret (v := .agg #[Value.int IntKind.i64 2, Value.int IntKind.i64 ((rf bs : Nat) : Int), Value.int IntKind.i64 (rn bs 2 8), Value.int IntKind.i64 (rn bs 10 8), Value.int IntKind.i64 (rn bs 18 8), Value.int IntKind.i64 (rn bs 26 8), Value.int IntKind.i64 (rn bs 34 8), Value.int IntKind.i64 0, Value.int IntKind.i64 0, Value.int IntKind.i64 0, Value.slice none 0 0]) (by simp [results, Tryz.results159, go_sem, c0, c1, c2, c3, c4, c5, c6, c7, c8, c9, c10]) rfl ⟨_, _, _, _, _, _, _, _, _, by rw [HK.out]; rfl, HN.out, by rw [HV.out]; exact HNil.out _, hbelW, HZ0.out⟩
  by_cases k3 : rk bs = 3
  · have hk := k3
    clear k3 h9 k1 k2
    have HN : Hid (rNums bs = [0, rn bs 2 8, rn bs 10 8, 0, rn bs 18 8, rn bs 26 8, 0, 0, 0, ((rVals bs).length : Int)]) := by
      unfold Hid rNums
      rw [hk, if_neg (by omega), if_neg (by omega), if_pos (by omega)]
    have HV : Hid (rVals bs = []) := rVals_not (by omega)
    rw [hk] at hcM
    have HK : Hid _ := hk
    clear hk
    have m0 := hcM 0
    have m1 := hcM 1
    have m2 := hcM 2
    have m3 := hcM 3
    have m4 := hcM 4
    have m5 := hcM 5
    have m6 := hcM 6
    have m7 := hcM 7
    have m8 := hcM 8
    have m9 := hcM 9
    have m10 := hcM 10
    simp at m0 m1 m2 m3 m4 m5 m6 m7 m8 m9 m10
    clear hcM
    go_wp2_with (first | (go_at_call 217; refine (rnum_at bs 2 1 10 _ _ _ (by omega) (by omega) (by omega) (by omega) (by omega) rfl).mono ?_; rintro e w' ⟨rfl, hh⟩; replace hh := hh.symm; subst hh) | (go_at_call 217; refine (rnum_at bs 2 2 18 _ _ _ (by omega) (by omega) (by omega) (by omega) (by omega) rfl).mono ?_; rintro e w' ⟨rfl, hh⟩; replace hh := hh.symm; subst hh) | (go_at_call 217; refine (rnum_at bs 2 3 26 _ _ _ (by omega) (by omega) (by omega) (by omega) (by omega) rfl).mono ?_; rintro e w' ⟨rfl, hh⟩; replace hh := hh.symm; subst hh) | (go_at_call 217; refine (rnum_at bs 2 4 34 _ _ _ (by omega) (by omega) (by omega) (by omega) (by omega) rfl).mono ?_; rintro e w' ⟨rfl, hh⟩; replace hh := hh.symm; subst hh))
    obtain ⟨W, hW, ⟨c0, c1, c2, c3, c4, c5, c6, c7, c8, c9, c10⟩, hbut, hbl2⟩ := put11 (((W0.setCell ⟨w.heap.size + 1, 3, none⟩ (Value.int IntKind.i64 (rn bs 10 8))).setCell ⟨w.heap.size + 1, 5, none⟩ (Value.int IntKind.i64 (rn bs 18 8))).setCell ⟨w.heap.size + 1, 6, none⟩ (Value.int IntKind.i64 (rn bs 26 8))) w.heap.size (Value.int IntKind.i64 3) (Value.int IntKind.i64 ((rf bs : Nat) : Int)) (Value.int IntKind.i64 (rn bs 2 8)) (Value.int IntKind.i64 (rn bs 10 8)) (Value.int IntKind.i64 0) (Value.int IntKind.i64 (rn bs 18 8)) (Value.int IntKind.i64 (rn bs 26 8)) (Value.int IntKind.i64 0) (Value.int IntKind.i64 0) (Value.int IntKind.i64 0) (Value.slice none 0 0) (fun i hi => by simp [World.cell?_setCell_other, hcR]; omega)
    have hbelW := hbl2 w.heap.size w (Nat.le_refl _) ((Below.setCell (Below.setCell (Below.setCell hbl (by show w.heap.size ≤ w.heap.size + 1; omega) _) (by show w.heap.size ≤ w.heap.size + 1; omega) _) (by show w.heap.size ≤ w.heap.size + 1; omega) _))
    rw [hW]
    clear hW hcR hfR hbut
    exact bodyPost_ret (v := .agg #[Value.int IntKind.i64 3, Value.int IntKind.i64 ((rf bs : Nat) : Int), Value.int IntKind.i64 (rn bs 2 8), Value.int IntKind.i64 (rn bs 10 8), Value.int IntKind.i64 0, Value.int IntKind.i64 (rn bs 18 8), Value.int IntKind.i64 (rn bs 26 8), Value.int IntKind.i64 0, Value.int IntKind.i64 0, Value.int IntKind.i64 0, Value.slice none 0 0]) (by simp [results, Tryz.results159, go_sem, c0, c1, c2, c3, c4, c5, c6, c7, c8, c9, c10]) rfl ⟨_, _, _, _, _, _, _, _, _, by rw [HK.out]; rfl, HN.out, by rw [HV.out]; exact HNil.out _, hbelW, HZ0.out⟩
  by_cases k4 : rk bs = 4
  · have hk := k4
    clear k4 h9 k1 k2 k3
    have HN : Hid (rNums bs = [0, rn bs 2 8, rn bs 10 8, 0, 0, 0, 0, 0, 0, ((rVals bs).length : Int)]) := by
      unfold Hid rNums
      rw [hk, if_pos (by omega)]
    have HV : Hid (rVals bs = []) := rVals_not (by omega)
    rw [hk] at hcM
    have HK : Hid _ := hk
    clear hk
    have m0 := hcM 0
    have m1 := hcM 1
    have m2 := hcM 2
    have m3 := hcM 3
    have m4 := hcM 4
    have m5 := hcM 5
    have m6 := hcM 6
    have m7 := hcM 7
    have m8 := hcM 8
    have m9 := hcM 9
    have m10 := hcM 10
    simp at m0 m1 m2 m3 m4 m5 m6 m7 m8 m9 m10
    clear hcM
    go_wp2_with (first | (go_at_call 217; refine (rnum_at bs 2 1 10 _ _ _ (by omega) (by omega) (by omega) (by omega) (by omega) rfl).mono ?_; rintro e w' ⟨rfl, hh⟩; replace hh := hh.symm; subst hh) | (go_at_call 217; refine (rnum_at bs 2 2 18 _ _ _ (by omega) (by omega) (by omega) (by omega) (by omega) rfl).mono ?_; rintro e w' ⟨rfl, hh⟩; replace hh := hh.symm; subst hh) | (go_at_call 217; refine (rnum_at bs 2 3 26 _ _ _ (by omega) (by omega) (by omega) (by omega) (by omega) rfl).mono ?_; rintro e w' ⟨rfl, hh⟩; replace hh := hh.symm; subst hh) | (go_at_call 217; refine (rnum_at bs 2 4 34 _ _ _ (by omega) (by omega) (by omega) (by omega) (by omega) rfl).mono ?_; rintro e w' ⟨rfl, hh⟩; replace hh := hh.symm; subst hh))
    obtain ⟨W, hW, ⟨c0, c1, c2, c3, c4, c5, c6, c7, c8, c9, c10⟩, hbut, hbl2⟩ := put11 (W0.setCell ⟨w.heap.size + 1, 3, none⟩ (Value.int IntKind.i64 (rn bs 10 8))) w.heap.size (Value.int IntKind.i64 4) (Value.int IntKind.i64 ((rf bs : Nat) : Int)) (Value.int IntKind.i64 (rn bs 2 8)) (Value.int IntKind.i64 (rn bs 10 8)) (Value.int IntKind.i64 0) (Value.int IntKind.i64 0) (Value.int IntKind.i64 0) (Value.int IntKind.i64 0) (Value.int IntKind.i64 0) (Value.int IntKind.i64 0) (Value.slice none 0 0) (fun i hi => by simp [World.cell?_setCell_other, hcR]; omega)
    have hbelW := hbl2 w.heap.size w (Nat.le_refl _) ((Below.setCell hbl (by show w.heap.size ≤ w.heap.size + 1; omega) _))
    rw [hW]
    clear hW hcR hfR hbut
    exact bodyPost_ret (v := .agg #[Value.int IntKind.i64 4, Value.int IntKind.i64 ((rf bs : Nat) : Int), Value.int IntKind.i64 (rn bs 2 8), Value.int IntKind.i64 (rn bs 10 8), Value.int IntKind.i64 0, Value.int IntKind.i64 0, Value.int IntKind.i64 0, Value.int IntKind.i64 0, Value.int IntKind.i64 0, Value.int IntKind.i64 0, Value.slice none 0 0]) (by simp [results, Tryz.results159, go_sem, c0, c1, c2, c3, c4, c5, c6, c7, c8, c9, c10]) rfl ⟨_, _, _, _, _, _, _, _, _, by rw [HK.out]; rfl, HN.out, by rw [HV.out]; exact HNil.out _, hbelW, HZ0.out⟩
  by_cases k5 : rk bs = 5
  · have hk := k5
    clear k5 h9 k1 k2 k3 k4
    have HN : Hid (rNums bs = [0, rn bs 2 8, rn bs 10 8, rn bs 18 8, 0, 0, 0, 0, 0, ((rVals bs).length : Int)]) := by
      unfold Hid rNums
      rw [hk, if_neg (by omega), if_neg (by omega), if_neg (by omega), if_pos (by omega)]
    have HV : Hid (rVals bs = []) := rVals_not (by omega)
    rw [hk] at hcM
    have HK : Hid _ := hk
    clear hk
    have m0 := hcM 0
    have m1 := hcM 1
    have m2 := hcM 2
    have m3 := hcM 3
    have m4 := hcM 4
    have m5 := hcM 5
    have m6 := hcM 6
    have m7 := hcM 7
    have m8 := hcM 8
    have m9 := hcM 9
    have m10 := hcM 10
    simp at m0 m1 m2 m3 m4 m5 m6 m7 m8 m9 m10
    clear hcM
    go_wp2_with (first | (go_at_call 217; refine (rnum_at bs 2 1 10 _ _ _ (by omega) (by omega) (by omega) (by omega) (by omega) rfl).mono ?_; rintro e w' ⟨rfl, hh⟩; replace hh := hh.symm; subst hh) | (go_at_call 217; refine (rnum_at bs 2 2 18 _ _ _ (by omega) (by omega) (by omega) (by omega) (by omega) rfl).mono ?_; rintro e w' ⟨rfl, hh⟩; replace hh := hh.symm; subst hh) | (go_at_call 217; refine (rnum_at bs 2 3 26 _ _ _ (by omega) (by omega) (by omega) (by omega) (by omega) rfl).mono ?_; rintro e w' ⟨rfl, hh⟩; replace hh := hh.symm; subst hh) | (go_at_call 217; refine (rnum_at bs 2 4 34 _ _ _ (by omega) (by omega) (by omega) (by omega) (by omega) rfl).mono ?_; rintro e w' ⟨rfl, hh⟩; replace hh := hh.symm; subst hh))
    obtain ⟨W, hW, ⟨c0, c1, c2, c3, c4, c5, c6, c7, c8, c9, c10⟩, hbut, hbl2⟩ := put11 ((W0.setCell ⟨w.heap.size + 1, 3, none⟩ (Value.int IntKind.i64 (rn bs 10 8))).setCell ⟨w.heap.size + 1, 4, none⟩ (Value.int IntKind.i64 (rn bs 18 8))) w.heap.size (Value.int IntKind.i64 5) (Value.int IntKind.i64 ((rf bs : Nat) : Int)) (Value.int IntKind.i64 (rn bs 2 8)) (Value.int IntKind.i64 (rn bs 10 8)) (Value.int IntKind.i64 (rn bs 18 8)) (Value.int IntKind.i64 0) (Value.int IntKind.i64 0) (Value.int IntKind.i64 0) (Value.int IntKind.i64 0) (Value.int IntKind.i64 0) (Value.slice none 0 0) (fun i hi => by simp [World.cell?_setCell_other, hcR]; omega)
    have hbelW := hbl2 w.heap.size w (Nat.le_refl _) ((Below.setCell (Below.setCell hbl (by show w.heap.size ≤ w.heap.size + 1; omega) _) (by show w.heap.size ≤ w.heap.size + 1; omega) _))
    rw [hW]
    clear hW hcR hfR hbut
    exact bodyPost_ret (v := .agg #[Value.int IntKind.i64 5, Value.int IntKind.i64 ((rf bs : Nat) : Int), Value.int IntKind.i64 (rn bs 2 8), Value.int IntKind.i64 (rn bs 10 8), Value.int IntKind.i64 (rn bs 18 8), Value.int IntKind.i64 0, Value.int IntKind.i64 0, Value.int IntKind.i64 0, Value.int IntKind.i64 0, Value.int IntKind.i64 0, Value.slice none 0 0]) (by simp [results, Tryz.results159, go_sem, c0, c1, c2, c3, c4, c5, c6, c7, c8, c9, c10]) rfl ⟨_, _, _, _, _, _, _, _, _, by rw [HK.out]; rfl, HN.out, by rw [HV.out]; exact HNil.out _, hbelW, HZ0.out⟩
  by_cases k6 : rk bs = 6
  · have hk := k6
    clear k6 h9 k1 k2 k3 k4 k5
    have HN : Hid (rNums bs = [0, rn bs 2 8, 0, 0, rn bs 10 8, rn bs 18 8, 0, 0, 0, ((rVals bs).length : Int)]) := by
      unfold Hid rNums
      rw [hk, if_neg (by omega), if_neg (by omega), if_neg (by omega), if_neg (by omega), if_pos (by omega)]
    have HV : Hid (rVals bs = []) := rVals_not (by omega)
    rw [hk] at hcM
    have HK : Hid _ := hk
    clear hk
    have m0 := hcM 0
    have m1 := hcM 1
    have m2 := hcM 2
    have m3 := hcM 3
    have m4 := hcM 4
    have m5 := hcM 5
    have m6 := hcM 6
    have m7 := hcM 7
    have m8 := hcM 8
    have m9 := hcM 9
    have m10 := hcM 10
    simp at m0 m1 m2 m3 m4 m5 m6 m7 m8 m9 m10
    clear hcM
    go_wp2_with (first | (go_at_call 217; refine (rnum_at bs 2 1 10 _ _ _ (by omega) (by omega) (by omega) (by omega) (by omega) rfl).mono ?_; rintro e w' ⟨rfl, hh⟩; replace hh := hh.symm; subst hh) | (go_at_call 217; refine (rnum_at bs 2 2 18 _ _ _ (by omega) (by omega) (by omega) (by omega) (by omega) rfl).mono ?_; rintro e w' ⟨rfl, hh⟩; replace hh := hh.symm; subst hh) | (go_at_call 217; refine (rnum_at bs 2 3 26 _ _ _ (by omega) (by omega) (by omega) (by omega) (by omega) rfl).mono ?_; rintro e w' ⟨rfl, hh⟩; replace hh := hh.symm; subst hh) | (go_at_call 217; refine (rnum_at bs 2 4 34 _ _ _ (by omega) (by omega) (by omega) (by omega) (by omega) rfl).mono ?_; rintro e w' ⟨rfl, hh⟩; replace hh := hh.symm; subst hh))
    obtain ⟨W, hW, ⟨c0, c1, c2, c3, c4, c5, c6, c7, c8, c9, c10⟩, hbut, hbl2⟩ := put11 ((W0.setCell ⟨w.heap.size + 1, 5, none⟩ (Value.int IntKind.i64 (rn bs 10 8))).setCell ⟨w.heap.size + 1, 6, none⟩ (Value.int IntKind.i64 (rn bs 18 8))) w.heap.size (Value.int IntKind.i64 6) (Value.int IntKind.i64 ((rf bs : Nat) : Int)) (Value.int IntKind.i64 (rn bs 2 8)) (Value.int IntKind.i64 0) (Value.int IntKind.i64 0) (Value.int IntKind.i64 (rn bs 10 8)) (Value.int IntKind.i64 (rn bs 18 8)) (Value.int IntKind.i64 0) (Value.int IntKind.i64 0) (Value.int IntKind.i64 0) (Value.slice none 0 0) (fun i hi => by simp [World.cell?_setCell_other, hcR]; omega)
    have hbelW := hbl2 w.heap.size w (Nat.le_refl _) ((Below.setCell (Below.setCell hbl (by show w.heap.size ≤ w.heap.size + 1; omega) _) (by show w.heap.size ≤ w.heap.size + 1; omega) _))
    rw [hW]
    clear hW hcR hfR hbut
    exact bodyPost_ret (v := .agg #[Value.int IntKind.i64 6, Value.int IntKind.i64 ((rf bs : Nat) : Int), Value.int IntKind.i64 (rn bs 2 8), Value.int IntKind.i64 0, Value.int IntKind.i64 0, Value.int IntKind.i64 (rn bs 10 8), Value.int IntKind.i64 (rn bs 18 8), Value.int IntKind.i64 0, Value.int IntKind.i64 0, Value.int IntKind.i64 0, Value.slice none 0 0]) (by simp [results, Tryz.results159, go_sem, c0, c1, c2, c3, c4, c5, c6, c7, c8, c9, c10]) rfl ⟨_, _, _, _, _, _, _, _, _, by rw [HK.out]; rfl, HN.out, by rw [HV.out]; exact HNil.out _, hbelW, HZ0.out⟩
  by_cases k7 : rk bs = 7
  · have hk := k7
    clear k7 h9 k1 k2 k3 k4 k5 k6
    have HN : Hid (rNums bs = [0, rn bs 2 8, 0, 0, 0, 0, rn bs 10 8, rn bs 18 8, rn bs 26 8, ((rVals bs).length : Int)]) := by
      unfold Hid rNums
      rw [hk, if_neg (by omega), if_neg (by omega), if_neg (by omega), if_neg (by omega), if_neg (by omega), if_pos (by omega)]
    have HV : Hid (rVals bs = []) := rVals_not (by omega)
    rw [hk] at hcM
    have HK : Hid _ := hk
    clear hk
    have m0 := hcM 0
    have m1 := hcM 1
    have m2 := hcM 2
    have m3 := hcM 3
    have m4 := hcM 4
    have m5 := hcM 5
    have m6 := hcM 6
    have m7 := hcM 7
    have m8 := hcM 8
    have m9 := hcM 9
    have m10 := hcM 10
    simp at m0 m1 m2 m3 m4 m5 m6 m7 m8 m9 m10
    clear hcM
    go_wp2_with (first | (go_at_call 217; refine (rnum_at bs 2 1 10 _ _ _ (by omega) (by omega) (by omega) (by omega) (by omega) rfl).mono ?_; rintro e w' ⟨rfl, hh⟩; replace hh := hh.symm; subst hh) | (go_at_call 217; refine (rnum_at bs 2 2 18 _ _ _ (by omega) (by omega) (by omega) (by omega) (by omega) rfl).mono ?_; rintro e w' ⟨rfl, hh⟩; replace hh := hh.symm; subst hh) | (go_at_call 217; refine (rnum_at bs 2 3 26 _ _ _ (by omega) (by omega) (by omega) (by omega) (by omega) rfl).mono ?_; rintro e w' ⟨rfl, hh⟩; replace hh := hh.symm; subst hh) | (go_at_call 217; refine (rnum_at bs 2 4 34 _ _ _ (by omega) (by omega) (by omega) (by omega) (by omega) rfl).mono ?_; rintro e w' ⟨rfl, hh⟩; replace hh := hh.symm; subst hh))
    obtain ⟨W, hW, ⟨c0, c1, c2, c3, c4, c5, c6, c7, c8, c9, c10⟩, hbut, hbl2⟩ := put11 (((W0.setCell ⟨w.heap.size + 1, 7, none⟩ (Value.int IntKind.i64 (rn bs 10 8))).setCell ⟨w.heap.size + 1, 8, none⟩ (Value.int IntKind.i64 (rn bs 18 8))).setCell ⟨w.heap.size + 1, 9, none⟩ (Value.int IntKind.i64 (rn bs 26 8))) w.heap.size (Value.int IntKind.i64 7) (Value.int IntKind.i64 ((rf bs : Nat) : Int)) (Value.int IntKind.i64 (rn bs 2 8)) (Value.int IntKind.i64 0) (Value.int IntKind.i64 0) (Value.int IntKind.i64 0) (Value.int IntKind.i64 0) (Value.int IntKind.i64 (rn bs 10 8)) (Value.int IntKind.i64 (rn bs 18 8)) (Value.int IntKind.i64 (rn bs 26 8)) (Value.slice none 0 0) (fun i hi => by simp [World.cell?_setCell_other, hcR]; omega)
    have hbelW := hbl2 w.heap.size w (Nat.le_refl _) ((Below.setCell (Below.setCell (Below.setCell hbl (by show w.heap.size ≤ w.heap.size + 1; omega) _) (by show w.heap.size ≤ w.heap.size + 1; omega) _) (by show w.heap.size ≤ w.heap.size + 1; omega) _))
    rw [hW]
    clear hW hcR hfR hbut
    exact bodyPost_ret (v := .agg #[Value.int IntKind.i64 7, Value.int IntKind.i64 ((rf bs : Nat) : Int), Value.int IntKind.i64 (rn bs 2 8), Value.int IntKind.i64 0, Value.int IntKind.i64 0, Value.int IntKind.i64 0, Value.int IntKind.i64 0, Value.int IntKind.i64 (rn bs 10 8), Value.int IntKind.i64 (rn bs 18 8), Value.int IntKind.i64 (rn bs 26 8), Value.slice none 0 0]) (by simp [results, Tryz.results159, go_sem, c0, c1, c2, c3, c4, c5, c6, c7, c8, c9, c10]) rfl ⟨_, _, _, _, _, _, _, _, _, by rw [HK.out]; rfl, HN.out, by rw [HV.out]; exact HNil.out _, hbelW, rn_bd _ _ _⟩
  by_cases k8 : rk bs = 8
  · have hk := k8
    clear k8 h9 k1 k2 k3 k4 k5 k6 k7
    have HN : Hid (rNums bs = [0, rn bs 2 8, 0, 0, 0, 0, rn bs 10 8, 0, 0, ((rVals bs).length : Int)]) := by
      unfold Hid rNums
      rw [hk, if_neg (by omega), if_neg (by omega), if_neg (by omega), if_neg (by omega), if_neg (by omega), if_neg (by omega), if_pos (by omega)]
    have HV : Hid (rVals bs = []) := rVals_not (by omega)
    rw [hk] at hcM
    have HK : Hid _ := hk
    clear hk
    have m0 := hcM 0
    have m1 := hcM 1
    have m2 := hcM 2
    have m3 := hcM 3
    have m4 := hcM 4
    have m5 := hcM 5
    have m6 := hcM 6
    have m7 := hcM 7
    have m8 := hcM 8
    have m9 := hcM 9
    have m10 := hcM 10
    simp at m0 m1 m2 m3 m4 m5 m6 m7 m8 m9 m10
    clear hcM
    go_wp2_with (first | (go_at_call 217; refine (rnum_at bs 2 1 10 _ _ _ (by omega) (by omega) (by omega) (by omega) (by omega) rfl).mono ?_; rintro e w' ⟨rfl, hh⟩; replace hh := hh.symm; subst hh) | (go_at_call 217; refine (rnum_at bs 2 2 18 _ _ _ (by omega) (by omega) (by omega) (by omega) (by omega) rfl).mono ?_; rintro e w' ⟨rfl, hh⟩; replace hh := hh.symm; subst hh) | (go_at_call 217; refine (rnum_at bs 2 3 26 _ _ _ (by omega) (by omega) (by omega) (by omega) (by omega) rfl).mono ?_; rintro e w' ⟨rfl, hh⟩; replace hh := hh.symm; subst hh) | (go_at_call 217; refine (rnum_at bs 2 4 34 _ _ _ (by omega) (by omega) (by omega) (by omega) (by omega) rfl).mono ?_; rintro e w' ⟨rfl, hh⟩; replace hh := hh.symm; subst hh))
    obtain ⟨W, hW, ⟨c0, c1, c2, c3, c4, c5, c6, c7, c8, c9, c10⟩, hbut, hbl2⟩ := put11 (W0.setCell ⟨w.heap.size + 1, 7, none⟩ (Value.int IntKind.i64 (rn bs 10 8))) w.heap.size (Value.int IntKind.i64 8) (Value.int IntKind.i64 ((rf bs : Nat) : Int)) (Value.int IntKind.i64 (rn bs 2 8)) (Value.int IntKind.i64 0) (Value.int IntKind.i64 0) (Value.int IntKind.i64 0) (Value.int IntKind.i64 0) (Value.int IntKind.i64 (rn bs 10 8)) (Value.int IntKind.i64 0) (Value.int IntKind.i64 0) (Value.slice none 0 0) (fun i hi => by simp [World.cell?_setCell_other, hcR]; omega)
    have hbelW := hbl2 w.heap.size w (Nat.le_refl _) ((Below.setCell hbl (by show w.heap.size ≤ w.heap.size + 1; omega) _))
    rw [hW]
    clear hW hcR hfR hbut
    exact bodyPost_ret (v := .agg #[Value.int IntKind.i64 8, Value.int IntKind.i64 ((rf bs : Nat) : Int), Value.int IntKind.i64 (rn bs 2 8), Value.int IntKind.i64 0, Value.int IntKind.i64 0, Value.int IntKind.i64 0, Value.int IntKind.i64 0, Value.int IntKind.i64 (rn bs 10 8), Value.int IntKind.i64 0, Value.int IntKind.i64 0, Value.slice none 0 0]) (by simp [results, Tryz.results159, go_sem, c0, c1, c2, c3, c4, c5, c6, c7, c8, c9, c10]) rfl ⟨_, _, _, _, _, _, _, _, _, by rw [HK.out]; rfl, HN.out, by rw [HV.out]; exact HNil.out _, hbelW, HZ0.out⟩
  by_cases k10 : rk bs = 10
  · have hk := k10
    clear k10 h9 k1 k2 k3 k4 k5 k6 k7 k8
    have HN : Hid (rNums bs = [0, rn bs 2 8, 0, 0, 0, 0, rn bs 10 8, 0, 0, ((rVals bs).length : Int)]) := by
      unfold Hid rNums
      rw [hk, if_neg (by omega), if_neg (by omega), if_neg (by omega), if_neg (by omega), if_neg (by omega), if_neg (by omega), if_pos (by omega)]
    have HV : Hid (rVals bs = []) := rVals_not (by omega)
    rw [hk] at hcM
    have HK : Hid _ := hk
    clear hk
    have m0 := hcM 0
    have m1 := hcM 1
    have m2 := hcM 2
    have m3 := hcM 3
    have m4 := hcM 4
    have m5 := hcM 5
    have m6 := hcM 6
    have m7 := hcM 7
    have m8 := hcM 8
    have m9 := hcM 9
    have m10 := hcM 10
    simp at m0 m1 m2 m3 m4 m5 m6 m7 m8 m9 m10
    clear hcM
    go_wp2_with (first | (go_at_call 217; refine (rnum_at bs 2 1 10 _ _ _ (by omega) (by omega) (by omega) (by omega) (by omega) rfl).mono ?_; rintro e w' ⟨rfl, hh⟩; replace hh := hh.symm; subst hh) | (go_at_call 217; refine (rnum_at bs 2 2 18 _ _ _ (by omega) (by omega) (by omega) (by omega) (by omega) rfl).mono ?_; rintro e w' ⟨rfl, hh⟩; replace hh := hh.symm; subst hh) | (go_at_call 217; refine (rnum_at bs 2 3 26 _ _ _ (by omega) (by omega) (by omega) (by omega) (by omega) rfl).mono ?_; rintro e w' ⟨rfl, hh⟩; replace hh := hh.symm; subst hh) | (go_at_call 217; refine (rnum_at bs 2 4 34 _ _ _ (by omega) (by omega) (by omega) (by omega) (by omega) rfl).mono ?_; rintro e w' ⟨rfl, hh⟩; replace hh := hh.symm; subst hh))
    obtain ⟨W, hW, ⟨c0, c1, c2, c3, c4, c5, c6, c7, c8, c9, c10⟩, hbut, hbl2⟩ := put11 (W0.setCell ⟨w.heap.size + 1, 7, none⟩ (Value.int IntKind.i64 (rn bs 10 8))) w.heap.size (Value.int IntKind.i64 10) (Value.int IntKind.i64 ((rf bs : Nat) : Int)) (Value.int IntKind.i64 (rn bs 2 8)) (Value.int IntKind.i64 0) (Value.int IntKind.i64 0) (Value.int IntKind.i64 0) (Value.int IntKind.i64 0) (Value.int IntKind.i64 (rn bs 10 8)) (Value.int IntKind.i64 0) (Value.int IntKind.i64 0) (Value.slice none 0 0) (fun i hi => by simp [World.cell?_setCell_other, hcR]; omega)
    have hbelW := hbl2 w.heap.size w (Nat.le_refl _) ((Below.setCell hbl (by show w.heap.size ≤ w.heap.size + 1; omega) _))
    rw [hW]
    clear hW hcR hfR hbut
    exact bodyPost_ret (v := .agg #[Value.int IntKind.i64 10, Value.int IntKind.i64 ((rf bs : Nat) : Int), Value.int IntKind.i64 (rn bs 2 8), Value.int IntKind.i64 0, Value.int IntKind.i64 0, Value.int IntKind.i64 0, Value.int IntKind.i64 0, Value.int IntKind.i64 (rn bs 10 8), Value.int IntKind.i64 0, Value.int IntKind.i64 0, Value.slice none 0 0]) (by simp [results, Tryz.results159, go_sem, c0, c1, c2, c3, c4, c5, c6, c7, c8, c9, c10]) rfl ⟨_, _, _, _, _, _, _, _, _, by rw [HK.out]; rfl, HN.out, by rw [HV.out]; exact HNil.out _, hbelW, HZ0.out⟩
  · skip
    have HN : Hid (rNums bs = [0, rn bs 2 8, 0, 0, 0, 0, 0, 0, 0, ((rVals bs).length : Int)]) := by
      unfold Hid rNums
      rw [if_neg (by omega), if_neg (by omega), if_neg (by omega), if_neg (by omega), if_neg (by omega), if_neg (by omega), if_neg (by omega)]
    have HV : Hid (rVals bs = []) := rVals_not (by omega)
    have q1 : (((rk bs : Nat) : Int) == 1) = false := by simp; omega
    have q2 : (((rk bs : Nat) : Int) == 2) = false := by simp; omega
    have q3 : (((rk bs : Nat) : Int) == 3) = false := by simp; omega
    have q4 : (((rk bs : Nat) : Int) == 4) = false := by simp; omega
    have q5 : (((rk bs : Nat) : Int) == 5) = false := by simp; omega
    have q6 : (((rk bs : Nat) : Int) == 6) = false := by simp; omega
    have q7 : (((rk bs : Nat) : Int) == 7) = false := by simp; omega
    have q8 : (((rk bs : Nat) : Int) == 8) = false := by simp; omega
    have q9 : (((rk bs : Nat) : Int) == 9) = false := by simp; omega
    have q10 : (((rk bs : Nat) : Int) == 10) = false := by simp; omega
    clear k1 k2 k3 k4 k5 k6 k7 k8 k10 h9
    have m0 := hcM 0
    have m1 := hcM 1
    have m2 := hcM 2
    have m3 := hcM 3
    have m4 := hcM 4
    have m5 := hcM 5
    have m6 := hcM 6
    have m7 := hcM 7
    have m8 := hcM 8
    have m9 := hcM 9
    have m10 := hcM 10
    simp at m0 m1 m2 m3 m4 m5 m6 m7 m8 m9 m10
    clear hcM
    go_wp2_with (first | (go_at_call 217; refine (rnum_at bs 2 1 10 _ _ _ (by omega) (by omega) (by omega) (by omega) (by omega) rfl).mono ?_; rintro e w' ⟨rfl, hh⟩; replace hh := hh.symm; subst hh) | (go_at_call 217; refine (rnum_at bs 2 2 18 _ _ _ (by omega) (by omega) (by omega) (by omega) (by omega) rfl).mono ?_; rintro e w' ⟨rfl, hh⟩; replace hh := hh.symm; subst hh) | (go_at_call 217; refine (rnum_at bs 2 3 26 _ _ _ (by omega) (by omega) (by omega) (by omega) (by omega) rfl).mono ?_; rintro e w' ⟨rfl, hh⟩; replace hh := hh.symm; subst hh) | (go_at_call 217; refine (rnum_at bs 2 4 34 _ _ _ (by omega) (by omega) (by omega) (by omega) (by omega) rfl).mono ?_; rintro e w' ⟨rfl, hh⟩; replace hh := hh.symm; subst hh))
    obtain ⟨W, hW, ⟨c0, c1, c2, c3, c4, c5, c6, c7, c8, c9, c10⟩, hbut, hbl2⟩ := put11 W0 w.heap.size (Value.int IntKind.i64 ((rk bs : Nat) : Int)) (Value.int IntKind.i64 ((rf bs : Nat) : Int)) (Value.int IntKind.i64 (rn bs 2 8)) (Value.int IntKind.i64 0) (Value.int IntKind.i64 0) (Value.int IntKind.i64 0) (Value.int IntKind.i64 0) (Value.int IntKind.i64 0) (Value.int IntKind.i64 0) (Value.int IntKind.i64 0) (Value.slice none 0 0) (fun i hi => by simp [World.cell?_setCell_other, hcR]; omega)
    have hbelW := hbl2 w.heap.size w (Nat.le_refl _) (hbl)
    rw [hW]
    clear hW hcR hfR hbut
    exact bodyPost_ret (v := .agg #[Value.int IntKind.i64 ((rk bs : Nat) : Int), Value.int IntKind.i64 ((rf bs : Nat) : Int), Value.int IntKind.i64 (rn bs 2 8), Value.int IntKind.i64 0, Value.int IntKind.i64 0, Value.int IntKind.i64 0, Value.int IntKind.i64 0, Value.int IntKind.i64 0, Value.int IntKind.i64 0, Value.int IntKind.i64 0, Value.slice none 0 0]) (by simp [results, Tryz.results159, go_sem, c0, c1, c2, c3, c4, c5, c6, c7, c8, c9, c10]) rfl ⟨_, _, _, _, _, _, _, _, _, rfl, HN.out, by rw [HV.out]; exact HNil.out _, hbelW, HZ0.out⟩

end Go.Proofs.YtdcainmlcpafbaaGreatDoor
