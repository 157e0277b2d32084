import Derived.Test.YtdcainmlcpafbaaGreatDoorA3
import Derived.Deep.QuietTactic
import Derived.BigQuiet
namespace Go.Proofs.YtdcainmlcpafbaaGreatDoor
open Go.RowKit

def fieldTab : List (List Nat) := [[0,0,0,0,0],[1,2,0,0,0],[1,2,3,4,5],[1,2,4,5,0],[1,2,0,0,0],[1,2,3,0,0],[1,4,5,0,0],[1,6,7,8,0],[1,6,0,0,0],[1,6,9,0,0],[1,6,0,0,0]]
def fieldAt (k j : Nat) : Nat := (fieldTab.getD k []).getD j 0
def loTab : List Int := [0,0,0,0,0,0,0,0,-9223372036854775808,0]
def hiTab : List Int := [0,1000000000000,1000000000000,1000000000000,5,31,1000000000000,3,9223372036854775807,4]
def loOf (f : Nat) : Int := loTab.getD f 0
def hiOf (f : Nat) : Int := hiTab.getD f 0
structure Tabs (w : World) : Prop where
  fld : ∀ k j, k < 11 → j < 5 → w.cell? ⟨0, k * 5 + j, none⟩ = some (.int .i64 (fieldAt k j))
  lim : ∀ f, f < 10 → w.cell? ⟨1, f * 2, none⟩ = some (.int .i64 (loOf f)) ∧ w.cell? ⟨1, f * 2 + 1, none⟩ = some (.int .i64 (hiOf f))
  two : 2 ≤ w.heap.size
theorem fieldAt_lt (k j : Nat) (hk : k < 11) (hj : j < 5) : fieldAt k j < 10 := by
  have : ∀ k < 11, ∀ j < 5, fieldAt k j < 10 := by decide
  exact this k hk j hj

theorem Tabs.below {w w' : World} (h : Tabs w) {B : Nat} (hb : Below B w w') (hB : 2 ≤ B) : Tabs w' :=
  ⟨fun k j hk hj => (hb.cell (p := ⟨0, k * 5 + j, none⟩) (by show 0 < B; omega)).trans (h.fld k j hk hj),
   fun f hf => ⟨(hb.cell (p := ⟨1, f * 2, none⟩) (by show 1 < B; omega)).trans (h.lim f hf).1, (hb.cell (p := ⟨1, f * 2 + 1, none⟩) (by show 1 < B; omega)).trans (h.lim f hf).2⟩,
   Nat.le_trans h.two hb.size⟩

theorem bcell {B : Nat} {W w1 : World} (hb : Below B W w1) : (∀ b o, b < B → w1.cell? ⟨b, o, none⟩ = W.cell? ⟨b, o, none⟩) ∧ (∀ b o, b < B → w1.frozen? ⟨b, o, none⟩ = W.frozen? ⟨b, o, none⟩) :=
  ⟨fun b o h => hb.cell (p := ⟨b, o, none⟩) h, fun b o h => hb.frozen (p := ⟨b, o, none⟩) h⟩

def outB (k f : Int) : Bool := decide (k < 1 ∨ 10 < k ∨ f < 0 ∨ 5 ≤ f)

set_option maxHeartbeats 400000 in
theorem isMessage_out (k f e b wa p s q bl v : Int) (a : Option Addr) (n c : Nat) (w : World) (h : k < 1 ∨ 10 < k ∨ f < 0 ∨ 5 ≤ f) :
    Calls Tryz.prog 211 #[.agg #[.int .i64 k, .int .i64 f, .int .i64 e, .int .i64 b, .int .i64 wa, .int .i64 p, .int .i64 s, .int .i64 q, .int .i64 bl, .int .i64 v, .slice a n c]] w fun r w' =>
      r = .returned (.bool false) ∧ Below w.heap.size w w' := by
  by_cases h1 : k < 1
  · go_enter Tryz.func211, Tryz.ntmps211
    go_wp2
    go_ret
    exact ⟨rfl, (Below.refl _ _).alloc (Nat.le_refl _) _⟩
  by_cases h2 : 10 < k
  · go_enter Tryz.func211, Tryz.ntmps211
    go_wp2
    go_ret
    exact ⟨rfl, (Below.refl _ _).alloc (Nat.le_refl _) _⟩
  by_cases h3 : f < 0
  · go_enter Tryz.func211, Tryz.ntmps211
    go_wp2
    go_ret
    exact ⟨rfl, (Below.refl _ _).alloc (Nat.le_refl _) _⟩
  have h4 : 5 ≤ f := by omega
  go_enter Tryz.func211, Tryz.ntmps211
  go_wp2
  go_ret
  exact ⟨rfl, (Below.refl _ _).alloc (Nat.le_refl _) _⟩

theorem forIn_all {P : Program} {w : World} (f : Nat → Bool) (body : Nat → Option Bool × Unit → Sem (ForInStep (Option Bool × Unit))) : ∀ (l : List Nat),
    (∀ i ∈ l, (body i (none, ())).run P w = .ok (if f i then .yield (none, ()) else .done (some false, ())) w) →
    (forIn l ((none, ()) : Option Bool × Unit) body).run P w = .ok (if l.all f then (none, ()) else (some false, ())) w
  | [], _ => by simp
  | i :: l, h => by
    rw [List.forIn_cons, Sem.run_bind, h i (by simp), Result.andThen_ok]
    cases hf : f i
    · simp [hf]
    · simp only [if_true, List.all_cons, hf, Bool.true_and]
      exact forIn_all f body l fun j hj => h j (by simp [hj])

theorem size3 (w : World) : (sizeOf 3).run Tryz.prog w = .ok 1 w := by kernel_rfl
theorem part3 (xs : Array Value) (i : Nat) (v : Value) (h : xs[i]? = some v) (w : World) : (part 3 xs i).run Tryz.prog w = .ok v w := by
  simp [part, h, go_sem]
def allZero (l : List Int) : Bool := l == List.replicate 10 0
theorem eq37 (x0 x1 x2 x3 x4 x5 x6 x7 x8 x9 : Int) (w : World) :
   (Op.equalIn 10000 298 (.agg #[.int .i64 x0, .int .i64 x1, .int .i64 x2, .int .i64 x3, .int .i64 x4, .int .i64 x5, .int .i64 x6, .int .i64 x7, .int .i64 x8, .int .i64 x9])
     (.agg #[.int .i64 0, .int .i64 0, .int .i64 0, .int .i64 0, .int .i64 0, .int .i64 0, .int .i64 0, .int .i64 0, .int .i64 0, .int .i64 0])).run Tryz.prog w =
   .ok (allZero [x0, x1, x2, x3, x4, x5, x6, x7, x8, x9]) w := by
  unfold allZero
  rw [show (10000 : Nat) = 9998 + 1 + 1 from rfl]
  unfold Op.equalIn
  simp only [Sem.run_bind, run_underlying Tryz.underlying298, Result.andThen_ok, size3]
  simp only [Std.Legacy.Range.forIn_eq_forIn_range', Std.Legacy.Range.size]
  rw [forIn_all (fun i => [x0, x1, x2, x3, x4, x5, x6, x7, x8, x9].getD i 0 == 0)]
  · simp only [Result.andThen_ok]
    by_cases h : [x0, x1, x2, x3, x4, x5, x6, x7, x8, x9] = List.replicate 10 0
    · simp [List.replicate] at h
      simp [List.range', List.replicate, h]
    · rw [if_neg]
      · rw [beq_eq_false_iff_ne.2 h]; simp
      · intro h2
        apply h
        simpa [List.range', List.replicate] using h2
  · intro i hi
    have hi : i < 10 := by simp [List.mem_range'] at hi; omega
    have e1 : #[Value.int IntKind.i64 x0, Value.int IntKind.i64 x1, Value.int IntKind.i64 x2, Value.int IntKind.i64 x3, Value.int IntKind.i64 x4, Value.int IntKind.i64 x5, Value.int IntKind.i64 x6, Value.int IntKind.i64 x7, Value.int IntKind.i64 x8, Value.int IntKind.i64 x9][i * 1]? = some (.int .i64 ([x0, x1, x2, x3, x4, x5, x6, x7, x8, x9].getD i 0)) := by
      match i, hi with
      | 0, _ | 1, _ | 2, _ | 3, _ | 4, _ | 5, _ | 6, _ | 7, _ | 8, _ | 9, _ => rfl
    have e2 : #[Value.int IntKind.i64 0, Value.int IntKind.i64 0, Value.int IntKind.i64 0, Value.int IntKind.i64 0, Value.int IntKind.i64 0, Value.int IntKind.i64 0, Value.int IntKind.i64 0, Value.int IntKind.i64 0, Value.int IntKind.i64 0, Value.int IntKind.i64 0][i * 1]? = some (.int .i64 0) := by
      match i, hi with
      | 0, _ | 1, _ | 2, _ | 3, _ | 4, _ | 5, _ | 6, _ | 7, _ | 8, _ | 9, _ => rfl
    simp only [Sem.run_bind, part3 _ _ _ e1, part3 _ _ _ e2, Result.andThen_ok, run_equalIn_int w 9998 3 .i64 .i64 _ _ Tryz.underlying3]
    cases ([x0, x1, x2, x3, x4, x5, x6, x7, x8, x9].getD i 0 == 0) <;> simp

def runChk : List Nat → List Int → Option (List Int)
  | [], arr => some arr
  | f :: r, arr => if arr.getD f 0 < loOf f ∨ hiOf f < arr.getD f 0 then none else runChk r (arr.set f 0)
def rowOf (k : Nat) : List Nat := fieldTab.getD k []
def isMsgN (k : Nat) (nums : List Int) : Bool := match runChk (rowOf k) nums with
  | none => false
  | some arr => allZero arr
theorem cells_set {w wr : World} {B : Nat} {arr : List Int} (hal : arr.length = 10) (F : Nat) (hF : F < 10) (x : Int)
    (hw : ∀ a, w.cell? a = wr.cell? a) (hc : ∀ t, t < 10 → wr.cell? ⟨B, t, none⟩ = some (.int .i64 (arr.getD t 0))) :
    ∀ t, t < 10 → (w.setCell ⟨B, F, none⟩ (.int .i64 x)).cell? ⟨B, t, none⟩ = some (.int .i64 ((arr.set F x).getD t 0)) := by
  intro t ht
  by_cases e : t = F
  · subst e
    rw [World.cell?_setCell_same _ _ _ ((hw _).trans (hc t ht))]
    simp [List.getD_eq_getElem?_getD, hal, ht]
  · rw [World.cell?_setCell_other _ _ _ _ (by intro h; cases h; exact e rfl), hw, hc t ht]
    simp [List.getD_eq_getElem?_getD, Ne.symm e]

theorem rowOf_drop (k j : Nat) (hk : k < 11) (hj : j < 5) : (rowOf k).drop j = fieldAt k j :: (rowOf k).drop (j + 1) := by
  have : ∀ k < 11, ∀ j < 5, (rowOf k).drop j = fieldAt k j :: (rowOf k).drop (j + 1) := by decide
  exact this k hk j hj

theorem idx40 (x0 x1 x2 x3 x4 : Value) (w : World) : ∀ j : Nat, j < 5 → (Instr.index 301 (.agg #[x0, x1, x2, x3, x4]) (.int .i64 (j : Int))).run Tryz.prog w = .ok ([x0, x1, x2, x3, x4].getD j undef) w
  | 0, _ => by kernel_rfl
  | 1, _ => by kernel_rfl
  | 2, _ => by kernel_rfl
  | 3, _ => by kernel_rfl
  | 4, _ => by kernel_rfl

theorem idxField (k j : Nat) (hj : j < 5) (w : World) : (Instr.index 301 (.agg #[.int .i64 (fieldAt k 0), .int .i64 (fieldAt k 1), .int .i64 (fieldAt k 2), .int .i64 (fieldAt k 3), .int .i64 (fieldAt k 4)]) (.int .i64 (j : Int))).run Tryz.prog w = .ok (.int .i64 (fieldAt k j)) w := by
  rw [idx40 _ _ _ _ _ w j hj]
  match j, hj with
  | 0, _ | 1, _ | 2, _ | 3, _ | 4, _ => rfl

set_option maxHeartbeats 1000000 in
theorem isMessage_in (k : Nat) (f e b wa p s q bl v : Int) (a : Option Addr) (n c : Nat) (w : World) (h1 : 1 ≤ k) (h2 : k ≤ 10) (h3 : 0 ≤ f) (h4 : f < 5) (ht : Tabs w) :
    Calls Tryz.prog 211 #[.agg #[.int .i64 k, .int .i64 f, .int .i64 e, .int .i64 b, .int .i64 wa, .int .i64 p, .int .i64 s, .int .i64 q, .int .i64 bl, .int .i64 v, .slice a n c]] w fun r w' =>
      r = .returned (.bool (isMsgN k [0, e, b, wa, p, s, q, bl, v, n])) ∧ Below w.heap.size w w' := by
  have d1 : decide ((k : Int) < 1) = false := by simp; omega
  have d2 : decide ((10 : Int) < (k : Int)) = false := by simp; omega
  have d3 : decide (f < 0) = false := by simp; omega
  have d4 : decide (5 ≤ f) = false := by simp; omega
  have tw := ht.two
  have t0 : 0 < w.heap.size := by omega
  have t1 : 1 < w.heap.size := by omega
  have r0 : w.cell? ⟨0, k * 5, none⟩ = _ := ht.fld k 0 (by omega) (by omega)
  have r1 := ht.fld k 1 (by omega) (by omega)
  have r2 := ht.fld k 2 (by omega) (by omega)
  have r3 := ht.fld k 3 (by omega) (by omega)
  have r4 := ht.fld k 4 (by omega) (by omega)
  go_enter Tryz.func211, Tryz.ntmps211
  go_wp2_with fail
  refine (numbersOf_any _ _ _ _ _ _ _ _ _ _ _ _ _ _).mono ?_
  rintro r w1 ⟨rfl, hb1⟩
  obtain ⟨hc1, hf1⟩ := bcell hb1
  have hz1 : w.heap.size < w1.heap.size := by have := hb1.size; simp at this; omega
  have g0 : 0 < w1.heap.size := by omega
  have g1 : 1 < w1.heap.size := by omega
  go_wp2_with fail
  have ht1 : Tabs w1 := (ht.below ((Below.refl w.heap.size w).alloc (Nat.le_refl _) _) (by omega)).below hb1 (by simp; omega)
  have hbb : Below w.heap.size w w1 := ((Below.refl w.heap.size w).alloc (Nat.le_refl _) _).trans (hb1.mono (by simp))
  clear hc1 hf1 hb1 r0 r1 r2 r3 r4 ht tw t0 t1
  go_loopw [30] (fun i wr => ∃ (j : Nat) (arr : List Int), j ≤ 5 ∧ i = .int .i64 j ∧ arr.length = 10 ∧ runChk (rowOf k) [0, e, b, wa, p, s, q, bl, v, (n : Int)] = runChk ((rowOf k).drop j) arr ∧
      (∀ t, t < 10 → wr.cell? ⟨w1.heap.size, t, none⟩ = some (.int .i64 (arr.getD t 0))) ∧ (∀ t, t < 10 → wr.frozen? ⟨w1.heap.size, t, none⟩ = false) ∧ Below w1.heap.size w1 wr)
    (fun i _ => 5 - (intOf i).toNat)
  case atStart =>
    refine ⟨0, [0, e, b, wa, p, s, q, bl, v, n], by omega, rfl, rfl, rfl, ?_, ?_, (Below.refl _ _).alloc (Nat.le_refl _) _⟩
    · intro t ht
      match t, ht with
      | 0, _ => simp [go_sem]
      | 1, _ => simp [go_sem]
      | 2, _ => simp [go_sem]
      | 3, _ => simp [go_sem]
      | 4, _ => simp [go_sem]
      | 5, _ => simp [go_sem]
      | 6, _ => simp [go_sem]
      | 7, _ => simp [go_sem]
      | 8, _ => simp [go_sem]
      | 9, _ => simp [go_sem]
    · intro t ht
      simp [go_sem]
  case round =>
    obtain ⟨j, arr, hj, rfl, hal, hrun, hcell, hfroz, hbw⟩ := hrel
    by_cases hlt : j < 5
    · have hdrop := rowOf_drop k j (by omega) hlt
      have hF := fieldAt_lt k j (by omega) hlt
      have hidx : ∀ w, (Instr.index 301 (.agg #[.int .i64 (fieldAt k 0), .int .i64 (fieldAt k 1), .int .i64 (fieldAt k 2), .int .i64 (fieldAt k 3), .int .i64 (fieldAt k 4)]) (.int .i64 (j : Int))).run Tryz.prog w = .ok (.int .i64 (fieldAt k j)) w := idxField k j hlt
      have htr := ht1.below hbw (by omega)
      have cl := (htr.lim (fieldAt k j) hF).1
      have cu := (htr.lim (fieldAt k j) hF).2
      have cF := hcell (fieldAt k j) hF
      have fF := hfroz (fieldAt k j) hF
      rw [hdrop] at hrun
      generalize fieldAt k j = F at *
      generalize hA : arr.getD F 0 = A at *
      generalize hL : loOf F = L at *
      generalize hU : hiOf F = U at *
      have HA : Hid (arr.getD F 0 = A) := hA
      have HL : Hid (loOf F = L) := hL
      have HU : Hid (hiOf F = U) := hU
      have HR : Hid _ := hrun
      have HC : Hid _ := hcell
      have HZ : Hid _ := hfroz
      clear hA hL hU hrun hcell hfroz hdrop htr
      by_cases hlo : A < L
      · have hfin : Hid (isMsgN k [0, e, b, wa, p, s, q, bl, v, n] = false) := by
          unfold Hid isMsgN
          rw [HR.out]
          rw [← HA.out, ← HL.out] at hlo
          unfold runChk
          rw [if_pos (Or.inl hlo)]
        go_wp2
        go_quiet (fail)
        go_wp2
        go_ret
        exact ⟨by rw [hfin.out]; rfl, hbb.trans ((below_drewN hbw _).mono (by omega))⟩
      · have dlo : decide (A < L) = false := by simpa using hlo
        by_cases hhi : U < A
        · have hfin : Hid (isMsgN k [0, e, b, wa, p, s, q, bl, v, n] = false) := by
            unfold Hid isMsgN
            rw [HR.out]
            rw [← HU.out, ← HA.out] at hhi
            unfold runChk
            rw [if_pos (Or.inr hhi)]
          go_wp2
          go_quiet (fail)
          go_wp2
          go_ret
          exact ⟨by rw [hfin.out]; rfl, hbb.trans ((below_drewN hbw _).mono (by omega))⟩
        · have dhi : decide (U < A) = false := by simpa using hhi
          go_wp2
          have hR2 : Hid (runChk (rowOf k) [0, e, b, wa, p, s, q, bl, v, (n : Int)] = runChk ((rowOf k).drop (j + 1)) (arr.set F 0)) := by
            unfold Hid
            rw [HR.out]
            rw [← HU.out, ← HA.out] at hhi
            rw [← HA.out, ← HL.out] at hlo
            conv => lhs; unfold runChk
            rw [if_neg (by omega)]
          go_quiet (fail)
          go_wp2
          go_roundw
          case rel => exact ⟨j + 1, arr.set F 0, by omega, by go_num, by simpa using hal, hR2.out, cells_set hal F hF 0 (fun _ => rfl) HC.out, fun t ht => by simpa using HZ.out t ht, (below_drewN hbw _).setCell (Nat.le_refl _) _⟩
          case measure => simp [intOf]; omega
    · have hc0 := hcell 0 (by omega)
      have hc1 := hcell 1 (by omega)
      have hc2 := hcell 2 (by omega)
      have hc3 := hcell 3 (by omega)
      have hc4 := hcell 4 (by omega)
      have hc5 := hcell 5 (by omega)
      have hc6 := hcell 6 (by omega)
      have hc7 := hcell 7 (by omega)
      have hc8 := hcell 8 (by omega)
      have hc9 := hcell 9 (by omega)
      match arr, hal with
      | [x0, x1, x2, x3, x4, x5, x6, x7, x8, x9], _ =>
        have heq := fun w => eq37 x0 x1 x2 x3 x4 x5 x6 x7 x8 x9 w
        simp only [List.getD_eq_getElem?_getD, List.getElem?_cons_zero, List.getElem?_cons_succ, Option.getD_some] at hc0 hc1 hc2 hc3 hc4 hc5 hc6 hc7 hc8 hc9
        have hfin : Hid (isMsgN k [0, e, b, wa, p, s, q, bl, v, n] = allZero [x0, x1, x2, x3, x4, x5, x6, x7, x8, x9]) := by
          have hj5 : j = 5 := by omega
          subst hj5
          have hd5 : (rowOf k).drop 5 = [] := by
            have : ∀ k < 11, (rowOf k).drop 5 = [] := by decide
            exact this k (by omega)
          unfold isMsgN
          rw [hrun, hd5]
          rfl
        clear hrun hcell hfroz
        go_wp2
        go_ret
        exact ⟨by rw [hfin.out]; rfl, hbb.trans (hbw.mono (by omega))⟩

end Go.Proofs.YtdcainmlcpafbaaGreatDoor
