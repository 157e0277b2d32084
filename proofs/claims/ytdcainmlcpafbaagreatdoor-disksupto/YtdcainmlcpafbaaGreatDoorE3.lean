import Derived.Test.YtdcainmlcpafbaaGreatDoorE2
namespace Go.Proofs.YtdcainmlcpafbaaGreatDoor
open Go.RowKit

def cntB (f : Nat → Bool) : Nat → Nat
  | 0 => 0
  | k + 1 => cntB f k + if f k then 1 else 0
theorem cntB_le (f : Nat → Bool) (k : Nat) : cntB f k ≤ k := by
  induction k with
  | zero => simp [cntB]
  | succ k ih => simp only [cntB]; split <;> omega
def moreF (o n : Int) (i : Nat) : Bool := bitI n i && !bitI o i
def lessF (o n : Int) (i : Nat) : Bool := bitI o i && !bitI n i
def endB (o n oP nP : Int) : Bool := decide (cntB (moreF o n) 64 = 0 ∨ cntB (moreF o n) 64 = 1 ∧ cntB (lessF o n) 64 = 0 ∧ oP = nP)
/-- Follows, by the document. -/
def folR (oE oP oS nE nP nS : Int) : Bool :=
  decide (0 ≤ oE ∧ 1 ≤ nE ∧ nE ≤ 1000000000000 ∧ oE = nE - 1 ∧ 1 ≤ nS ∧ nS ≤ 31 ∧ 1 ≤ nP ∧ nP ≤ 5) && (bitI nS (nP - 1).toNat && endB oS nS oP nP)

set_option maxHeartbeats 1000000 in
theorem ref_no (oE oP oS nE nP nS : Int) (w : World) (h : ¬ (0 ≤ oE ∧ 1 ≤ nE ∧ nE ≤ 1000000000000 ∧ oE = nE - 1 ∧ 1 ≤ nS ∧ nS ≤ 31 ∧ 1 ≤ nP ∧ nP ≤ 5)) :
    Calls Tryz.prog 109 #[.agg #[.int .i64 oE, .int .i64 oP, .int .i64 oS], .agg #[.int .i64 nE, .int .i64 nP, .int .i64 nS]] w fun e w' => e = .returned (.bool false) ∧ Below w.heap.size w w' := by
  have hb0 := ((Below.refl w.heap.size w).alloc (Nat.le_refl _) (Obj.cells #[Value.int IntKind.i64 oE, Value.int IntKind.i64 oP, Value.int IntKind.i64 oS] 66)).alloc (by simp) (Obj.cells #[Value.int IntKind.i64 nE, Value.int IntKind.i64 nP, Value.int IntKind.i64 nS] 66)
  by_cases c1 : oE < 0
  · go_enter Tryz.func109, Tryz.ntmps109
    go_wp2
    go_ret
    exact ⟨rfl, hb0⟩
  by_cases c2 : nE < 1
  · go_enter Tryz.func109, Tryz.ntmps109
    go_wp2
    go_ret
    exact ⟨rfl, hb0⟩
  by_cases c3 : 1000000000000 < nE
  · go_enter Tryz.func109, Tryz.ntmps109
    go_wp2
    go_ret
    exact ⟨rfl, hb0⟩
  by_cases c4 : oE = nE - 1
  · have c4' : (oE != nE - 1) = false := by simp [c4]
    have HC : Hid _ := c4
    by_cases c5 : nS < 1
    · clear c4
      go_enter Tryz.func109, Tryz.ntmps109
      go_wp2
      go_ret
      exact ⟨rfl, hb0⟩
    by_cases c6 : 31 < nS
    · clear c4
      go_enter Tryz.func109, Tryz.ntmps109
      go_wp2
      go_ret
      exact ⟨rfl, hb0⟩
    by_cases c7 : nP < 1
    · clear c4
      go_enter Tryz.func109, Tryz.ntmps109
      go_wp2
      go_ret
      exact ⟨rfl, hb0⟩
    have c8 : 5 < nP := by omega
    clear c4 h
    go_enter Tryz.func109, Tryz.ntmps109
    go_wp2
    go_ret
    exact ⟨rfl, hb0⟩
  · have c4' : (oE != nE - 1) = true := by simp [c4]
    go_enter Tryz.func109, Tryz.ntmps109
    go_wp2
    go_ret
    exact ⟨rfl, hb0⟩

set_option maxHeartbeats 2000000 in
theorem ref_in (oE oP oS nE : Int) (P S : Nat) (w : World) (h1 : 0 ≤ oE) (h2 : 1 ≤ nE) (h3 : nE ≤ 1000000000000) (h4 : (oE != nE - 1) = false) (h5 : 1 ≤ S) (h6 : S ≤ 31) (h7 : 1 ≤ P) (h8 : P ≤ 5) :
    Calls Tryz.prog 109 #[.agg #[.int .i64 oE, .int .i64 oP, .int .i64 oS], .agg #[.int .i64 nE, .int .i64 P, .int .i64 S]] w fun e w' => e = .returned (.bool (bitI S (P - 1) && endB oS S oP P)) ∧ Below w.heap.size w w' := by
  have hb0 := ((Below.refl w.heap.size w).alloc (Nat.le_refl _) (Obj.cells #[Value.int IntKind.i64 oE, Value.int IntKind.i64 oP, Value.int IntKind.i64 oS] 66)).alloc (by simp) (Obj.cells #[Value.int IntKind.i64 nE, Value.int IntKind.i64 P, Value.int IntKind.i64 S] 66)
  have hc : ∀ i, ((w.alloc (Obj.cells #[Value.int IntKind.i64 oE, Value.int IntKind.i64 oP, Value.int IntKind.i64 oS] 66)).alloc (Obj.cells #[Value.int IntKind.i64 nE, Value.int IntKind.i64 P, Value.int IntKind.i64 S] 66)).cell? ⟨w.heap.size, i, none⟩ = #[Value.int IntKind.i64 oE, Value.int IntKind.i64 oP, Value.int IntKind.i64 oS][i]? := fun i => by rw [World.cell?_alloc_past _ _ _ (by simp), World.cell?_alloc_at _ _ _ _ rfl]
  have hd : ∀ i, ((w.alloc (Obj.cells #[Value.int IntKind.i64 oE, Value.int IntKind.i64 oP, Value.int IntKind.i64 oS] 66)).alloc (Obj.cells #[Value.int IntKind.i64 nE, Value.int IntKind.i64 P, Value.int IntKind.i64 S] 66)).cell? ⟨w.heap.size + 1, i, none⟩ = #[Value.int IntKind.i64 nE, Value.int IntKind.i64 P, Value.int IntKind.i64 S][i]? := fun i => World.cell?_alloc_at _ _ _ _ (by simp)
  have d1 : decide (oE < 0) = false := by simp; omega
  have d2 : decide (nE < 1) = false := by simp; omega
  have d3 : decide ((1000000000000 : Int) < nE) = false := by simp; omega
  have d4 : decide ((S : Int) < 1) = false := by simp; omega
  have d5 : decide ((31 : Int) < (S : Int)) = false := by simp; omega
  have d6 : decide ((P : Int) < 1) = false := by simp; omega
  have d7 : decide ((5 : Int) < (P : Int)) = false := by simp; omega
  go_enter Tryz.func109, Tryz.ntmps109
  go_wp2_with fail
  generalize ((w.alloc (Obj.cells #[Value.int IntKind.i64 oE, Value.int IntKind.i64 oP, Value.int IntKind.i64 oS] 66)).alloc (Obj.cells #[Value.int IntKind.i64 nE, Value.int IntKind.i64 P, Value.int IntKind.i64 S] 66)) = W0 at *
  rw [show ((P : Int) - 1) = ((P - 1 : Nat) : Int) by omega]
  refine (has_any S (P - 1) W0 (by omega)).mono ?_
  rintro e w1 ⟨rfl, rfl⟩
  cases hp : bitI S (P - 1) with
  | false =>
    have HPP : Hid _ := hp
    clear hp
    go_wp2
    go_ret
    exact ⟨ret_bool (by rw [HPP.out]; rfl), hb0⟩
  | true =>
    have HPP : Hid _ := hp
    clear hp
    go_wp2_with fail
    have hoS : w1.cell? ⟨w.heap.size, 2, none⟩ = some (.int .i64 oS) := hc 2
    have hnS : w1.cell? ⟨w.heap.size + 1, 2, none⟩ = some (.int .i64 S) := hd 2
    have hoP : w1.cell? ⟨w.heap.size, 1, none⟩ = some (.int .i64 oP) := hc 1
    have hnP : w1.cell? ⟨w.heap.size + 1, 1, none⟩ = some (.int .i64 P) := hd 1
    clear hc hd
    go_loop [6, 7, 8] (fun m l i => ∃ k : Nat, k ≤ 64 ∧ i = .int .i64 k ∧ m = .int .i64 (cntB (moreF oS S) k : Nat) ∧ l = .int .i64 (cntB (lessF oS S) k : Nat)) (fun _ _ i => 64 - (intOf i).toNat)
    case atStart => exact ⟨0, by omega, rfl, rfl, rfl⟩
    case round =>
      obtain ⟨k, hk, rfl, rfl, rfl⟩ := hrel
      have m1 := cntB_le (moreF oS S) k
      have m2 := cntB_le (lessF oS S) k
      by_cases hlt : k < 64
      · have HM : Hid (cntB (moreF oS S) (k + 1) = cntB (moreF oS S) k + if (bitI S k && !bitI oS k) then 1 else 0) := rfl
        have HL : Hid (cntB (lessF oS S) (k + 1) = cntB (lessF oS S) k + if (bitI oS k && !bitI S k) then 1 else 0) := rfl
        generalize cntB (moreF oS S) k = mk at *
        generalize cntB (lessF oS S) k = lk at *
        go_wp2_with fail
        refine (has_any oS k _ (by omega)).mono ?_
        rintro e w2 ⟨rfl, rfl⟩
        go_wp2_with fail
        refine (has_any S k _ (by omega)).mono ?_
        rintro e w2 ⟨rfl, rfl⟩
        cases hA : bitI oS k <;> cases hB : bitI S k
        all_goals
          have HA : Hid _ := hA
          have HB : Hid _ := hB
          clear hA hB
          go_wp2
          go_round
          case rel => exact ⟨k + 1, by omega, by go_num, by rw [HM.out, HA.out, HB.out]; go_num, by rw [HL.out, HA.out, HB.out]; go_num⟩
          case measure => simp [intOf]; omega
      · have hk64 : k = 64 := by omega
        subst hk64
        have HE : Hid (endB oS S oP P = decide (cntB (moreF oS S) 64 = 0 ∨ cntB (moreF oS S) 64 = 1 ∧ cntB (lessF oS S) 64 = 0 ∧ oP = (P : Int))) := rfl
        generalize cntB (moreF oS S) 64 = mk at *
        generalize cntB (lessF oS S) 64 = lk at *
        go_wp2
        all_goals go_ret
        all_goals refine ⟨ret_bool ?_, hb0⟩
        all_goals rw [HE.out, HPP.out, Bool.true_and, Bool.eq_iff_iff]
        all_goals simp only [beq_iff_eq, decide_eq_true_eq, Bool.false_eq_true, true_iff, false_iff]
        all_goals omega

theorem ref_any (oE oP oS nE nP nS : Int) (w : World) :
    Calls Tryz.prog 109 #[.agg #[.int .i64 oE, .int .i64 oP, .int .i64 oS], .agg #[.int .i64 nE, .int .i64 nP, .int .i64 nS]] w fun e w' => e = .returned (.bool (folR oE oP oS nE nP nS)) ∧ Below w.heap.size w w' := by
  by_cases h : 0 ≤ oE ∧ 1 ≤ nE ∧ nE ≤ 1000000000000 ∧ oE = nE - 1 ∧ 1 ≤ nS ∧ nS ≤ 31 ∧ 1 ≤ nP ∧ nP ≤ 5
  · have e : folR oE oP oS nE nP nS = (bitI nS (nP - 1).toNat && endB oS nS oP nP) := by unfold folR; rw [decide_eq_true h]; rfl
    rw [e]
    obtain ⟨g1, g2, g3, g4, g5, g6, g7, g8⟩ := h
    obtain ⟨P, rfl⟩ := Int.eq_ofNat_of_zero_le (show 0 ≤ nP by omega)
    obtain ⟨S, rfl⟩ := Int.eq_ofNat_of_zero_le (show 0 ≤ nS by omega)
    have e2 : ((P : Int) - 1).toNat = P - 1 := by omega
    rw [e2]
    exact ref_in oE oP oS nE P S w g1 g2 g3 (by simp [g4]) (by omega) (by omega) (by omega) (by omega)
  · have e : folR oE oP oS nE nP nS = false := by unfold folR; rw [decide_eq_false h]; rfl
    rw [e]
    exact ref_no oE oP oS nE nP nS w h
end Go.Proofs.YtdcainmlcpafbaaGreatDoor
