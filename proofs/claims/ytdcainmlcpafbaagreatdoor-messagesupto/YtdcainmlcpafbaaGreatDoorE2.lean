import Derived.Test.YtdcainmlcpafbaaGreatDoorE1
namespace Go.Proofs.YtdcainmlcpafbaaGreatDoor
open Go.RowKit

def addM (n : Nat) (o : Int) : Nat := n &&& (31 - (o % 32).toNat)
theorem addM_lt (n : Nat) (o : Int) : addM n o < 32 := by
  have : addM n o < 2 ^ 5 := Nat.and_lt_two_pow _ (by omega)
  omega
theorem andNot_eq (n : Nat) (o : Int) (hn : n < 32) : bits .andNot .i64 (n : Int) o = (addM n o : Int) := by
  have e1 : (BitVec.ofInt 64 (n : Int)).toNat = n := by rw [BitVec.ofInt_natCast, BitVec.toNat_ofNat]; exact Nat.mod_eq_of_lt (by omega)
  have e2 : (~~~ BitVec.ofInt 64 o).toNat = 2 ^ 64 - 1 - (o % ((2 ^ 64 : Nat) : Int)).toNat := by rw [BitVec.toNat_not, BitVec.toNat_ofInt]
  have e3 : n &&& (~~~ BitVec.ofInt 64 o).toNat = addM n o := by
    have h31 : n = n &&& (2 ^ 5 - 1) := by rw [Nat.and_two_pow_sub_one_eq_mod]; omega
    conv => lhs; rw [h31]
    rw [Nat.and_assoc, Nat.and_comm (2 ^ 5 - 1) _, Nat.and_two_pow_sub_one_eq_mod, e2]
    unfold addM
    congr 1
    omega
  show IntKind.i64.wrap ((BitVec.ofInt 64 (n : Int) &&& ~~~ BitVec.ofInt 64 o).toNat : Int) = _
  rw [BitVec.toNat_and, e1, e3, IntKind.wrap_i64]
  have := addM_lt n o
  omega

set_option maxHeartbeats 400000 in
theorem addsNone_any (oE oP oS nE nP : Int) (S : Nat) (w : World) (hS : S < 32) :
    Calls Tryz.prog 184 #[.agg #[.int .i64 oE, .int .i64 oP, .int .i64 oS], .agg #[.int .i64 nE, .int .i64 nP, .int .i64 S]] w fun e w' => e = .returned (.bool (((addM S oS : Nat) : Int) == 0)) ∧ Below w.heap.size w w' := by
  have hb0 := ((Below.refl w.heap.size w).alloc (Nat.le_refl _) (Obj.cells #[Value.int IntKind.i64 oE, Value.int IntKind.i64 oP, Value.int IntKind.i64 oS] 66)).alloc (by simp) (Obj.cells #[Value.int IntKind.i64 nE, Value.int IntKind.i64 nP, Value.int IntKind.i64 S] 66)
  go_enter Tryz.func184, Tryz.ntmps184
  go_wp2_with fail
  refine (added_any oE oP oS nE nP S _).mono ?_
  rintro e w1 ⟨rfl, hb1⟩
  rw [andNot_eq S oS hS]
  have hb := hb0.trans (hb1.mono (by simp; omega))
  go_wp2
  go_ret
  exact ⟨rfl, hb⟩

def oneB (oP oS nP : Int) (S : Nat) : Bool := decide (pop (addM S oS) = 1 ∧ nP = oP ∧ (S : Int) = bits .or .i64 oS (addM S oS : Int))
set_option maxHeartbeats 1000000 in
theorem addsOne_any (oE oP oS nE nP : Int) (S : Nat) (w : World) (hS : S < 32) :
    Calls Tryz.prog 185 #[.agg #[.int .i64 oE, .int .i64 oP, .int .i64 oS], .agg #[.int .i64 nE, .int .i64 nP, .int .i64 S]] w fun e w' => e = .returned (.bool (oneB oP oS nP S)) ∧ Below w.heap.size w w' := by
  have hb0 := ((Below.refl w.heap.size w).alloc (Nat.le_refl _) (Obj.cells #[Value.int IntKind.i64 oE, Value.int IntKind.i64 oP, Value.int IntKind.i64 oS] 66)).alloc (by simp) (Obj.cells #[Value.int IntKind.i64 nE, Value.int IntKind.i64 nP, Value.int IntKind.i64 S] 66)
  have HO : Hid (oneB oP oS nP S = decide (pop (addM S oS) = 1 ∧ nP = oP ∧ (S : Int) = bits .or .i64 oS (addM S oS : Int))) := rfl
  go_enter Tryz.func185, Tryz.ntmps185
  go_wp2_with fail
  refine (added_any oE oP oS nE nP S _).mono ?_
  rintro e w1 ⟨rfl, hb1⟩
  rw [andNot_eq S oS hS]
  have hM := addM_lt S oS
  have hb := hb0.trans (hb1.mono (by simp; omega))
  have hc : ∀ i, w1.cell? ⟨w.heap.size, i, none⟩ = #[Value.int IntKind.i64 oE, Value.int IntKind.i64 oP, Value.int IntKind.i64 oS][i]? := fun i => (hb1.cell (by show w.heap.size < _; simp; omega)).trans (by rw [World.cell?_alloc_past _ _ _ (by simp), World.cell?_alloc_at _ _ _ _ rfl])
  have hd : ∀ i, w1.cell? ⟨w.heap.size + 1, i, none⟩ = #[Value.int IntKind.i64 nE, Value.int IntKind.i64 nP, Value.int IntKind.i64 S][i]? := fun i => (hb1.cell (by show w.heap.size + 1 < _; simp)).trans (World.cell?_alloc_at _ _ _ _ (by simp))
  have q0 : w.heap.size < w1.heap.size := by have := hb1.size; simp at this; omega
  have q1 : w.heap.size + 1 < w1.heap.size := by have := hb1.size; simp at this; omega
  clear hb1 hb0
  generalize addM S oS = M at *
  go_wp2_with fail
  refine (onesCount_any M _ hM).mono ?_
  rintro e w2 ⟨rfl, rfl⟩
  by_cases hp : pop M = 1
  · have hp1 : (((pop M : Nat) : Int) == 1) = true := by simp; omega
    go_wp2
    all_goals go_ret
    all_goals refine ⟨ret_bool ?_, hb.alloc (by omega) _⟩
    all_goals rw [HO.out]
    all_goals simp [*]
  · have hp1 : (((pop M : Nat) : Int) == 1) = false := by simp; omega
    have HF : Hid (oneB oP oS nP S = false) := by unfold Hid; rw [HO.out]; simp [hp]
    go_wp2
    go_ret
    exact ⟨ret_bool HF.out.symm, hb.alloc (by omega) _⟩
/-- Follows, by the code. -/
def folC (oE oP oS nE nP nS : Int) : Bool := epochB oE nE && (primB nP nS && ((((addM nS.toNat oS : Nat) : Int) == 0) || oneB oP oS nP nS.toNat))
theorem primB_range {nP nS : Int} (h : primB nP nS = true) : 1 ≤ nP ∧ nP ≤ 5 ∧ 1 ≤ nS ∧ nS ≤ 31 := by
  unfold primB at h
  rw [Bool.and_eq_true, decide_eq_true_eq] at h
  exact h.1

set_option maxHeartbeats 1000000 in
theorem follows_any (oE oP oS nE nP nS : Int) (w : World) (h1 : -9223372036854775808 ≤ oE) (h2 : oE ≤ 9223372036854775807) :
    Calls Tryz.prog 134 #[.agg #[.int .i64 oE, .int .i64 oP, .int .i64 oS], .agg #[.int .i64 nE, .int .i64 nP, .int .i64 nS]] w fun e w' => e = .returned (.bool (folC oE oP oS nE nP nS)) ∧ Below w.heap.size w w' := by
  have hb0 := ((Below.refl w.heap.size w).alloc (Nat.le_refl _) (Obj.cells #[Value.int IntKind.i64 oE, Value.int IntKind.i64 oP, Value.int IntKind.i64 oS] 66)).alloc (by simp) (Obj.cells #[Value.int IntKind.i64 nE, Value.int IntKind.i64 nP, Value.int IntKind.i64 nS] 66)
  have HF : Hid (folC oE oP oS nE nP nS = (epochB oE nE && (primB nP nS && ((((addM nS.toNat oS : Nat) : Int) == 0) || oneB oP oS nP nS.toNat)))) := rfl
  have hc : ∀ i, ((w.alloc (Obj.cells #[Value.int IntKind.i64 oE, Value.int IntKind.i64 oP, Value.int IntKind.i64 oS] 66)).alloc (Obj.cells #[Value.int IntKind.i64 nE, Value.int IntKind.i64 nP, Value.int IntKind.i64 nS] 66)).cell? ⟨w.heap.size, i, none⟩ = #[Value.int IntKind.i64 oE, Value.int IntKind.i64 oP, Value.int IntKind.i64 oS][i]? := fun i => by rw [World.cell?_alloc_past _ _ _ (by simp), World.cell?_alloc_at _ _ _ _ rfl]
  have hd : ∀ i, ((w.alloc (Obj.cells #[Value.int IntKind.i64 oE, Value.int IntKind.i64 oP, Value.int IntKind.i64 oS] 66)).alloc (Obj.cells #[Value.int IntKind.i64 nE, Value.int IntKind.i64 nP, Value.int IntKind.i64 nS] 66)).cell? ⟨w.heap.size + 1, i, none⟩ = #[Value.int IntKind.i64 nE, Value.int IntKind.i64 nP, Value.int IntKind.i64 nS][i]? := fun i => World.cell?_alloc_at _ _ _ _ (by simp)
  have hs0 : ((w.alloc (Obj.cells #[Value.int IntKind.i64 oE, Value.int IntKind.i64 oP, Value.int IntKind.i64 oS] 66)).alloc (Obj.cells #[Value.int IntKind.i64 nE, Value.int IntKind.i64 nP, Value.int IntKind.i64 nS] 66)).heap.size = w.heap.size + 2 := by simp
  go_enter Tryz.func134, Tryz.ntmps134
  go_wp2_with fail
  generalize ((w.alloc (Obj.cells #[Value.int IntKind.i64 oE, Value.int IntKind.i64 oP, Value.int IntKind.i64 oS] 66)).alloc (Obj.cells #[Value.int IntKind.i64 nE, Value.int IntKind.i64 nP, Value.int IntKind.i64 nS] 66)) = W0 at *
  refine (epoch_any oE nE W0 h1 h2).mono ?_
  rintro e w1 ⟨rfl, rfl⟩
  cases he : epochB oE nE with
  | false =>
    have H : Hid (folC oE oP oS nE nP nS = false) := by unfold Hid; rw [HF.out, he]; rfl
    clear he
    go_wp2
    go_ret
    exact ⟨ret_bool H.out.symm, hb0⟩
  | true =>
    go_wp2_with fail
    refine (prim_any nE nP nS _).mono ?_
    rintro e w2 ⟨rfl, hb2⟩
    have hbw := hb0.trans (hb2.mono (by omega))
    cases hp : primB nP nS with
    | false =>
      have H : Hid (folC oE oP oS nE nP nS = false) := by unfold Hid; rw [HF.out, he, hp]; rfl
      clear he hp
      go_wp2
      go_ret
      exact ⟨ret_bool H.out.symm, hbw⟩
    | true =>
      obtain ⟨r1, r2, r3, r4⟩ := primB_range hp
      have HE : Hid _ := he
      have HP : Hid _ := hp
      clear he hp
      obtain ⟨S, rfl⟩ := Int.eq_ofNat_of_zero_le (show 0 ≤ nS by omega)
      have hc2 : ∀ i, w2.cell? ⟨w.heap.size, i, none⟩ = _ := fun i => (hb2.cell (by show w.heap.size < _; omega)).trans (hc i)
      have hd2 : ∀ i, w2.cell? ⟨w.heap.size + 1, i, none⟩ = _ := fun i => (hb2.cell (by show w.heap.size + 1 < _; omega)).trans (hd i)
      have hs2 := hb2.size
      clear hc hd hb2
      go_wp2_with fail
      refine (addsNone_any oE oP oS nE nP S w2 (by omega)).mono ?_
      rintro e w3 ⟨rfl, hb3⟩
      have hbw3 := hbw.trans (hb3.mono (by omega))
      cases hn : (((addM S oS : Nat) : Int) == 0) with
      | true =>
        have H : Hid (folC oE oP oS nE nP S = true) := by unfold Hid; rw [HF.out, HE.out, HP.out, Int.toNat_natCast, hn]; rfl
        clear hn
        go_wp2
        go_ret
        exact ⟨ret_bool H.out.symm, hbw3⟩
      | false =>
        have HN : Hid _ := hn
        clear hn
        have hc3 : ∀ i, w3.cell? ⟨w.heap.size, i, none⟩ = _ := fun i => (hb3.cell (by show w.heap.size < _; omega)).trans (hc2 i)
        have hd3 : ∀ i, w3.cell? ⟨w.heap.size + 1, i, none⟩ = _ := fun i => (hb3.cell (by show w.heap.size + 1 < _; omega)).trans (hd2 i)
        have hs3 := hb3.size
        clear hc2 hd2 hb3
        go_wp2_with fail
        refine (addsOne_any oE oP oS nE nP S w3 (by omega)).mono ?_
        rintro e w4 ⟨rfl, hb4⟩
        have hbw4 := hbw3.trans (hb4.mono (by omega))
        have H : Hid (folC oE oP oS nE nP S = oneB oP oS nP S) := by unfold Hid; rw [HF.out, HE.out, HP.out, Int.toNat_natCast, HN.out]; rfl
        clear hc3 hd3 hb4
        generalize oneB oP oS nP S = O at *
        go_wp2
        go_ret
        exact ⟨ret_bool H.out.symm, hbw4⟩

set_option maxHeartbeats 400000 in
theorem kFollows_any (oE oP oS nE nP nS : Int) (w : World) (h1 : -9223372036854775808 ≤ oE) (h2 : oE ≤ 9223372036854775807) :
    Calls Tryz.prog 108 #[.agg #[.int .i64 oE, .int .i64 oP, .int .i64 oS], .agg #[.int .i64 nE, .int .i64 nP, .int .i64 nS]] w fun e w' => e = .returned (.bool (folC oE oP oS nE nP nS)) ∧ Below w.heap.size w w' := by
  have hb0 := ((Below.refl w.heap.size w).alloc (Nat.le_refl _) (Obj.cells #[Value.int IntKind.i64 oE, Value.int IntKind.i64 oP, Value.int IntKind.i64 oS] 66)).alloc (by simp) (Obj.cells #[Value.int IntKind.i64 nE, Value.int IntKind.i64 nP, Value.int IntKind.i64 nS] 66)
  go_enter Tryz.func108, Tryz.ntmps108
  go_wp2_with fail
  refine (follows_any oE oP oS nE nP nS _ h1 h2).mono ?_
  rintro e w1 ⟨rfl, hb1⟩
  have hb := hb0.trans (hb1.mono (by simp; omega))
  go_wp2
  go_ret
  exact ⟨rfl, hb⟩
end Go.Proofs.YtdcainmlcpafbaaGreatDoor
