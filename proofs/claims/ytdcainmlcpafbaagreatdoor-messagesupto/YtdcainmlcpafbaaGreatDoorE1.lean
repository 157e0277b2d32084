import Derived.Test.YtdcainmlcpafbaaGreatDoorProg
import Derived.WalkKit
import Derived.WalkSpells
import Derived.WalkLawsBesides
import Derived.Deep.QuietTactic
import Derived.BigQuiet
namespace Go.Proofs.YtdcainmlcpafbaaGreatDoor
open Go.RowKit

theorem ret_int {k : IntKind} {a b : Int} (h : a = b) : Ending.returned (.int k a) = .returned (.int k b) := by rw [h]
theorem ret_bool {a b : Bool} (h : a = b) : Ending.returned (.bool a) = .returned (.bool b) := by rw [h]
def raw (c : Int) : Int := if c < 0 then -(c + 1) else c
theorem raw_nonneg (c : Int) : 0 ≤ raw c := by unfold raw; split <;> omega
theorem pick_neg {c n : Int} (h : c < 0) : -(c + 1).tmod n = raw c % n := by
  have e : raw c = -(c + 1) := by unfold raw; rw [if_pos h]
  rw [e, ← Int.neg_tmod, Int.tmod_eq_emod_of_nonneg (by omega)]
set_option maxHeartbeats 400000 in
theorem pick_any (c n : Int) (w : World) (hn : 0 < n) (h1 : -9223372036854775808 ≤ c) (h2 : c ≤ 9223372036854775807) :
    Calls Tryz.prog 14 #[.int .i64 c, .int .i64 n] w fun e w' => e = .returned (.int .i64 (raw c % n)) ∧ w' = w := by
  by_cases h : c < 0
  · have H : Hid (-(c + 1).tmod n = raw c % n) := pick_neg h
    go_enter Tryz.func14, Tryz.ntmps14
    go_wp2
    go_ret
    exact ⟨ret_int H.out, rfl⟩
  · have H : Hid (raw c = c) := by unfold Hid raw; rw [if_neg h]
    go_enter Tryz.func14, Tryz.ntmps14
    go_wp2
    go_ret
    exact ⟨ret_int (by rw [H.out]), rfl⟩

def bitI (x : Int) (i : Nat) : Bool := decide (x / 2 ^ i % 2 ≠ 0)
theorem tmod2 (x : Int) : (x.tmod 2 != 0) = decide (x % 2 ≠ 0) := by
  rw [Bool.eq_iff_iff]
  simp only [bne_iff_ne, ne_eq, decide_eq_true_eq]
  rw [← Int.dvd_iff_tmod_eq_zero, ← Int.dvd_iff_emod_eq_zero]
set_option maxHeartbeats 400000 in
theorem has_any (x : Int) (n : Nat) (w : World) (hn : n ≤ 63) :
    Calls Tryz.prog 160 #[.int .i64 x, .int .i64 n] w fun e w' => e = .returned (.bool (bitI x n)) ∧ w' = w := by
  go_enter Tryz.func160, Tryz.ntmps160
  go_wp2
  go_loop [0, 5] (fun s i => ∃ k : Nat, k ≤ n ∧ i = .int .i64 k ∧ s = .int .i64 (x / 2 ^ k)) (fun _ i => n - (intOf i).toNat)
  case atStart => exact ⟨0, Nat.zero_le _, rfl, by simp⟩
  case round =>
    obtain ⟨k, hk, rfl, rfl⟩ := hrel
    by_cases hlt : k < n
    · have H : Hid (x / 2 ^ (k + 1) = x / 2 ^ k / 2) := by unfold Hid; rw [Int.pow_succ, Int.ediv_ediv_of_nonneg (Int.pow_nonneg (by omega))]
      go_wp2
      go_round
      case rel => exact ⟨k + 1, by omega, by go_num, by rw [H.out]⟩
      case measure => simp [intOf]; omega
    · have hkn : k = n := by omega
      subst hkn
      have H : Hid (((x / 2 ^ k).tmod 2 != 0) = bitI x k) := tmod2 _
      go_wp2
      go_ret
      exact ⟨ret_bool H.out, rfl⟩

def pE1 (m : Int) : Int := IntKind.u64.wrap (bits .and .u64 (m / 2) 6148914691236517205 + bits .and .u64 m 6148914691236517205)
def pE2 (m : Int) : Int := IntKind.u64.wrap (bits .and .u64 (m / 4) 3689348814741910323 + bits .and .u64 m 3689348814741910323)
def pE3 (m : Int) : Int := bits .and .u64 (IntKind.u64.wrap (m / 16 + m)) 1085102592571150095
def pE4 (m : Int) : Int := IntKind.u64.wrap (m + m / 256)
def pE5 (m : Int) : Int := IntKind.u64.wrap (m + m / 65536)
def pE6 (m : Int) : Int := IntKind.u64.wrap (m + m / 4294967296)
def popE (m : Int) : Int := bits .and .i64 (wrap64 (pE6 (pE5 (pE4 (pE3 (pE2 (pE1 m))))))) 127
def pop (m : Nat) : Nat := m % 2 + m / 2 % 2 + m / 4 % 2 + m / 8 % 2 + m / 16 % 2
theorem popE_eq : ∀ m, m < 32 → popE ((m : Nat) : Int) = ((pop m : Nat) : Int) := by decide +kernel
set_option maxHeartbeats 400000 in
theorem ones_any (m : Nat) (w : World) (hm : m < 32) :
    Calls Tryz.prog 254 #[.int .u64 m] w fun e w' => e = .returned (.int .i64 (pop m)) ∧ w' = w := by
  go_enter Tryz.func254, Tryz.ntmps254
  go_wp2
  go_ret
  refine ⟨ret_int ?_, rfl⟩
  exact popE_eq m hm
set_option maxHeartbeats 400000 in
theorem onesCount_any (m : Nat) (w : World) (hm : m < 32) :
    Calls Tryz.prog 234 #[.int .u64 m] w fun e w' => e = .returned (.int .i64 (pop m)) ∧ w' = w := by
  go_enter Tryz.func234, Tryz.ntmps234
  go_wp2_with fail
  refine (ones_any m _ hm).mono ?_
  rintro e w1 ⟨rfl, rfl⟩
  go_wp2
  go_ret
  exact ⟨rfl, rfl⟩
set_option maxHeartbeats 400000 in
theorem added_any (oE oP oS nE nP nS : Int) (w : World) :
    Calls Tryz.prog 233 #[.agg #[.int .i64 oE, .int .i64 oP, .int .i64 oS], .agg #[.int .i64 nE, .int .i64 nP, .int .i64 nS]] w fun e w' => e = .returned (.int .i64 (bits .andNot .i64 nS oS)) ∧ Below w.heap.size w w' := by
  go_enter Tryz.func233, Tryz.ntmps233
  go_wp2
  go_ret
  exact ⟨rfl, ((Below.refl _ _).alloc (Nat.le_refl _) _).alloc (by simp) _⟩
def epochB (oE nE : Int) : Bool := decide (0 ≤ oE ∧ oE < 1000000000000 ∧ nE = oE + 1)
set_option maxHeartbeats 400000 in
theorem epoch_any (oE nE : Int) (w : World) (h1 : -9223372036854775808 ≤ oE) (h2 : oE ≤ 9223372036854775807) :
    Calls Tryz.prog 182 #[.int .i64 oE, .int .i64 nE] w fun e w' => e = .returned (.bool (epochB oE nE)) ∧ w' = w := by
  by_cases c1 : 0 ≤ oE
  · by_cases c2 : oE < 1000000000000
    · have H : Hid ((nE == oE + 1) = epochB oE nE) := by
        unfold Hid epochB; rw [Bool.eq_iff_iff]; simp [c1, c2]
      go_enter Tryz.func182, Tryz.ntmps182
      go_wp2
      go_ret
      exact ⟨ret_bool H.out, rfl⟩
    · have H : Hid (epochB oE nE = false) := by unfold Hid epochB; simp; omega
      go_enter Tryz.func182, Tryz.ntmps182
      go_wp2
      go_ret
      exact ⟨ret_bool H.out.symm, rfl⟩
  · have H : Hid (epochB oE nE = false) := by unfold Hid epochB; simp; omega
    go_enter Tryz.func182, Tryz.ntmps182
    go_wp2
    go_ret
    exact ⟨ret_bool H.out.symm, rfl⟩

theorem i64_and1 (n : Int) : bits .and .i64 n 1 = n % 2 := by
  have h1 : (BitVec.ofInt 64 1).toNat = 2 ^ 1 - 1 := by decide
  have key : (BitVec.ofInt 64 n &&& BitVec.ofInt 64 1).toNat = (n % ((2 ^ 64 : Nat) : Int)).toNat % 2 ^ 1 := by
    rw [BitVec.toNat_and, BitVec.toNat_ofInt, h1, Nat.and_two_pow_sub_one_eq_mod]
  show IntKind.i64.wrap ((BitVec.ofInt 64 n &&& BitVec.ofInt 64 1).toNat : Nat) = n % 2
  rw [key, IntKind.wrap_i64]
  omega
theorem and1 (n : Int) : (bits .and .i64 n 1 == 1) = decide (n % 2 ≠ 0) := by
  rw [i64_and1, Bool.eq_iff_iff]
  simp only [beq_iff_eq, ne_eq, decide_eq_true_eq]
  omega
def primB (nP nS : Int) : Bool := decide (1 ≤ nP ∧ nP ≤ 5 ∧ 1 ≤ nS ∧ nS ≤ 31) && bitI nS (nP - 1).toNat
set_option maxHeartbeats 400000 in
theorem prim_no (nE nP nS : Int) (w : World) (h : nP < 1 ∨ 5 < nP ∨ nS < 1 ∨ 31 < nS) :
    Calls Tryz.prog 183 #[.agg #[.int .i64 nE, .int .i64 nP, .int .i64 nS]] w fun e w' => e = .returned (.bool false) ∧ Below w.heap.size w w' := by
  by_cases c1 : nP < 1
  · go_enter Tryz.func183, Tryz.ntmps183
    go_wp2
    go_ret
    exact ⟨rfl, (Below.refl _ _).alloc (Nat.le_refl _) _⟩
  by_cases c2 : 5 < nP
  · go_enter Tryz.func183, Tryz.ntmps183
    go_wp2
    go_ret
    exact ⟨rfl, (Below.refl _ _).alloc (Nat.le_refl _) _⟩
  by_cases c3 : nS < 1
  · go_enter Tryz.func183, Tryz.ntmps183
    go_wp2
    go_ret
    exact ⟨rfl, (Below.refl _ _).alloc (Nat.le_refl _) _⟩
  have c4 : 31 < nS := by omega
  go_enter Tryz.func183, Tryz.ntmps183
  go_wp2
  go_ret
  exact ⟨rfl, (Below.refl _ _).alloc (Nat.le_refl _) _⟩
set_option maxHeartbeats 400000 in
theorem prim_yes (nE : Int) (P S : Nat) (w : World) (h1 : 1 ≤ P) (h2 : P ≤ 5) (h3 : 1 ≤ S) (h4 : S ≤ 31) :
    Calls Tryz.prog 183 #[.agg #[.int .i64 nE, .int .i64 P, .int .i64 S]] w fun e w' => e = .returned (.bool (bitI S (P - 1))) ∧ Below w.heap.size w w' := by
  go_enter Tryz.func183, Tryz.ntmps183
  go_wp2
  go_ret
  exact ⟨ret_bool (and1 _), (Below.refl _ _).alloc (Nat.le_refl _) _⟩

theorem prim_any (nE nP nS : Int) (w : World) :
    Calls Tryz.prog 183 #[.agg #[.int .i64 nE, .int .i64 nP, .int .i64 nS]] w fun e w' => e = .returned (.bool (primB nP nS)) ∧ Below w.heap.size w w' := by
  by_cases h : nP < 1 ∨ 5 < nP ∨ nS < 1 ∨ 31 < nS
  · have e : primB nP nS = false := by unfold primB; rw [decide_eq_false (by omega)]; rfl
    rw [e]
    exact prim_no nE nP nS w h
  · have e : primB nP nS = bitI nS (nP - 1).toNat := by unfold primB; rw [decide_eq_true (by omega)]; rfl
    rw [e]
    obtain ⟨P, rfl⟩ := Int.eq_ofNat_of_zero_le (show 0 ≤ nP by omega)
    obtain ⟨S, rfl⟩ := Int.eq_ofNat_of_zero_le (show 0 ≤ nS by omega)
    have e2 : ((P : Int) - 1).toNat = P - 1 := by omega
    rw [e2]
    exact prim_yes nE P S w (by omega) (by omega) (by omega) (by omega)
end Go.Proofs.YtdcainmlcpafbaaGreatDoor
