import Derived.Test.YtdcainmlcpafbaaGreatDoorE12
set_option linter.unusedSimpArgs false
set_option linter.unusedVariables false
namespace Go.Proofs.YtdcainmlcpafbaaGreatDoor
open Go.RowKit

def mk (n i : Nat) : Nat := if i % 2 = 0 then 1 + n % 251 else 1 + n / 251 % 251
theorem mk_lt (n i : Nat) : mk n i < 256 := by unfold mk; split <;> omega
set_option maxHeartbeats 1000000 in
set_option maxRecDepth 20000 in
theorem mark_any (n i : Nat) (w : World) (hn : n ≤ 4611686018427387904) (hi : i ≤ 4611686018427387904) : Calls Tryz.prog 128 #[.int .i64 n, .int .i64 i] w fun e w' => e = .returned (.int .u8 (mk n i)) ∧ w' = w := by
  by_cases h : i % 2 = 0
  · have H : Hid ((mk n i : Int) = (1 + (n : Int) % 251)) := by unfold Hid mk; rw [if_pos h]; omega
    have h1 : (i : Int) % 2 = 0 := by omega
    go_enter Tryz.func128, Tryz.ntmps128
    go_wp2
    go_ret
    exact ⟨ret_int (by rw [H.out]), rfl⟩
  · have H : Hid ((mk n i : Int) = (1 + (n : Int) / 251 % 251)) := by unfold Hid mk; rw [if_neg h]; omega
    have h2 : (i : Int) % 2 = 1 := by omega
    go_enter Tryz.func128, Tryz.ntmps128
    go_wp2
    go_ret
    exact ⟨ret_int (by rw [H.out]), rfl⟩
/-- A list that reads as val says. -/
def slAt (val : Nat → Value) (w : World) (base : Nat) (bad : Nat → Prop) (x : Value) : Prop :=
  ∃ a len c, x = .slice a len c ∧ len ≤ 4194304 ∧ (len = 0 ∨ ∃ g, a = some ⟨g, 0, none⟩ ∧ base ≤ g ∧ g < w.heap.size ∧ ¬ bad g ∧ ∀ j, j < len → w.cell? ⟨g, j, none⟩ = some (val j))
def vB (n j : Nat) : Value := .int .u8 (mk n j)
def vI (n : Nat) (_ : Nat) : Value := .int .i64 (-1000 - (n : Int))

set_option maxHeartbeats 1000000 in
set_option maxRecDepth 20000 in
theorem areBytes_any (x : Value) (n base : Nat) (bad : Nat → Prop) (w : World) (hn : n ≤ 4611686018427387904) (h : slAt (vB n) w base bad x) :
    Calls Tryz.prog 71 #[x, .int .i64 n] w fun e w' => e = .returned (.bool true) ∧ Below w.heap.size w w' := by
  obtain ⟨a, len, c, rfl, hl, hc⟩ := h
  go_enter Tryz.func71, Tryz.ntmps71
  go_wp2
  go_loopw [5] (fun i wr => ∃ t m : Nat, t ≤ len ∧ i = .int .i64 t ∧ wr = w.drewN m) (fun i _ => len - (intOf i).toNat)
  case atStart => exact ⟨0, 0, by omega, rfl, rfl⟩
  case round =>
    obtain ⟨t, m, ht, rfl, rfl⟩ := hrel
    by_cases htl : t < len
    · obtain ⟨g, rfl, _, _, _, hcc⟩ := hc.resolve_left (by omega)
      have j1 := hcc t htl
      unfold vB at j1
      have htl2 : (t : Int) < (len : Int) := by omega
      clear hcc
      go_wp2
      go_region_held3 (fun w' => w'.cell? ⟨g, t, none⟩ = some (.int .u8 (mk n t))) (go_keep) (first | (go_at_call 128; refine (mark_any _ _ _ (by omega) (by omega)).mono ?_; rintro e w' ⟨rfl, rfl⟩))
      go_wp2
      go_roundw
      case rel => exact ⟨t + 1, m + 1, by omega, by go_num, rfl⟩
      case measure => simp [intOf]; omega
    · clear hc
      go_wp2
      go_ret
      exact ⟨rfl, below_drewN (Below.refl _ _) _⟩
set_option maxHeartbeats 1000000 in
set_option maxRecDepth 20000 in
theorem areInts_any (x : Value) (n base : Nat) (bad : Nat → Prop) (w : World) (hn : n ≤ 4611686018427387904) (h : slAt (vI n) w base bad x) :
    Calls Tryz.prog 72 #[x, .int .i64 n] w fun e w' => e = .returned (.bool true) ∧ Below w.heap.size w w' := by
  obtain ⟨a, len, c, rfl, hl, hc⟩ := h
  go_enter Tryz.func72, Tryz.ntmps72
  go_wp2
  go_loopw [5] (fun i wr => ∃ t m : Nat, t ≤ len ∧ i = .int .i64 t ∧ wr = w.drewN m) (fun i _ => len - (intOf i).toNat)
  case atStart => exact ⟨0, 0, by omega, rfl, rfl⟩
  case round =>
    obtain ⟨t, m, ht, rfl, rfl⟩ := hrel
    by_cases htl : t < len
    · obtain ⟨g, rfl, _, _, _, hcc⟩ := hc.resolve_left (by omega)
      have j1 := hcc t htl
      unfold vI at j1
      have htl2 : (t : Int) < (len : Int) := by omega
      clear hcc
      go_wp2
      go_roundw
      case rel => exact ⟨t + 1, m, by omega, by go_num, rfl⟩
      case measure => simp [intOf]; omega
    · clear hc
      go_wp2
      go_ret
      exact ⟨rfl, below_drewN (Below.refl _ _) _⟩
end Go.Proofs.YtdcainmlcpafbaaGreatDoor
