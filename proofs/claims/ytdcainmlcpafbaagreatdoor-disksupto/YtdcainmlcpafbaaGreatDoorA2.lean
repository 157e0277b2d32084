import Derived.Test.YtdcainmlcpafbaaGreatDoorA1
namespace Go.Proofs.YtdcainmlcpafbaaGreatDoor
open Go.RowKit

/-- One step of the sum. -/
def sumStep (s : Int × Int) (x : UInt8) : Int × Int := ((s.1 + (x.toNat : Int)) % 65521, (s.2 + (s.1 + (x.toNat : Int)) % 65521) % 65521)
def sumOf (bs : List UInt8) : Int × Int := bs.foldl sumStep (1, 0)
theorem sumStep_bd (s : Int × Int) (x : UInt8) : 0 ≤ (sumStep s x).1 ∧ (sumStep s x).1 < 65521 ∧ 0 ≤ (sumStep s x).2 ∧ (sumStep s x).2 < 65521 := by
  unfold sumStep; simp only; omega
theorem sumOf_snoc (bs : List UInt8) (x : UInt8) : sumOf (bs ++ [x]) = sumStep (sumOf bs) x := by simp [sumOf]
theorem sumOf_bd (bs : List UInt8) : 0 ≤ (sumOf bs).1 ∧ (sumOf bs).1 < 65521 ∧ 0 ≤ (sumOf bs).2 ∧ (sumOf bs).2 < 65521 := by
  rcases List.eq_nil_or_concat bs with rfl | ⟨l, x, rfl⟩
  · simp [sumOf]
  · rw [List.concat_eq_append, sumOf_snoc]; exact sumStep_bd _ _
theorem take_snoc (bs : List UInt8) (k : Nat) (h : k < bs.length) : bs.take (k + 1) = bs.take k ++ [bs[k]] := by
  rw [List.take_succ_eq_append_getElem h]

theorem i64_join (c a : Int) (h1 : 0 ≤ c) (h2 : c < 65536) (h3 : 0 ≤ a) (h4 : a < 65536) : bits .or .i64 (c * 65536) a = 65536 * c + a := by
  obtain ⟨C, rfl⟩ := Int.eq_ofNat_of_zero_le h1
  obtain ⟨A, rfl⟩ := Int.eq_ofNat_of_zero_le h3
  have e1 : (BitVec.ofInt 64 ((C : Int) * 65536)).toNat = C * 65536 := by
    rw [show (C : Int) * 65536 = ((C * 65536 : Nat) : Int) by omega, BitVec.ofInt_natCast, BitVec.toNat_ofNat]; exact Nat.mod_eq_of_lt (by omega)
  have e2 : (BitVec.ofInt 64 (A : Int)).toNat = A := by
    rw [BitVec.ofInt_natCast, BitVec.toNat_ofNat]; exact Nat.mod_eq_of_lt (by omega)
  have e3 : C * 65536 ||| A = C * 65536 + A := by
    have := Nat.shiftLeft_add_eq_or_of_lt (i := 16) (b := A) (by omega) C
    rw [Nat.shiftLeft_eq] at this
    exact this.symm
  show IntKind.i64.wrap ((BitVec.ofInt 64 ((C : Int) * 65536) ||| BitVec.ofInt 64 (A : Int)).toNat : Int) = _
  rw [BitVec.toNat_or, e1, e2, e3, IntKind.wrap_i64]
  omega

/-- A slice of bytes as it is read. -/
def bytesAt (w : World) (v : Value) (bs : List UInt8) : Prop :=
  ∃ ao cap, v = .slice ao bs.length cap ∧ bs.length ≤ cap ∧ cap ≤ maxLen ∧ (bs = [] ∨ ∃ g off, ao = some ⟨g, off, none⟩ ∧ ∀ j (h : j < bs.length), w.cell? ⟨g, off + j, none⟩ = some (.int .u8 (bs[j].toNat : Int)))

set_option maxHeartbeats 400000 in
theorem sum_some (bs : List UInt8) (g off cap : Nat) (w : World) (hlen : bs.length ≤ 140737488355328)
    (hc : ∀ j (h : j < bs.length), w.cell? ⟨g, off + j, none⟩ = some (.int .u8 (bs[j].toNat : Int))) :
    Calls Tryz.prog 214 #[.slice (some ⟨g, off, none⟩) bs.length cap] w fun e w' => e = .returned (.int .i64 (65536 * (sumOf bs).2 + (sumOf bs).1)) ∧ w' = w := by
  go_enter Tryz.func214, Tryz.ntmps214
  go_wp2
  go_loop [3, 4, 9] (fun a c i => ∃ k : Nat, k ≤ bs.length ∧ i = .int .i64 k ∧ a = .int .i64 (sumOf (bs.take k)).1 ∧ c = .int .i64 (sumOf (bs.take k)).2) (fun _ _ i => bs.length - (intOf i).toNat)
  case atStart => exact ⟨0, Nat.zero_le _, rfl, rfl, rfl⟩
  case round =>
    obtain ⟨k, hk, rfl, rfl, rfl⟩ := hrel
    have hb := sumOf_bd (bs.take k)
    by_cases hlt : k < bs.length
    · have H : Hid (sumOf (bs.take (k + 1)) = sumStep (sumOf (bs.take k)) bs[k]) := by rw [take_snoc bs k hlt]; exact sumOf_snoc _ _
      have hx : (bs[k].toNat : Int) < 256 := by have := bs[k].toNat_lt; omega
      have hck := hc k hlt
      go_wp2
      go_round
      case rel => exact ⟨k + 1, by omega, by go_num, by rw [H.out]; rfl, by rw [H.out]; rfl⟩
      case measure => simp [intOf]; omega
    · go_wp2
      go_ret
      exact ⟨ret_int (by rw [List.take_of_length_le (by omega)] at hb ⊢; exact i64_join _ _ hb.2.2.1 (by omega) hb.1 (by omega)), rfl⟩

set_option maxHeartbeats 400000 in
theorem sum_none (ao : Option Addr) (cap : Nat) (w : World) :
    Calls Tryz.prog 214 #[.slice ao 0 cap] w fun e w' => e = .returned (.int .i64 1) ∧ w' = w := by
  go_enter Tryz.func214, Tryz.ntmps214
  go_wp2
  refine wp_loop_rounds 1 ?_
  rw [rounds_succ]
  go_wp2
  go_ret
  exact ⟨ret_int (by kernel_rfl), rfl⟩

theorem sum_any (bs : List UInt8) (v : Value) (w : World) (hlen : bs.length ≤ 140737488355328) (hv : bytesAt w v bs) :
    Calls Tryz.prog 214 #[v] w fun e w' => e = .returned (.int .i64 (65536 * (sumOf bs).2 + (sumOf bs).1)) ∧ w' = w := by
  obtain ⟨ao, cap, rfl, _, _, rfl | ⟨g, off, rfl, hc⟩⟩ := hv
  · exact sum_none ao cap w
  · exact sum_some bs g off cap w hlen hc

end Go.Proofs.YtdcainmlcpafbaaGreatDoor
