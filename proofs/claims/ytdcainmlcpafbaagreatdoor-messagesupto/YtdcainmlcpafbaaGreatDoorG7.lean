import Derived.Test.YtdcainmlcpafbaaGreatDoorG6
import Derived.Test.YtdcainmlcpafbaaGreatDoorE5
set_option linter.unusedSimpArgs false
set_option linter.unusedVariables false
namespace Go.Proofs.YtdcainmlcpafbaaGreatDoor
open Go.RowKit

theorem wrap_wrap (a : Int) : wrap64 (wrap64 a) = wrap64 a := by unfold wrap64; omega
theorem rn_in {bs : List UInt8} {o t : Nat} (h : o + t < bs.length) : rn bs o (t + 1) = wrap64 (wrap64 (rn bs o t * 256) + wrap64 (bs[o + t].toNat : Int)) := by
  have hx := UInt8.toNat_lt bs[o + t]
  rw [rn_succ, w64 (bs[o + t].toNat : Int) (by omega) (by omega), List.getD_eq_getElem?_getD, List.getElem?_eq_getElem h, Option.getD_some]
theorem rn_out {bs : List UInt8} {o t : Nat} (h : ¬ o + t < bs.length) : rn bs o (t + 1) = wrap64 (rn bs o t * 256) := by
  rw [rn_succ, List.getD_eq_getElem?_getD, List.getElem?_eq_none (by omega), Option.getD_none]
  show wrap64 (wrap64 (rn bs o t * 256) + 0) = _
  rw [Int.add_zero, wrap_wrap]
set_option maxHeartbeats 1000000 in
set_option maxRecDepth 20000 in
theorem rnum_any (bs : List UInt8) (fr n : Nat) (w : World) (hlen : bs.length ≤ 140737488355328) (hf : fr ≤ 19) (hn : n ≤ 4) :
    Calls Tryz.prog 217 #[.string (strOf bs), .int .i64 fr, .int .i64 n] w fun e w' => e = .returned (.int .i64 (rn bs (fr + 8 * n) 8)) ∧ w' = w := by
  have hsz : (strOf bs).size = bs.length := strOf_size bs
  have HZ : Hid (rn bs (fr + 8 * n) 0 = 0) := rn_zero _ _
  go_enter Tryz.func217, Tryz.ntmps217
  go_wp2
  go_loop [7, 8] (fun v i => ∃ t : Nat, t ≤ 8 ∧ i = .int .i64 ((fr + 8 * n + t : Nat) : Int) ∧ v = .int .i64 (rn bs (fr + 8 * n) t)) (fun _ i => fr + 8 * n + 8 - (intOf i).toNat)
  case atStart => exact ⟨0, by omega, by congr 1, by rw [HZ.out]⟩
  case round =>
    obtain ⟨t, ht, rfl, rfl⟩ := hrel
    by_cases h8 : t < 8
    · by_cases hlt : fr + 8 * n + t < bs.length
      · have HS : Hid _ := rn_in (o := fr + 8 * n) (t := t) hlt
        generalize rn bs (fr + 8 * n) t = V at *
        go_wp2
        have e1 := strOf_at bs (fr + 8 * n + t) hlt (by omega)
        rw [e1]
        go_round
        case rel => exact ⟨t + 1, by omega, by go_num, by rw [HS.out]; first | done | rfl⟩
        case measure => simp [intOf]; omega
      · have HS : Hid _ := rn_out (o := fr + 8 * n) (t := t) hlt
        generalize rn bs (fr + 8 * n) t = V at *
        go_wp2
        go_round
        case rel => exact ⟨t + 1, by omega, by go_num, by rw [HS.out]⟩
        case measure => simp [intOf]; omega
    · obtain rfl : t = 8 := by omega
      go_wp2
      go_ret
      exact ⟨rfl, rfl⟩
end Go.Proofs.YtdcainmlcpafbaaGreatDoor
