import Derived.Test.YtdcainmlcpafbaaGreatDoorG7
import Derived.Deep.RegionHeld3
set_option linter.unusedSimpArgs false
set_option linter.unusedVariables false
namespace Go.Proofs.YtdcainmlcpafbaaGreatDoor
open Go.RowKit

theorem rnum_at (bs : List UInt8) (fr n o : Nat) (fz nz : Int) (w : World) (hlen : bs.length ≤ 140737488355328) (hf : fr ≤ 19) (hn : n ≤ 4) (h1 : fz = fr) (h2 : nz = n) (ho : fr + 8 * n = o) :
    Calls Tryz.prog 217 #[.string (strOf bs), .int .i64 fz, .int .i64 nz] w fun e w' => e = .returned (.int .i64 (rn bs o 8)) ∧ w' = w := by
  subst h1 h2 ho
  exact rnum_any bs fr n w hlen hf hn
theorem bs0 {bs : List UInt8} (h : 2 ≤ bs.length) (h' : 0 < (strOf bs).size) : IntKind.i64.wrap ((strOf bs)[0].toNat : Int) = (rk bs : Int) := by
  have e := strOf_at bs 0 (by omega) h'
  have hx := UInt8.toNat_lt bs[0]
  rw [e, wrap_small _ (by omega) (by omega)]
  unfold rk
  rw [List.getD_eq_getElem?_getD, List.getElem?_eq_getElem (by omega), Option.getD_some]
  rfl
theorem bs1 {bs : List UInt8} (h : 2 ≤ bs.length) (h' : 1 < (strOf bs).size) : IntKind.i64.wrap ((strOf bs)[1].toNat : Int) = (rf bs : Int) := by
  have e := strOf_at bs 1 (by omega) h'
  have hx := UInt8.toNat_lt bs[1]
  rw [e, wrap_small _ (by omega) (by omega)]
  unfold rf
  rw [List.getD_eq_getElem?_getD, List.getElem?_eq_getElem (by omega), Option.getD_some]
  rfl

end Go.Proofs.YtdcainmlcpafbaaGreatDoor
