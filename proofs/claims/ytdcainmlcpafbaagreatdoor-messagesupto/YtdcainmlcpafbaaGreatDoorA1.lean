import Derived.Test.YtdcainmlcpafbaaGreatDoorE1
import Derived.WalkKit
import Derived.WalkSpells
import Derived.WalkLawsBesides
namespace Go.Proofs.YtdcainmlcpafbaaGreatDoor
open Go.RowKit

set_option maxHeartbeats 400000 in
theorem numbersOf_any (k f e b wa p s q bl v : Int) (a : Option Addr) (n c : Nat) (w : World) :
    Calls Tryz.prog 212 #[.agg #[.int .i64 k, .int .i64 f, .int .i64 e, .int .i64 b, .int .i64 wa, .int .i64 p, .int .i64 s, .int .i64 q, .int .i64 bl, .int .i64 v, .slice a n c]] w fun r w' =>
      r = .returned (.agg #[.int .i64 0, .int .i64 e, .int .i64 b, .int .i64 wa, .int .i64 p, .int .i64 s, .int .i64 q, .int .i64 bl, .int .i64 v, .int .i64 n]) ∧ Below w.heap.size w w' := by
  go_enter Tryz.func212, Tryz.ntmps212
  go_wp2
  exact bodyPost_ret (v := .agg #[.int .i64 0, .int .i64 e, .int .i64 b, .int .i64 wa, .int .i64 p, .int .i64 s, .int .i64 q, .int .i64 bl, .int .i64 v, .int .i64 n]) (by simp [results, Tryz.results212, go_sem]) rfl ⟨rfl, ((Below.refl _ _).alloc (Nat.le_refl _) _).alloc (by simp) _⟩

set_option maxHeartbeats 400000 in
theorem message_any (k f n0 n1 n2 n3 n4 n5 n6 n7 n8 n9 : Int) (a : Option Addr) (n c : Nat) (w : World) :
    Calls Tryz.prog 251 #[.int .i64 k, .int .i64 f, .agg #[.int .i64 n0, .int .i64 n1, .int .i64 n2, .int .i64 n3, .int .i64 n4, .int .i64 n5, .int .i64 n6, .int .i64 n7, .int .i64 n8, .int .i64 n9], .slice a n c] w fun r w' =>
      r = .returned (.agg #[.int .i64 k, .int .i64 f, .int .i64 n1, .int .i64 n2, .int .i64 n3, .int .i64 n4, .int .i64 n5, .int .i64 n6, .int .i64 n7, .int .i64 n8, .slice a n c]) ∧ Below w.heap.size w w' := by
  go_enter Tryz.func251, Tryz.ntmps251
  go_wp2
  exact bodyPost_ret (v := .agg #[.int .i64 k, .int .i64 f, .int .i64 n1, .int .i64 n2, .int .i64 n3, .int .i64 n4, .int .i64 n5, .int .i64 n6, .int .i64 n7, .int .i64 n8, .slice a n c]) (by simp [results, Tryz.results251, go_sem]) rfl ⟨rfl, ((Below.refl _ _).alloc (Nat.le_refl _) _).alloc (by simp) _⟩

end Go.Proofs.YtdcainmlcpafbaaGreatDoor
