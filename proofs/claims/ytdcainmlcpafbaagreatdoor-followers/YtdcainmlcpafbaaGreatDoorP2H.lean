import Derived.Test.YtdcainmlcpafbaaGreatDoorP2J
set_option linter.unusedSimpArgs false
set_option linter.unusedVariables false
set_option maxRecDepth 100000
namespace Go.Proofs.YtdcainmlcpafbaaGreatDoor
open Go.ChangeShapes Go.WideShapes Go.ChangeAt Go.RowKit

theorem followers_named : Tryz.prog.funcNamed "keystone/keystonelaw.Followers" = some 4 := by kernel_rfl
theorem followers_inst : Func.isInstance Tryz.prog Tryz.f4 Rows.followersRow.origin Rows.followersRow.targs := of_decide_eq_true (by kernel_rfl)
theorem followers_wrap : Func.isWrapper Tryz.prog Tryz.f4 Rows.followersRow.wrapper Rows.followersRow.mainSum := by unfold Func.isWrapper; first | (rw [if_pos (by decide +kernel)]; kernel_rfl) | (rw [if_neg (by decide +kernel)]; exact ⟨rfl, rfl⟩)
theorem followers_holds : Rows.FollowersSaid :=
  OpenClaim.holds_of_wide 4 Tryz.f4 rfl rfl rfl rfl rfl rfl rfl ⟨rfl, rfl, rfl, rfl, rfl⟩ rfl rfl rfl rfl rfl followers_named Tryz.func4 jfoJ
    followers_inst followers_wrap
    (fun os started H enc _ => followers_lifted os started H enc)
end Go.Proofs.YtdcainmlcpafbaaGreatDoor
