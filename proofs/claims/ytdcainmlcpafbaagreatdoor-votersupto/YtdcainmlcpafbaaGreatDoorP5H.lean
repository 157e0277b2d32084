import Derived.Test.YtdcainmlcpafbaaGreatDoorP5J
set_option linter.all false
set_option maxRecDepth 100000
namespace Go.Proofs.YtdcainmlcpafbaaGreatDoor
open Go.ChangeShapes Go.WideShapes Go.ChangeAt Go.RowKit

theorem wX:Tryz.prog.funcNamed "keystone/keystonelaw.Voters" = some 6:=by kernel_rfl
theorem yU:Func.isInstance Tryz.prog Tryz.f6 Rows.votersUptoRow.origin Rows.votersUptoRow.targs:=of_decide_eq_true (by kernel_rfl)
theorem yV:Func.isWrapper Tryz.prog Tryz.f6 Rows.votersUptoRow.wrapper Rows.votersUptoRow.mainSum:=by unfold Func.isWrapper;first|(rw[if_pos (by decide +kernel)];kernel_rfl)|(rw[if_neg (by decide +kernel)];exact⟨rfl,rfl⟩)
theorem yW:Rows.VotersUptoSaid:=
  OpenClaim.holds_of_cond 6 Tryz.f6 rfl rfl rfl rfl rfl rfl rfl ⟨rfl,rfl,rfl,rfl,rfl⟩ rfl rfl rfl rfl rfl wX Tryz.func6 KV yU yV
    (fun os started H enc _ F=>by rw[OpenClaim.pre_eq_preRow];exact voters_lifted os started H enc F)
end Go.Proofs.YtdcainmlcpafbaaGreatDoor
