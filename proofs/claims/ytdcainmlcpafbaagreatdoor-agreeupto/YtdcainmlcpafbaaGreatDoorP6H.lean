import Derived.Test.YtdcainmlcpafbaaGreatDoorP6J
set_option linter.all false
set_option maxRecDepth 100000
namespace Go.Proofs.YtdcainmlcpafbaaGreatDoor
open Go.ChangeShapes Go.WideShapes Go.ChangeAt Go.RowKit
theorem FT:Tryz.prog.funcNamed "keystone/keystonekeep.Agree" = some 8:=by kernel_rfl
theorem GO:Func.isInstance Tryz.prog Tryz.f8 Rows.agreeUptoRow.origin Rows.agreeUptoRow.targs:=of_decide_eq_true (by kernel_rfl)
theorem GP:Func.isWrapper Tryz.prog Tryz.f8 Rows.agreeUptoRow.wrapper Rows.agreeUptoRow.mainSum:=by unfold Func.isWrapper;first|(rw[if_pos (by decide +kernel)];kernel_rfl)|(rw[if_neg (by decide +kernel)];exact⟨rfl,rfl⟩)
theorem GQ:Rows.AgreeUptoSaid:=
  OpenClaim.holds_of_cond 8 Tryz.f8 rfl rfl rfl rfl rfl rfl rfl ⟨rfl,rfl,rfl,rfl,rfl⟩ rfl rfl rfl rfl rfl FT Tryz.func8 PU GO GP
    (fun os started H enc _ F=>by rw[OpenClaim.pre_eq_preRow];exact E2 os started H enc F)
end Go.Proofs.YtdcainmlcpafbaaGreatDoor
