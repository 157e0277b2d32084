import Derived.Test.YtdcainmlcpafbaaGreatDoorP7J
set_option linter.all false
set_option maxRecDepth 100000
namespace Go.Proofs.YtdcainmlcpafbaaGreatDoor
open Go.ChangeShapes Go.WideShapes Go.ChangeAt Go.RowKit
theorem F8:Tryz.prog.funcNamed "keystone/keystonekeep.Linear" = some 9:=by kernel_rfl
theorem GX:Func.isInstance Tryz.prog Tryz.f9 Rows.linearUptoRow.origin Rows.linearUptoRow.targs:=of_decide_eq_true (by kernel_rfl)
theorem GY:Func.isWrapper Tryz.prog Tryz.f9 Rows.linearUptoRow.wrapper Rows.linearUptoRow.mainSum:=by unfold Func.isWrapper;first|(rw[if_pos (by decide +kernel)];kernel_rfl)|(rw[if_neg (by decide +kernel)];exact⟨rfl,rfl⟩)
theorem GZ:Rows.LinearUptoSaid:=
  OpenClaim.holds_of_cond 9 Tryz.f9 rfl rfl rfl rfl rfl rfl rfl ⟨rfl,rfl,rfl,rfl,rfl⟩ rfl rfl rfl rfl rfl F8 Tryz.func9 QW GX GY
    (λos started H enc _ F=>by rw[OpenClaim.pre_eq_preRow];exact FK os started H enc F)
end Go.Proofs.YtdcainmlcpafbaaGreatDoor
