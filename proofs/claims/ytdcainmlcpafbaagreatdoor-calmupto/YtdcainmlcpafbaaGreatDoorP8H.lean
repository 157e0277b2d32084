import Derived.Test.YtdcainmlcpafbaaGreatDoorP8J
set_option linter.all false
set_option maxRecDepth 100000
namespace Go.Proofs.YtdcainmlcpafbaaGreatDoor
open Go.ChangeShapes Go.WideShapes Go.ChangeAt Go.RowKit
theorem JT:Tryz.prog.funcNamed "keystone/keystonekeep.Calm" = some 10:=by kernel_rfl
theorem LD:Func.isInstance Tryz.prog Tryz.f10 Rows.calmUptoRow.origin Rows.calmUptoRow.targs:=of_decide_eq_true (by kernel_rfl)
theorem LE:Func.isWrapper Tryz.prog Tryz.f10 Rows.calmUptoRow.wrapper Rows.calmUptoRow.mainSum:=by unfold Func.isWrapper;first|(rw[if_pos (by decide +kernel)];kernel_rfl)|(rw[if_neg (by decide +kernel)];exact⟨rfl,rfl⟩)
theorem LG:Rows.CalmUptoSaid:=
  OpenClaim.holds_of_cond 10 Tryz.f10 rfl rfl rfl rfl rfl rfl rfl ⟨rfl,rfl,rfl,rfl,rfl⟩ rfl rfl rfl rfl rfl JT Tryz.func10 SY LD LE
    (λos started H enc _ F=>by rw[OpenClaim.pre_eq_preRow];exact I1 os started H enc F)
end Go.Proofs.YtdcainmlcpafbaaGreatDoor
