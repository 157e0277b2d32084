import Derived.Test.YtdcainmlcpafbaaGreatDoorP3J
set_option linter.unusedSimpArgs false
set_option linter.unusedVariables false
set_option maxRecDepth 100000
namespace Go.Proofs.YtdcainmlcpafbaaGreatDoor
open Go.ChangeShapes Go.WideShapes Go.ChangeAt Go.RowKit

theorem messages_named : Tryz.prog.funcNamed "keystone/keystonelaw.Messages" = some 3 := by kernel_rfl
theorem messages_inst : Func.isInstance Tryz.prog Tryz.f3 Rows.messagesUptoRow.origin Rows.messagesUptoRow.targs := of_decide_eq_true (by kernel_rfl)
theorem messages_wrap : Func.isWrapper Tryz.prog Tryz.f3 Rows.messagesUptoRow.wrapper Rows.messagesUptoRow.mainSum := by unfold Func.isWrapper; first | (rw [if_pos (by decide +kernel)]; kernel_rfl) | (rw [if_neg (by decide +kernel)]; exact ⟨rfl, rfl⟩)
theorem messages_upto : Rows.MessagesUptoSaid :=
  OpenClaim.holds_of_cond 3 Tryz.f3 rfl rfl rfl rfl rfl rfl rfl ⟨rfl, rfl, rfl, rfl, rfl⟩ rfl rfl rfl rfl rfl messages_named Tryz.func3 jfmJ messages_inst messages_wrap
    (fun os started H enc _ F => by rw [OpenClaim.pre_eq_preRow]; exact messages_lifted os started H enc F)
end Go.Proofs.YtdcainmlcpafbaaGreatDoor
