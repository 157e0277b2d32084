import Derived.Test.YtamdkmjdpdkoeaaGreatDoorP4J
set_option linter.unusedSimpArgs false
set_option linter.unusedVariables false
set_option maxRecDepth 100000
namespace Go.Proofs.YtamdkmjdpdkoeaaGreatDoor
open Go.ChangeShapes Go.WideShapes Go.ChangeAt Go.RowKit

theorem disks_named : Tryz.prog.funcNamed "keystone/keystonelaw.Disks" = some 5 := by kernel_rfl
theorem disks_inst : Func.isInstance Tryz.prog Tryz.f5 Rows.disksUptoRow.origin Rows.disksUptoRow.targs := of_decide_eq_true (by kernel_rfl)
theorem disks_wrap : Func.isWrapper Tryz.prog Tryz.f5 Rows.disksUptoRow.wrapper Rows.disksUptoRow.mainSum := by unfold Func.isWrapper; first | (rw [if_pos (by decide +kernel)]; kernel_rfl) | (rw [if_neg (by decide +kernel)]; exact ⟨rfl, rfl⟩)
theorem disks_upto : Rows.DisksUptoSaid :=
  OpenClaim.holds_of_cond 5 Tryz.f5 rfl rfl rfl rfl rfl rfl rfl ⟨rfl, rfl, rfl, rfl, rfl⟩ rfl rfl rfl rfl rfl disks_named Tryz.func5 jfdJ disks_inst disks_wrap
    (fun os started H enc _ F => by rw [OpenClaim.pre_eq_preRow]; exact disks_lifted os started H enc F)
end Go.Proofs.YtamdkmjdpdkoeaaGreatDoor
