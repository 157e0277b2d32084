import Derived.Test.YtdcainmlcpafbaaGreatDoorP3H
set_option linter.unusedSimpArgs false
set_option linter.unusedVariables false
set_option maxRecDepth 100000
namespace Go.Proofs.YtdcainmlcpafbaaGreatDoor
open Go.ChangeShapes Go.WideShapes Go.ChangeAt Go.RowKit

theorem messages_card : Rows.MessagesUptoCardSaid :=
  Claim7.holds_tied_plain_at .later [] [.data, .data] true (true, "caacda64dae41264d542e4fb3f0aa844f7c0587dd36b70fed170dd06bcd763f9") false
    messages_upto (fun _ h => by cases h) (by as_aux_lemma => kernel_rfl) (fun _ h => by cases h) messagesUpto_row_tie rfl ⟨rfl, rfl⟩ (by as_aux_lemma => kernel_rfl) rfl
    (fun f fn hf hfn => by
      obtain rfl : f = 3 := Option.some.inj ((show Tryz.prog.funcNamed "keystone/keystonelaw.Messages" = some 3 by as_aux_lemma => kernel_rfl).symm.trans hf) |>.symm
      obtain rfl : fn = Tryz.f3 := (Option.some.inj (Tryz.func3.symm.trans hfn)).symm
      exact ⟨by as_aux_lemma => kernel_rfl, fun j t ht => by
        rw [Tryz.params3] at ht
        have hm : t ∈ [25, 26] := by simpa using Array.mem_of_getElem? ht
        have hall : ([25, 26].all fun u => !Tryz.prog.wantsStandIn u) = true := by as_aux_lemma => kernel_rfl
        exact (show Tryz.prog.wantsStandIn t = false by simpa using List.all_eq_true.1 hall t hm)⟩)
    (by as_aux_lemma => kernel_rfl)
#print axioms messages_card
end Go.Proofs.YtdcainmlcpafbaaGreatDoor
