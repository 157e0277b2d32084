import Derived.Test.YtdcainmlcpafbaaGreatDoorP8H
set_option linter.all false
set_option maxRecDepth 100000
namespace Go.Proofs.YtdcainmlcpafbaaGreatDoor
open Go.ChangeShapes Go.WideShapes Go.ChangeAt Go.RowKit
theorem calm_card : Rows.CalmUptoCardSaid :=
  Claim7.holds_tied_plain_at .later [] [.data, .data] true (true, "caacda64dae41264d542e4fb3f0aa844f7c0587dd36b70fed170dd06bcd763f9") false
    LG (fun _ h => by cases h) (by as_aux_lemma => kernel_rfl) (fun _ h => by cases h) calmUpto_row_tie rfl ⟨rfl, rfl⟩ (by as_aux_lemma => kernel_rfl) rfl
    (fun f fn hf hfn => by
      obtain rfl : f = 10 := Option.some.inj ((show Tryz.prog.funcNamed "keystone/keystonekeep.Calm" = some 10 by as_aux_lemma => kernel_rfl).symm.trans hf) |>.symm
      obtain rfl : fn = Tryz.f10 := (Option.some.inj (Tryz.func10.symm.trans hfn)).symm
      exact ⟨by as_aux_lemma => kernel_rfl, fun j t ht => by
        rw [Tryz.params10] at ht
        have hm : t ∈ [47, 48, 3] := by simpa using Array.mem_of_getElem? ht
        have hall : ([47, 48, 3].all fun u => !Tryz.prog.wantsStandIn u) = true := by as_aux_lemma => kernel_rfl
        exact (show Tryz.prog.wantsStandIn t = false by simpa using List.all_eq_true.1 hall t hm)⟩)
    (by as_aux_lemma => kernel_rfl)
#print axioms calm_card
end Go.Proofs.YtdcainmlcpafbaaGreatDoor
