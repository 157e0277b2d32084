import Derived.Test.YtdcainmlcpafbaaGreatDoorP3
import Derived.Test.YtdcainmlcpafbaaGreatDoorP2J
set_option linter.unusedSimpArgs false
set_option linter.unusedVariables false
set_option maxRecDepth 100000
namespace Go.Proofs.YtdcainmlcpafbaaGreatDoor
open Go.ChangeShapes Go.WideShapes Go.ChangeAt Go.RowKit

theorem jfm0 : (Rows.messagesUptoRow.wf (OpenSpec.ofChange (Rows.OpenSpec.upto Rows.messagesSpec).bare)) = true := by kernel_rfl
theorem jfm1 : (laidOutB Tryz.prog) = true := by kernel_rfl
theorem jfm2 : (mapsRowed Tryz.prog) = true := by kernel_rfl
theorem jfm3 : (Tryz.f3.params.all (Tryz.prog.readableRec ·)) = true := by kernel_rfl
theorem jfm4 : (namedTie Tryz.prog Rows.messagesUptoRow.named (Rows.OpenSpec.upto Rows.messagesSpec).bare.vars) = true := by kernel_rfl
theorem jfm5 : ((Rows.messagesUptoRow.stops == [])) = true := by kernel_rfl
theorem jfm6 : ((Tryz.prog.stops == [])) = true := by kernel_rfl
theorem jfm7 : ((Rows.messagesUptoRow.knobs == [])) = true := by kernel_rfl
theorem jfm8 : ((Tryz.prog.stopKnobs == [])) = true := by kernel_rfl
theorem jfm9 : ((Rows.messagesUptoRow.inPlace == Tryz.prog.inPlace 3)) = true := by kernel_rfl
theorem jfm10 : ((Rows.messagesUptoRow.unfollowed == Tryz.prog.unfollowed 3)) = true := by kernel_rfl
theorem jfm11 : ((Rows.messagesUptoRow.recurses == Tryz.prog.recurses 3)) = true := by kernel_rfl
theorem jfm12 : ((Rows.messagesUptoRow.named == Tryz.prog.varsNamed 3)) = true := by kernel_rfl
theorem jfm13 : ((Rows.messagesUptoRow.maps == (Tryz.f3.params.toList ++ (Rows.OpenSpec.upto Rows.messagesSpec).bare.plain.varTypes Tryz.prog).any (Tryz.prog.mapsRec ·))) = true := by kernel_rfl
theorem jfm14 : ((Rows.messagesUptoRow.ifaces == (Tryz.f3.params.toList ++ (Rows.OpenSpec.upto Rows.messagesSpec).bare.plain.varTypes Tryz.prog).any (Tryz.prog.ifacesRec ·))) = true := by kernel_rfl
theorem jfm15 : ((Rows.messagesUptoRow.mapsOut == Tryz.prog.mapsAmong Tryz.f3.resultTypes.toList)) = true := by kernel_rfl
theorem jfm16 : ((Rows.messagesUptoRow.loops == (Tryz.f3.params.toList ++ (Rows.OpenSpec.upto Rows.messagesSpec).bare.plain.varTypes Tryz.prog).any (Tryz.prog.loopsFrom ·))) = true := by kernel_rfl
theorem jfm17 : ((Rows.messagesUptoRow.wideKeys == (Tryz.f3.params.toList ++ (Rows.OpenSpec.upto Rows.messagesSpec).bare.plain.varTypes Tryz.prog ++ Tryz.f3.resultTypes.toList).any (Tryz.prog.wideKeysFrom ·))) = true := by kernel_rfl
theorem jfm18 : ((Rows.OpenSpec.upto Rows.messagesSpec).bare.vars.all (Tryz.prog.varReadable ·)) = true := by kernel_rfl
theorem jfm19 : (Tryz.f3.resultTypes.all (fun t => Tryz.prog.readableRec t && decide (t < Tryz.prog.types.size))) = true := by kernel_rfl
theorem jfm20 : ((Rows.messagesUptoRow.ifacesOut == Tryz.f3.resultTypes.toList.any (Tryz.prog.ifacesRec ·))) = true := by kernel_rfl
theorem jfm21 : ((Rows.messagesUptoRow.loopsOut == Tryz.f3.resultTypes.toList.any (Tryz.prog.loopsFrom ·))) = true := by kernel_rfl
theorem jfm22 : ((Rows.messagesUptoRow.plainKeys == Tryz.prog.plainKeys)) = true := by kernel_rfl
theorem jfm23 : (Rows.messagesUptoRow.shortTexts.isNone) = true := by kernel_rfl
theorem jfm24 : (Tryz.prog.stopsHeard) = true := by kernel_rfl
theorem jfm25 : (Tryz.prog.mayEnter) = true := by kernel_rfl
theorem jfm26 : ((Rows.messagesUptoRow.lifted == Tryz.prog.liftsFinal)) = true := by kernel_rfl
theorem jfm27 : ((Tryz.prog.make == some Rows.messagesUptoRow.make)) = true := by kernel_rfl
theorem jfm28 : ((Rows.messagesUptoRow.kinds == (if Rows.messagesUptoRow.domain.isEmpty then [] else Tryz.f3.params.toList.map fun t => match Tryz.prog.underlying t with | some (.int k) => some k | _ => none))) = true := by kernel_rfl
theorem jfm29 : ((Rows.messagesUptoRow.pinned == Rows.messagesUptoRow.pinnedBy)) = true := by kernel_rfl
theorem jfm30 : ((Rows.messagesUptoRow.veiled == (Tryz.f3.params.toList ++ (Rows.OpenSpec.upto Rows.messagesSpec).bare.plain.varTypes Tryz.prog ++ Tryz.f3.resultTypes.toList).any (Tryz.prog.veiledRec ·))) = true := by kernel_rfl
theorem jfm31 : (Rows.messagesUptoRow.veiledFits Tryz.prog Tryz.f3.params.toList (Tryz.f3.params.toList ++ (Rows.OpenSpec.upto Rows.messagesSpec).bare.plain.varTypes Tryz.prog ++ Tryz.f3.resultTypes.toList)) = true := by kernel_rfl
theorem jfmJ : joinedFacts Tryz.prog 3 Tryz.f3 (Rows.OpenSpec.upto Rows.messagesSpec).bare Rows.messagesUptoRow = true := (andT (andT (andT (andT (andT (andT (andT (andT (andT (andT (andT (andT (andT (andT (andT (andT (andT (andT (andT (andT (andT (andT (andT (andT (andT (andT (andT (andT (andT (andT (andT jfm0 jfm1) jfm2) jfm3) jfm4) jfm5) jfm6) jfm7) jfm8) jfm9) jfm10) jfm11) jfm12) jfm13) jfm14) jfm15) jfm16) jfm17) jfm18) jfm19) jfm20) jfm21) jfm22) jfm23) jfm24) jfm25) jfm26) jfm27) jfm28) jfm29) jfm30) jfm31)
end Go.Proofs.YtdcainmlcpafbaaGreatDoor
