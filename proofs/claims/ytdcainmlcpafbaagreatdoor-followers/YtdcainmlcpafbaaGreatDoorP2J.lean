import Derived.Test.YtdcainmlcpafbaaGreatDoorP2
set_option linter.unusedSimpArgs false
set_option linter.unusedVariables false
set_option maxRecDepth 100000
namespace Go.Proofs.YtdcainmlcpafbaaGreatDoor
open Go.ChangeShapes Go.WideShapes Go.ChangeAt Go.RowKit

theorem andT {a b : Bool} (h : a = true) (k : b = true) : (a && b) = true := by rw [h, k]; rfl
theorem jfo0 : (Rows.followersRow.wf (OpenSpec.ofChange Rows.followersSpec)) = true := by kernel_rfl
theorem jfo1 : (laidOutB Tryz.prog) = true := by kernel_rfl
theorem jfo2 : (mapsRowed Tryz.prog) = true := by kernel_rfl
theorem jfo3 : (Tryz.f4.params.all (Tryz.prog.readableRec ·)) = true := by kernel_rfl
theorem jfo4 : (namedTie Tryz.prog Rows.followersRow.named Rows.followersSpec.vars) = true := by kernel_rfl
theorem jfo5 : ((Rows.followersRow.stops == [])) = true := by kernel_rfl
theorem jfo6 : ((Tryz.prog.stops == [])) = true := by kernel_rfl
theorem jfo7 : ((Rows.followersRow.knobs == [])) = true := by kernel_rfl
theorem jfo8 : ((Tryz.prog.stopKnobs == [])) = true := by kernel_rfl
theorem jfo9 : ((Rows.followersRow.inPlace == Tryz.prog.inPlace 4)) = true := by kernel_rfl
theorem jfo10 : ((Rows.followersRow.unfollowed == Tryz.prog.unfollowed 4)) = true := by kernel_rfl
theorem jfo11 : ((Rows.followersRow.recurses == Tryz.prog.recurses 4)) = true := by kernel_rfl
theorem jfo12 : ((Rows.followersRow.named == Tryz.prog.varsNamed 4)) = true := by kernel_rfl
theorem jfo13 : ((Rows.followersRow.maps == (Tryz.f4.params.toList ++ Rows.followersSpec.plain.varTypes Tryz.prog).any (Tryz.prog.mapsRec ·))) = true := by kernel_rfl
theorem jfo14 : ((Rows.followersRow.ifaces == (Tryz.f4.params.toList ++ Rows.followersSpec.plain.varTypes Tryz.prog).any (Tryz.prog.ifacesRec ·))) = true := by kernel_rfl
theorem jfo15 : ((Rows.followersRow.mapsOut == Tryz.prog.mapsAmong Tryz.f4.resultTypes.toList)) = true := by kernel_rfl
theorem jfo16 : ((Rows.followersRow.loops == (Tryz.f4.params.toList ++ Rows.followersSpec.plain.varTypes Tryz.prog).any (Tryz.prog.loopsFrom ·))) = true := by kernel_rfl
theorem jfo17 : ((Rows.followersRow.wideKeys == (Tryz.f4.params.toList ++ Rows.followersSpec.plain.varTypes Tryz.prog ++ Tryz.f4.resultTypes.toList).any (Tryz.prog.wideKeysFrom ·))) = true := by kernel_rfl
theorem jfo18 : (Rows.followersSpec.vars.all (Tryz.prog.varReadable ·)) = true := by kernel_rfl
theorem jfo19 : (Tryz.f4.resultTypes.all (fun t => Tryz.prog.readableRec t && decide (t < Tryz.prog.types.size))) = true := by kernel_rfl
theorem jfo20 : ((Rows.followersRow.ifacesOut == Tryz.f4.resultTypes.toList.any (Tryz.prog.ifacesRec ·))) = true := by kernel_rfl
theorem jfo21 : ((Rows.followersRow.loopsOut == Tryz.f4.resultTypes.toList.any (Tryz.prog.loopsFrom ·))) = true := by kernel_rfl
theorem jfo22 : ((Rows.followersRow.plainKeys == Tryz.prog.plainKeys)) = true := by kernel_rfl
theorem jfo23 : (Rows.followersRow.shortTexts.isNone) = true := by kernel_rfl
theorem jfo24 : (Tryz.prog.stopsHeard) = true := by kernel_rfl
theorem jfo25 : (Tryz.prog.mayEnter) = true := by kernel_rfl
theorem jfo26 : ((Rows.followersRow.lifted == Tryz.prog.liftsFinal)) = true := by kernel_rfl
theorem jfo27 : ((Tryz.prog.make == some Rows.followersRow.make)) = true := by kernel_rfl
theorem jfo28 : ((Rows.followersRow.kinds == (if Rows.followersRow.domain.isEmpty then [] else Tryz.f4.params.toList.map fun t => match Tryz.prog.underlying t with | some (.int k) => some k | _ => none))) = true := by kernel_rfl
theorem jfo29 : ((Rows.followersRow.pinned == Rows.followersRow.pinnedBy)) = true := by kernel_rfl
theorem jfo30 : ((Rows.followersRow.veiled == (Tryz.f4.params.toList ++ Rows.followersSpec.plain.varTypes Tryz.prog ++ Tryz.f4.resultTypes.toList).any (Tryz.prog.veiledRec ·))) = true := by kernel_rfl
theorem jfo31 : (Rows.followersRow.veiledFits Tryz.prog Tryz.f4.params.toList (Tryz.f4.params.toList ++ Rows.followersSpec.plain.varTypes Tryz.prog ++ Tryz.f4.resultTypes.toList)) = true := by kernel_rfl
theorem jfoJ : joinedFacts Tryz.prog 4 Tryz.f4 Rows.followersSpec Rows.followersRow = true := (andT (andT (andT (andT (andT (andT (andT (andT (andT (andT (andT (andT (andT (andT (andT (andT (andT (andT (andT (andT (andT (andT (andT (andT (andT (andT (andT (andT (andT (andT (andT jfo0 jfo1) jfo2) jfo3) jfo4) jfo5) jfo6) jfo7) jfo8) jfo9) jfo10) jfo11) jfo12) jfo13) jfo14) jfo15) jfo16) jfo17) jfo18) jfo19) jfo20) jfo21) jfo22) jfo23) jfo24) jfo25) jfo26) jfo27) jfo28) jfo29) jfo30) jfo31)
end Go.Proofs.YtdcainmlcpafbaaGreatDoor
