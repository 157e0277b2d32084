import Derived.Test.YtdcainmlcpafbaaGreatDoorP4
set_option linter.unusedSimpArgs false
set_option linter.unusedVariables false
set_option maxRecDepth 100000
namespace Go.Proofs.YtdcainmlcpafbaaGreatDoor
open Go.ChangeShapes Go.WideShapes Go.ChangeAt Go.RowKit

theorem andD {a b : Bool} (h : a = true) (k : b = true) : (a && b) = true := by rw [h, k]; rfl
theorem jfd0 : (Rows.disksUptoRow.wf (OpenSpec.ofChange (Rows.OpenSpec.upto Rows.disksSpec).bare)) = true := by kernel_rfl
theorem jfd1 : (laidOutB Tryz.prog) = true := by kernel_rfl
theorem jfd2 : (mapsRowed Tryz.prog) = true := by kernel_rfl
theorem jfd3 : (Tryz.f5.params.all (Tryz.prog.readableRec ·)) = true := by kernel_rfl
theorem jfd4 : (namedTie Tryz.prog Rows.disksUptoRow.named (Rows.OpenSpec.upto Rows.disksSpec).bare.vars) = true := by kernel_rfl
theorem jfd5 : ((Rows.disksUptoRow.stops == [])) = true := by kernel_rfl
theorem jfd6 : ((Tryz.prog.stops == [])) = true := by kernel_rfl
theorem jfd7 : ((Rows.disksUptoRow.knobs == [])) = true := by kernel_rfl
theorem jfd8 : ((Tryz.prog.stopKnobs == [])) = true := by kernel_rfl
theorem jfd9 : ((Rows.disksUptoRow.inPlace == Tryz.prog.inPlace 5)) = true := by kernel_rfl
theorem jfd10 : ((Rows.disksUptoRow.unfollowed == Tryz.prog.unfollowed 5)) = true := by kernel_rfl
theorem jfd11 : ((Rows.disksUptoRow.recurses == Tryz.prog.recurses 5)) = true := by kernel_rfl
theorem jfd12 : ((Rows.disksUptoRow.named == Tryz.prog.varsNamed 5)) = true := by kernel_rfl
theorem jfd13 : ((Rows.disksUptoRow.maps == (Tryz.f5.params.toList ++ (Rows.OpenSpec.upto Rows.disksSpec).bare.plain.varTypes Tryz.prog).any (Tryz.prog.mapsRec ·))) = true := by kernel_rfl
theorem jfd14 : ((Rows.disksUptoRow.ifaces == (Tryz.f5.params.toList ++ (Rows.OpenSpec.upto Rows.disksSpec).bare.plain.varTypes Tryz.prog).any (Tryz.prog.ifacesRec ·))) = true := by kernel_rfl
theorem jfd15 : ((Rows.disksUptoRow.mapsOut == Tryz.prog.mapsAmong Tryz.f5.resultTypes.toList)) = true := by kernel_rfl
theorem jfd16 : ((Rows.disksUptoRow.loops == (Tryz.f5.params.toList ++ (Rows.OpenSpec.upto Rows.disksSpec).bare.plain.varTypes Tryz.prog).any (Tryz.prog.loopsFrom ·))) = true := by kernel_rfl
theorem jfd17 : ((Rows.disksUptoRow.wideKeys == (Tryz.f5.params.toList ++ (Rows.OpenSpec.upto Rows.disksSpec).bare.plain.varTypes Tryz.prog ++ Tryz.f5.resultTypes.toList).any (Tryz.prog.wideKeysFrom ·))) = true := by kernel_rfl
theorem jfd18 : ((Rows.OpenSpec.upto Rows.disksSpec).bare.vars.all (Tryz.prog.varReadable ·)) = true := by kernel_rfl
theorem jfd19 : (Tryz.f5.resultTypes.all (fun t => Tryz.prog.readableRec t && decide (t < Tryz.prog.types.size))) = true := by kernel_rfl
theorem jfd20 : ((Rows.disksUptoRow.ifacesOut == Tryz.f5.resultTypes.toList.any (Tryz.prog.ifacesRec ·))) = true := by kernel_rfl
theorem jfd21 : ((Rows.disksUptoRow.loopsOut == Tryz.f5.resultTypes.toList.any (Tryz.prog.loopsFrom ·))) = true := by kernel_rfl
theorem jfd22 : ((Rows.disksUptoRow.plainKeys == Tryz.prog.plainKeys)) = true := by kernel_rfl
theorem jfd23 : (Rows.disksUptoRow.shortTexts.isNone) = true := by kernel_rfl
theorem jfd24 : (Tryz.prog.stopsHeard) = true := by kernel_rfl
theorem jfd25 : (Tryz.prog.mayEnter) = true := by kernel_rfl
theorem jfd26 : ((Rows.disksUptoRow.lifted == Tryz.prog.liftsFinal)) = true := by kernel_rfl
theorem jfd27 : ((Tryz.prog.make == some Rows.disksUptoRow.make)) = true := by kernel_rfl
theorem jfd28 : ((Rows.disksUptoRow.kinds == (if Rows.disksUptoRow.domain.isEmpty then [] else Tryz.f5.params.toList.map fun t => match Tryz.prog.underlying t with | some (.int k) => some k | _ => none))) = true := by kernel_rfl
theorem jfd29 : ((Rows.disksUptoRow.pinned == Rows.disksUptoRow.pinnedBy)) = true := by kernel_rfl
theorem jfd30 : ((Rows.disksUptoRow.veiled == (Tryz.f5.params.toList ++ (Rows.OpenSpec.upto Rows.disksSpec).bare.plain.varTypes Tryz.prog ++ Tryz.f5.resultTypes.toList).any (Tryz.prog.veiledRec ·))) = true := by kernel_rfl
theorem jfd31 : (Rows.disksUptoRow.veiledFits Tryz.prog Tryz.f5.params.toList (Tryz.f5.params.toList ++ (Rows.OpenSpec.upto Rows.disksSpec).bare.plain.varTypes Tryz.prog ++ Tryz.f5.resultTypes.toList)) = true := by kernel_rfl
theorem jfdJ : joinedFacts Tryz.prog 5 Tryz.f5 (Rows.OpenSpec.upto Rows.disksSpec).bare Rows.disksUptoRow = true := (andD (andD (andD (andD (andD (andD (andD (andD (andD (andD (andD (andD (andD (andD (andD (andD (andD (andD (andD (andD (andD (andD (andD (andD (andD (andD (andD (andD (andD (andD (andD jfd0 jfd1) jfd2) jfd3) jfd4) jfd5) jfd6) jfd7) jfd8) jfd9) jfd10) jfd11) jfd12) jfd13) jfd14) jfd15) jfd16) jfd17) jfd18) jfd19) jfd20) jfd21) jfd22) jfd23) jfd24) jfd25) jfd26) jfd27) jfd28) jfd29) jfd30) jfd31)

theorem disks_named : Tryz.prog.funcNamed "keystone/keystonelaw.Disks" = some 5 := by kernel_rfl
theorem disks_inst : Func.isInstance Tryz.prog Tryz.f5 Rows.disksUptoRow.origin Rows.disksUptoRow.targs := of_decide_eq_true (by kernel_rfl)
theorem disks_wrap : Func.isWrapper Tryz.prog Tryz.f5 Rows.disksUptoRow.wrapper Rows.disksUptoRow.mainSum := by unfold Func.isWrapper; first | (rw [if_pos (by decide +kernel)]; kernel_rfl) | (rw [if_neg (by decide +kernel)]; exact ⟨rfl, rfl⟩)
theorem disks_upto : Rows.DisksUptoSaid :=
  OpenClaim.holds_of_cond 5 Tryz.f5 rfl rfl rfl rfl rfl rfl rfl ⟨rfl, rfl, rfl, rfl, rfl⟩ rfl rfl rfl rfl rfl disks_named Tryz.func5 jfdJ disks_inst disks_wrap
    (fun os started H enc _ F => by rw [OpenClaim.pre_eq_preRow]; exact disks_lifted os started H enc F)
end Go.Proofs.YtdcainmlcpafbaaGreatDoor
