import Derived.Test.YtdcainmlcpafbaaGreatDoorP6
set_option linter.all false
set_option maxRecDepth 100000
namespace Go.Proofs.YtdcainmlcpafbaaGreatDoor
open Go.ChangeShapes Go.WideShapes Go.ChangeAt Go.RowKit
theorem gT {a b:Bool} (h:a=true) (k:b=true):(a&&b)=true:=by rw[h,k];rfl
theorem PK:(Rows.agreeUptoRow.wf (OpenSpec.ofChange (Rows.OpenSpec.upto Rows.agreeSpec).bare))=true:=by kernel_rfl
theorem PL:(laidOutB Tryz.prog)=true:=by kernel_rfl
theorem PM:(mapsRowed Tryz.prog)=true:=by kernel_rfl
theorem PN:(Tryz.f8.params.all (Tryz.prog.readableRec ·))=true:=by kernel_rfl
theorem PO:(namedTie Tryz.prog Rows.agreeUptoRow.named (Rows.OpenSpec.upto Rows.agreeSpec).bare.vars)=true:=by kernel_rfl
theorem PP:((Rows.agreeUptoRow.stops==[]))=true:=by kernel_rfl
theorem PQ:((Tryz.prog.stops==[]))=true:=by kernel_rfl
theorem PR:((Rows.agreeUptoRow.knobs==[]))=true:=by kernel_rfl
theorem PS:((Tryz.prog.stopKnobs==[]))=true:=by kernel_rfl
theorem PT:((Rows.agreeUptoRow.inPlace==Tryz.prog.inPlace 8))=true:=by kernel_rfl
theorem OE:((Rows.agreeUptoRow.unfollowed==Tryz.prog.unfollowed 8))=true:=by kernel_rfl
theorem OF:((Rows.agreeUptoRow.recurses==Tryz.prog.recurses 8))=true:=by kernel_rfl
theorem OG:((Rows.agreeUptoRow.named==Tryz.prog.varsNamed 8))=true:=by kernel_rfl
theorem OH:((Rows.agreeUptoRow.maps==(Tryz.f8.params.toList++(Rows.OpenSpec.upto Rows.agreeSpec).bare.plain.varTypes Tryz.prog).any (Tryz.prog.mapsRec ·)))=true:=by kernel_rfl
theorem OI:((Rows.agreeUptoRow.ifaces==(Tryz.f8.params.toList++(Rows.OpenSpec.upto Rows.agreeSpec).bare.plain.varTypes Tryz.prog).any (Tryz.prog.ifacesRec ·)))=true:=by kernel_rfl
theorem OJ:((Rows.agreeUptoRow.mapsOut==Tryz.prog.mapsAmong Tryz.f8.resultTypes.toList))=true:=by kernel_rfl
theorem OL:((Rows.agreeUptoRow.loops==(Tryz.f8.params.toList++(Rows.OpenSpec.upto Rows.agreeSpec).bare.plain.varTypes Tryz.prog).any (Tryz.prog.loopsFrom ·)))=true:=by kernel_rfl
theorem OM:((Rows.agreeUptoRow.wideKeys==(Tryz.f8.params.toList++(Rows.OpenSpec.upto Rows.agreeSpec).bare.plain.varTypes Tryz.prog++Tryz.f8.resultTypes.toList).any (Tryz.prog.wideKeysFrom ·)))=true:=by kernel_rfl
theorem ON:((Rows.OpenSpec.upto Rows.agreeSpec).bare.vars.all (Tryz.prog.varReadable ·))=true:=by kernel_rfl
theorem OO:(Tryz.f8.resultTypes.all (fun t=>Tryz.prog.readableRec t&&decide (t<Tryz.prog.types.size)))=true:=by kernel_rfl
theorem OP:((Rows.agreeUptoRow.ifacesOut==Tryz.f8.resultTypes.toList.any (Tryz.prog.ifacesRec ·)))=true:=by kernel_rfl
theorem OQ:((Rows.agreeUptoRow.loopsOut==Tryz.f8.resultTypes.toList.any (Tryz.prog.loopsFrom ·)))=true:=by kernel_rfl
theorem OR:((Rows.agreeUptoRow.plainKeys==Tryz.prog.plainKeys))=true:=by kernel_rfl
theorem OS:(Rows.agreeUptoRow.shortTexts.isNone)=true:=by kernel_rfl
theorem OT:(Tryz.prog.stopsHeard)=true:=by kernel_rfl
theorem OU:(Tryz.prog.mayEnter)=true:=by kernel_rfl
theorem OV:((Rows.agreeUptoRow.lifted==Tryz.prog.liftsFinal))=true:=by kernel_rfl
theorem OW:((Tryz.prog.make==some Rows.agreeUptoRow.make))=true:=by kernel_rfl
theorem OX:((Rows.agreeUptoRow.kinds==(if Rows.agreeUptoRow.domain.isEmpty then[] else Tryz.f8.params.toList.map fun t=>match Tryz.prog.underlying t with|some (.int k)=>some k|_=>none)))=true:=by kernel_rfl
theorem OY:((Rows.agreeUptoRow.pinned==Rows.agreeUptoRow.pinnedBy))=true:=by kernel_rfl
theorem OZ:((Rows.agreeUptoRow.veiled==(Tryz.f8.params.toList++(Rows.OpenSpec.upto Rows.agreeSpec).bare.plain.varTypes Tryz.prog++Tryz.f8.resultTypes.toList).any (Tryz.prog.veiledRec ·)))=true:=by kernel_rfl
theorem O0:(Rows.agreeUptoRow.veiledFits Tryz.prog Tryz.f8.params.toList (Tryz.f8.params.toList++(Rows.OpenSpec.upto Rows.agreeSpec).bare.plain.varTypes Tryz.prog++Tryz.f8.resultTypes.toList))=true:=by kernel_rfl
theorem PU:joinedFacts Tryz.prog 8 Tryz.f8 (Rows.OpenSpec.upto Rows.agreeSpec).bare Rows.agreeUptoRow=true:=(gT (gT (gT (gT (gT (gT (gT (gT (gT (gT (gT (gT (gT (gT (gT (gT (gT (gT (gT (gT (gT (gT (gT (gT (gT (gT (gT (gT (gT (gT (gT PK PL) PM) PN) PO) PP) PQ) PR) PS) PT) OE) OF) OG) OH) OI) OJ) OL) OM) ON) OO) OP) OQ) OR) OS) OT) OU) OV) OW) OX) OY) OZ) O0)
end Go.Proofs.YtdcainmlcpafbaaGreatDoor
