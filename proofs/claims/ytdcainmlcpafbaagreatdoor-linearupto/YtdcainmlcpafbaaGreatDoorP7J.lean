import Derived.Test.YtdcainmlcpafbaaGreatDoorP7
set_option linter.all false
set_option maxRecDepth 100000
namespace Go.Proofs.YtdcainmlcpafbaaGreatDoor
open Go.ChangeShapes Go.WideShapes Go.ChangeAt Go.RowKit
theorem gZ {a b:Bool} (h:a=true) (k:b=true):(a&&b)=true:=by rw[h,k];rfl
theorem QM:(Rows.linearUptoRow.wf (OpenSpec.ofChange (Rows.OpenSpec.upto Rows.linearSpec).bare))=true:=by kernel_rfl
theorem QN:(laidOutB Tryz.prog)=true:=by kernel_rfl
theorem QO:(mapsRowed Tryz.prog)=true:=by kernel_rfl
theorem QP:(Tryz.f9.params.all (Tryz.prog.readableRec ·))=true:=by kernel_rfl
theorem QQ:(namedTie Tryz.prog Rows.linearUptoRow.named (Rows.OpenSpec.upto Rows.linearSpec).bare.vars)=true:=by kernel_rfl
theorem QR:((Rows.linearUptoRow.stops==[]))=true:=by kernel_rfl
theorem QS:((Tryz.prog.stops==[]))=true:=by kernel_rfl
theorem QT:((Rows.linearUptoRow.knobs==[]))=true:=by kernel_rfl
theorem QU:((Tryz.prog.stopKnobs==[]))=true:=by kernel_rfl
theorem QV:((Rows.linearUptoRow.inPlace==Tryz.prog.inPlace 9))=true:=by kernel_rfl
theorem PF:((Rows.linearUptoRow.unfollowed==Tryz.prog.unfollowed 9))=true:=by kernel_rfl
theorem PG:((Rows.linearUptoRow.recurses==Tryz.prog.recurses 9))=true:=by kernel_rfl
theorem PH:((Rows.linearUptoRow.named==Tryz.prog.varsNamed 9))=true:=by kernel_rfl
theorem PI:((Rows.linearUptoRow.maps==(Tryz.f9.params.toList++(Rows.OpenSpec.upto Rows.linearSpec).bare.plain.varTypes Tryz.prog).any (Tryz.prog.mapsRec ·)))=true:=by kernel_rfl
theorem PJ:((Rows.linearUptoRow.ifaces==(Tryz.f9.params.toList++(Rows.OpenSpec.upto Rows.linearSpec).bare.plain.varTypes Tryz.prog).any (Tryz.prog.ifacesRec ·)))=true:=by kernel_rfl
theorem PK:((Rows.linearUptoRow.mapsOut==Tryz.prog.mapsAmong Tryz.f9.resultTypes.toList))=true:=by kernel_rfl
theorem PL:((Rows.linearUptoRow.loops==(Tryz.f9.params.toList++(Rows.OpenSpec.upto Rows.linearSpec).bare.plain.varTypes Tryz.prog).any (Tryz.prog.loopsFrom ·)))=true:=by kernel_rfl
theorem PM:((Rows.linearUptoRow.wideKeys==(Tryz.f9.params.toList++(Rows.OpenSpec.upto Rows.linearSpec).bare.plain.varTypes Tryz.prog++Tryz.f9.resultTypes.toList).any (Tryz.prog.wideKeysFrom ·)))=true:=by kernel_rfl
theorem PN:((Rows.OpenSpec.upto Rows.linearSpec).bare.vars.all (Tryz.prog.varReadable ·))=true:=by kernel_rfl
theorem PO:(Tryz.f9.resultTypes.all (λt=>Tryz.prog.readableRec t&&decide (t<Tryz.prog.types.size)))=true:=by kernel_rfl
theorem PP:((Rows.linearUptoRow.ifacesOut==Tryz.f9.resultTypes.toList.any (Tryz.prog.ifacesRec ·)))=true:=by kernel_rfl
theorem PQ:((Rows.linearUptoRow.loopsOut==Tryz.f9.resultTypes.toList.any (Tryz.prog.loopsFrom ·)))=true:=by kernel_rfl
theorem PR:((Rows.linearUptoRow.plainKeys==Tryz.prog.plainKeys))=true:=by kernel_rfl
theorem PS:(Rows.linearUptoRow.shortTexts.isNone)=true:=by kernel_rfl
theorem PT:(Tryz.prog.stopsHeard)=true:=by kernel_rfl
theorem PU:(Tryz.prog.mayEnter)=true:=by kernel_rfl
theorem PW:((Rows.linearUptoRow.lifted==Tryz.prog.liftsFinal))=true:=by kernel_rfl
theorem PX:((Tryz.prog.make==some Rows.linearUptoRow.make))=true:=by kernel_rfl
theorem PY:((Rows.linearUptoRow.kinds==(if Rows.linearUptoRow.domain.isEmpty then[] else Tryz.f9.params.toList.map λt=>match Tryz.prog.underlying t with|some (.int k)=>some k|_=>none)))=true:=by kernel_rfl
theorem PZ:((Rows.linearUptoRow.pinned==Rows.linearUptoRow.pinnedBy))=true:=by kernel_rfl
theorem P1:((Rows.linearUptoRow.veiled==(Tryz.f9.params.toList++(Rows.OpenSpec.upto Rows.linearSpec).bare.plain.varTypes Tryz.prog++Tryz.f9.resultTypes.toList).any (Tryz.prog.veiledRec ·)))=true:=by kernel_rfl
theorem P2:(Rows.linearUptoRow.veiledFits Tryz.prog Tryz.f9.params.toList (Tryz.f9.params.toList++(Rows.OpenSpec.upto Rows.linearSpec).bare.plain.varTypes Tryz.prog++Tryz.f9.resultTypes.toList))=true:=by kernel_rfl
theorem QW:joinedFacts Tryz.prog 9 Tryz.f9 (Rows.OpenSpec.upto Rows.linearSpec).bare Rows.linearUptoRow=true:=(gZ (gZ (gZ (gZ (gZ (gZ (gZ (gZ (gZ (gZ (gZ (gZ (gZ (gZ (gZ (gZ (gZ (gZ (gZ (gZ (gZ (gZ (gZ (gZ (gZ (gZ (gZ (gZ (gZ (gZ (gZ QM QN) QO) QP) QQ) QR) QS) QT) QU) QV) PF) PG) PH) PI) PJ) PK) PL) PM) PN) PO) PP) PQ) PR) PS) PT) PU) PW) PX) PY) PZ) P1) P2)
end Go.Proofs.YtdcainmlcpafbaaGreatDoor
