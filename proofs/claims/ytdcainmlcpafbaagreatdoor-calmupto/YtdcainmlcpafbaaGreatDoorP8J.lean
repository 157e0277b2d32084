import Derived.Test.YtdcainmlcpafbaaGreatDoorP8
set_option linter.all false
set_option maxRecDepth 100000
namespace Go.Proofs.YtdcainmlcpafbaaGreatDoor
open Go.ChangeShapes Go.WideShapes Go.ChangeAt Go.RowKit
theorem iC {a b:Bool} (h:a=true) (k:b=true):(a&&b)=true:=by rw[h,k];rfl
theorem SO:(Rows.calmUptoRow.wf (OpenSpec.ofChange (Rows.OpenSpec.upto Rows.calmSpec).bare))=true:=by kernel_rfl
theorem SP:(laidOutB Tryz.prog)=true:=by kernel_rfl
theorem SQ:(mapsRowed Tryz.prog)=true:=by kernel_rfl
theorem SR:(Tryz.f10.params.all (Tryz.prog.readableRec ·))=true:=by kernel_rfl
theorem SS:(namedTie Tryz.prog Rows.calmUptoRow.named (Rows.OpenSpec.upto Rows.calmSpec).bare.vars)=true:=by kernel_rfl
theorem ST:((Rows.calmUptoRow.stops==[]))=true:=by kernel_rfl
theorem SU:((Tryz.prog.stops==[]))=true:=by kernel_rfl
theorem SV:((Rows.calmUptoRow.knobs==[]))=true:=by kernel_rfl
theorem SW:((Tryz.prog.stopKnobs==[]))=true:=by kernel_rfl
theorem SX:((Rows.calmUptoRow.inPlace==Tryz.prog.inPlace 10))=true:=by kernel_rfl
theorem RG:((Rows.calmUptoRow.unfollowed==Tryz.prog.unfollowed 10))=true:=by kernel_rfl
theorem RH:((Rows.calmUptoRow.recurses==Tryz.prog.recurses 10))=true:=by kernel_rfl
theorem RI:((Rows.calmUptoRow.named==Tryz.prog.varsNamed 10))=true:=by kernel_rfl
theorem RJ:((Rows.calmUptoRow.maps==(Tryz.f10.params.toList++(Rows.OpenSpec.upto Rows.calmSpec).bare.plain.varTypes Tryz.prog).any (Tryz.prog.mapsRec ·)))=true:=by kernel_rfl
theorem RK:((Rows.calmUptoRow.ifaces==(Tryz.f10.params.toList++(Rows.OpenSpec.upto Rows.calmSpec).bare.plain.varTypes Tryz.prog).any (Tryz.prog.ifacesRec ·)))=true:=by kernel_rfl
theorem RL:((Rows.calmUptoRow.mapsOut==Tryz.prog.mapsAmong Tryz.f10.resultTypes.toList))=true:=by kernel_rfl
theorem RM:((Rows.calmUptoRow.loops==(Tryz.f10.params.toList++(Rows.OpenSpec.upto Rows.calmSpec).bare.plain.varTypes Tryz.prog).any (Tryz.prog.loopsFrom ·)))=true:=by kernel_rfl
theorem RO:((Rows.calmUptoRow.wideKeys==(Tryz.f10.params.toList++(Rows.OpenSpec.upto Rows.calmSpec).bare.plain.varTypes Tryz.prog++Tryz.f10.resultTypes.toList).any (Tryz.prog.wideKeysFrom ·)))=true:=by kernel_rfl
theorem RP:((Rows.OpenSpec.upto Rows.calmSpec).bare.vars.all (Tryz.prog.varReadable ·))=true:=by kernel_rfl
theorem RQ:(Tryz.f10.resultTypes.all (λt=>Tryz.prog.readableRec t&&decide (t<Tryz.prog.types.size)))=true:=by kernel_rfl
theorem RR:((Rows.calmUptoRow.ifacesOut==Tryz.f10.resultTypes.toList.any (Tryz.prog.ifacesRec ·)))=true:=by kernel_rfl
theorem RS:((Rows.calmUptoRow.loopsOut==Tryz.f10.resultTypes.toList.any (Tryz.prog.loopsFrom ·)))=true:=by kernel_rfl
theorem RT:((Rows.calmUptoRow.plainKeys==Tryz.prog.plainKeys))=true:=by kernel_rfl
theorem RU:(Rows.calmUptoRow.shortTexts.isNone)=true:=by kernel_rfl
theorem RV:(Tryz.prog.stopsHeard)=true:=by kernel_rfl
theorem RX:(Tryz.prog.mayEnter)=true:=by kernel_rfl
theorem RY:((Rows.calmUptoRow.lifted==Tryz.prog.liftsFinal))=true:=by kernel_rfl
theorem RZ:((Tryz.prog.make==some Rows.calmUptoRow.make))=true:=by kernel_rfl
theorem R0:((Rows.calmUptoRow.kinds==(if Rows.calmUptoRow.domain.isEmpty then[] else Tryz.f10.params.toList.map λt=>match Tryz.prog.underlying t with|some (.int k)=>some k|_=>none)))=true:=by kernel_rfl
theorem R1:((Rows.calmUptoRow.pinned==Rows.calmUptoRow.pinnedBy))=true:=by kernel_rfl
theorem R2:((Rows.calmUptoRow.veiled==(Tryz.f10.params.toList++(Rows.OpenSpec.upto Rows.calmSpec).bare.plain.varTypes Tryz.prog++Tryz.f10.resultTypes.toList).any (Tryz.prog.veiledRec ·)))=true:=by kernel_rfl
theorem R3:(Rows.calmUptoRow.veiledFits Tryz.prog Tryz.f10.params.toList (Tryz.f10.params.toList++(Rows.OpenSpec.upto Rows.calmSpec).bare.plain.varTypes Tryz.prog++Tryz.f10.resultTypes.toList))=true:=by kernel_rfl
theorem SY:joinedFacts Tryz.prog 10 Tryz.f10 (Rows.OpenSpec.upto Rows.calmSpec).bare Rows.calmUptoRow=true:=(iC (iC (iC (iC (iC (iC (iC (iC (iC (iC (iC (iC (iC (iC (iC (iC (iC (iC (iC (iC (iC (iC (iC (iC (iC (iC (iC (iC (iC (iC (iC SO SP) SQ) SR) SS) ST) SU) SV) SW) SX) RG) RH) RI) RJ) RK) RL) RM) RO) RP) RQ) RR) RS) RT) RU) RV) RX) RY) RZ) R0) R1) R2) R3)
end Go.Proofs.YtdcainmlcpafbaaGreatDoor
