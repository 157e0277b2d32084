import Derived.Test.YtdcainmlcpafbaaGreatDoorP5
set_option linter.all false
set_option maxRecDepth 100000
namespace Go.Proofs.YtdcainmlcpafbaaGreatDoor
open Go.ChangeShapes Go.WideShapes Go.ChangeAt Go.RowKit

theorem dE {a b:Bool} (h:a=true) (k:b=true):(a&&b)=true:=by rw[h,k];rfl
theorem KK:(Rows.votersUptoRow.wf (OpenSpec.ofChange (Rows.OpenSpec.upto Rows.votersSpec).bare))=true:=by kernel_rfl
theorem KL:(laidOutB Tryz.prog)=true:=by kernel_rfl
theorem KM:(mapsRowed Tryz.prog)=true:=by kernel_rfl
theorem KN:(Tryz.f6.params.all (Tryz.prog.readableRec ·))=true:=by kernel_rfl
theorem KO:(namedTie Tryz.prog Rows.votersUptoRow.named (Rows.OpenSpec.upto Rows.votersSpec).bare.vars)=true:=by kernel_rfl
theorem KQ:((Rows.votersUptoRow.stops==[]))=true:=by kernel_rfl
theorem KR:((Tryz.prog.stops==[]))=true:=by kernel_rfl
theorem KS:((Rows.votersUptoRow.knobs==[]))=true:=by kernel_rfl
theorem KT:((Tryz.prog.stopKnobs==[]))=true:=by kernel_rfl
theorem KU:((Rows.votersUptoRow.inPlace==Tryz.prog.inPlace 6))=true:=by kernel_rfl
theorem JK:((Rows.votersUptoRow.unfollowed==Tryz.prog.unfollowed 6))=true:=by kernel_rfl
theorem JL:((Rows.votersUptoRow.recurses==Tryz.prog.recurses 6))=true:=by kernel_rfl
theorem JM:((Rows.votersUptoRow.named==Tryz.prog.varsNamed 6))=true:=by kernel_rfl
theorem JN:((Rows.votersUptoRow.maps==(Tryz.f6.params.toList++(Rows.OpenSpec.upto Rows.votersSpec).bare.plain.varTypes Tryz.prog).any (Tryz.prog.mapsRec ·)))=true:=by kernel_rfl
theorem JO:((Rows.votersUptoRow.ifaces==(Tryz.f6.params.toList++(Rows.OpenSpec.upto Rows.votersSpec).bare.plain.varTypes Tryz.prog).any (Tryz.prog.ifacesRec ·)))=true:=by kernel_rfl
theorem JP:((Rows.votersUptoRow.mapsOut==Tryz.prog.mapsAmong Tryz.f6.resultTypes.toList))=true:=by kernel_rfl
theorem JQ:((Rows.votersUptoRow.loops==(Tryz.f6.params.toList++(Rows.OpenSpec.upto Rows.votersSpec).bare.plain.varTypes Tryz.prog).any (Tryz.prog.loopsFrom ·)))=true:=by kernel_rfl
theorem JR:((Rows.votersUptoRow.wideKeys==(Tryz.f6.params.toList++(Rows.OpenSpec.upto Rows.votersSpec).bare.plain.varTypes Tryz.prog++Tryz.f6.resultTypes.toList).any (Tryz.prog.wideKeysFrom ·)))=true:=by kernel_rfl
theorem JS:((Rows.OpenSpec.upto Rows.votersSpec).bare.vars.all (Tryz.prog.varReadable ·))=true:=by kernel_rfl
theorem JT:(Tryz.f6.resultTypes.all (fun t=>Tryz.prog.readableRec t&&decide (t<Tryz.prog.types.size)))=true:=by kernel_rfl
theorem JU:((Rows.votersUptoRow.ifacesOut==Tryz.f6.resultTypes.toList.any (Tryz.prog.ifacesRec ·)))=true:=by kernel_rfl
theorem JV:((Rows.votersUptoRow.loopsOut==Tryz.f6.resultTypes.toList.any (Tryz.prog.loopsFrom ·)))=true:=by kernel_rfl
theorem JW:((Rows.votersUptoRow.plainKeys==Tryz.prog.plainKeys))=true:=by kernel_rfl
theorem JX:(Rows.votersUptoRow.shortTexts.isNone)=true:=by kernel_rfl
theorem JY:(Tryz.prog.stopsHeard)=true:=by kernel_rfl
theorem JZ:(Tryz.prog.mayEnter)=true:=by kernel_rfl
theorem J0:((Rows.votersUptoRow.lifted==Tryz.prog.liftsFinal))=true:=by kernel_rfl
theorem J2:((Tryz.prog.make==some Rows.votersUptoRow.make))=true:=by kernel_rfl
theorem J3:((Rows.votersUptoRow.kinds==(if Rows.votersUptoRow.domain.isEmpty then[] else Tryz.f6.params.toList.map fun t=>match Tryz.prog.underlying t with|some (.int k)=>some k|_=>none)))=true:=by kernel_rfl
theorem J4:((Rows.votersUptoRow.pinned==Rows.votersUptoRow.pinnedBy))=true:=by kernel_rfl
theorem J5:((Rows.votersUptoRow.veiled==(Tryz.f6.params.toList++(Rows.OpenSpec.upto Rows.votersSpec).bare.plain.varTypes Tryz.prog++Tryz.f6.resultTypes.toList).any (Tryz.prog.veiledRec ·)))=true:=by kernel_rfl
theorem J6:(Rows.votersUptoRow.veiledFits Tryz.prog Tryz.f6.params.toList (Tryz.f6.params.toList++(Rows.OpenSpec.upto Rows.votersSpec).bare.plain.varTypes Tryz.prog++Tryz.f6.resultTypes.toList))=true:=by kernel_rfl
theorem KV:joinedFacts Tryz.prog 6 Tryz.f6 (Rows.OpenSpec.upto Rows.votersSpec).bare Rows.votersUptoRow=true:=(dE (dE (dE (dE (dE (dE (dE (dE (dE (dE (dE (dE (dE (dE (dE (dE (dE (dE (dE (dE (dE (dE (dE (dE (dE (dE (dE (dE (dE (dE (dE KK KL) KM) KN) KO) KQ) KR) KS) KT) KU) JK) JL) JM) JN) JO) JP) JQ) JR) JS) JT) JU) JV) JW) JX) JY) JZ) J0) J2) J3) J4) J5) J6)
end Go.Proofs.YtdcainmlcpafbaaGreatDoor
