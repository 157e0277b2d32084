import Derived.Test.YtdcainmlcpafbaaGreatDoorJ13
import Derived.Shelf.SlSortCmp.WholeK
set_option linter.all false
namespace Go.Proofs.YtdcainmlcpafbaaGreatDoor
open Go.RowKit Go.Maps Go.Sort Go.Shelf Go.Lib

def sG:Go.Shelf.Ren:=⟨fun|6=>267|15=>273|14=>272|28=>284|29=>285|20=>276|21=>277|22=>278|23=>279|24=>280|25=>281|26=>282|27=>283|46=>286|47=>287|48=>288|49=>289|50=>290|57=>291|n=>n,fun|22=>344|24=>321|25=>349|3=>3|39=>293|0=>0|53=>127|55=>332|4=>4|46=>367|45=>366|50=>371|5=>5|9=>9|66=>373|70=>377|76=>379|77=>175|n=>n,fun|n=>n⟩
theorem uB:Go.Proofs.SlLaysF0.n6 Tryz.prog sG where
 mixed:=by kernel_rfl
 f6:=⟨Tryz.f267.name,by decide,Tryz.func267.trans (congrArg some (by kernel_rfl))⟩
 f14:=⟨Tryz.f272.name,by decide,Tryz.func272.trans (congrArg some (by kernel_rfl))⟩
 f15:=Tryz.func273.trans (congrArg some (by kernel_rfl))
 f20:=⟨Tryz.f276.name,by decide,Tryz.func276.trans (congrArg some (by kernel_rfl))⟩
 f21:=⟨Tryz.f277.name,by decide,Tryz.func277.trans (congrArg some (by kernel_rfl))⟩
 f22:=⟨Tryz.f278.name,by decide,Tryz.func278.trans (congrArg some (by kernel_rfl))⟩
 f23:=⟨Tryz.f279.name,by decide,Tryz.func279.trans (congrArg some (by kernel_rfl))⟩
 f24:=⟨Tryz.f280.name,by decide,Tryz.func280.trans (congrArg some (by kernel_rfl))⟩
 f25:=⟨Tryz.f281.name,by decide,Tryz.func281.trans (congrArg some (by kernel_rfl))⟩
 f26:=⟨Tryz.f282.name,by decide,Tryz.func282.trans (congrArg some (by kernel_rfl))⟩
 f27:=⟨Tryz.f283.name,by decide,Tryz.func283.trans (congrArg some (by kernel_rfl))⟩
 f28:=Tryz.func284.trans (congrArg some (by kernel_rfl))
 f29:=Tryz.func285.trans (congrArg some (by kernel_rfl))
 f46:=⟨Tryz.f286.name,by decide,Tryz.func286.trans (congrArg some (by kernel_rfl))⟩
 f47:=Tryz.func287.trans (congrArg some (by kernel_rfl))
 f48:=Tryz.func288.trans (congrArg some (by kernel_rfl))
 f49:=⟨Tryz.f289.name,by decide,Tryz.func289.trans (congrArg some (by kernel_rfl))⟩
 f50:=⟨Tryz.f290.name,by decide,Tryz.func290.trans (congrArg some (by kernel_rfl))⟩
 f57:=⟨Tryz.f291.name,by decide,Tryz.func291.trans (congrArg some (by kernel_rfl))⟩
 t0:=Tryz.underlying0
 a0:=Tryz.isAgg0
 z0:=Tryz.sizeOf0
 v0:=Tryz.zeroValue0
 t3:=Tryz.underlying3
 a3:=Tryz.isAgg3
 z3:=Tryz.sizeOf3
 v3:=Tryz.zeroValue3
 t4:=Tryz.underlying4
 a4:=Tryz.isAgg4
 z4:=Tryz.sizeOf4
 v4:=Tryz.zeroValue4
 t5:=Tryz.underlying5
 a5:=Tryz.isAgg5
 z5:=Tryz.sizeOf5
 v5:=Tryz.zeroValue5
 t9:=Tryz.underlying9
 a9:=Tryz.isAgg9
 z9:=Tryz.sizeOf9
 v9:=Tryz.zeroValue9
 t22:=Tryz.underlying344
 a22:=Tryz.isAgg344
 z22:=Tryz.sizeOf344
 v22:=Tryz.zeroValue344
 t25:=Tryz.underlying349
 a25:=Tryz.isAgg349
 z25:=Tryz.sizeOf349
 v25:=Tryz.zeroValue349
 t39:=Tryz.underlying293
 a39:=Tryz.isAgg293
 z39:=Tryz.sizeOf293
 v39:=Tryz.zeroValue293
 t45:=Tryz.underlying366
 a45:=Tryz.isAgg366
 z45:=Tryz.sizeOf366
 v45:=Tryz.zeroValue366
 t46:=Tryz.underlying367
 a46:=Tryz.isAgg367
 z46:=Tryz.sizeOf367
 v46:=Tryz.zeroValue367
 t50:=Tryz.underlying371
 a50:=Tryz.isAgg371
 z50:=Tryz.sizeOf371
 v50:=Tryz.zeroValue371
 t53:=Tryz.underlying127
 a53:=Tryz.isAgg127
 z53:=Tryz.sizeOf127
 v53:=Tryz.zeroValue127
 t55:=Tryz.underlying332
 a55:=Tryz.isAgg332
 z55:=Tryz.sizeOf332
 v55:=Tryz.zeroValue332
 t66:=Tryz.underlying373
 a66:=Tryz.isAgg373
 z66:=Tryz.sizeOf373
 v66:=Tryz.zeroValue373
 t70:=Tryz.underlying377
 a70:=Tryz.isAgg377
 z70:=Tryz.sizeOf377
 v70:=Tryz.zeroValue377
 t76:=Tryz.underlying379
 a76:=Tryz.isAgg379
 z76:=Tryz.sizeOf379
 v76:=Tryz.zeroValue379
 t77:=Tryz.underlying175
 a77:=Tryz.isAgg175
 z77:=Tryz.sizeOf175
 v77:=Tryz.zeroValue175
def iW(x y:Int):Int:=if x<y then -1 else if y<x then 1 else 0
set_option maxHeartbeats 1000000 in
theorem oH(x:Int)(w:World):Calls Tryz.prog 274 #[.int .i64 x] w fun e w'=>e=.returned (.bool false)/\w'=w:=by
 go_enter Tryz.func274,Tryz.ntmps274
 go_wp2
 go_ret
 exact⟨rfl,rfl⟩
set_option maxHeartbeats 1000000 in
theorem yP(x y:Int)(w:World):Calls Tryz.prog 269 #[.int .i64 x,.int .i64 y] w fun e w'=>e=.returned (.int .i64 (iW x y))/\w'=w:=by
 unfold iW
 by_cases h1:x<y
 ·rw[if_pos h1]
  go_enter Tryz.func269,Tryz.ntmps269
  go_wp2_with(go_at_call 274;refine(oH _ _).mono ?_;rintro e w' ⟨rfl,rfl⟩)
  go_ret
  exact⟨rfl,rfl⟩
 ·rw[if_neg h1]
  by_cases h2:y<x
  ·rw[if_pos h2]
   go_enter Tryz.func269,Tryz.ntmps269
   go_wp2_with(go_at_call 274;refine(oH _ _).mono ?_;rintro e w' ⟨rfl,rfl⟩)
   go_ret
   exact⟨rfl,rfl⟩
  ·rw[if_neg h2]
   go_enter Tryz.func269,Tryz.ntmps269
   go_wp2_with(go_at_call 274;refine(oH _ _).mono ?_;rintro e w' ⟨rfl,rfl⟩)
   go_ret
   exact⟨rfl,rfl⟩
set_option maxHeartbeats 1000000 in
theorem yQ(x y:Int)(W:World):Calls Tryz.prog 262 #[.agg #[.int .i64 x],.agg #[.int .i64 y]] W fun e w'=>e=.returned (.int .i64 (iW x y))/\∃q os',w'=grow (W.drewN q) os':=by
 have hcon:=fun W'=>yP x y W'
 generalize iW x y=r at hcon⊢
 go_enter Tryz.func262,Tryz.ntmps262
 go_wp2_with(go_at_call 269;refine(hcon _).mono ?_;rintro e w' ⟨rfl,rfl⟩)
 go_ret
 exact⟨rfl,0,_,by rw[alloc_eq_grow,alloc_eq_grow,grow_grow];rfl⟩
def gH(x:Int):List Value:=[.int .i64 x]
theorem EX(blk off size:Nat)(w:World):CmpLays Tryz.prog 262 #[] gH 1 iW blk off size w:=
 fun _ _ _ _ x y=>yQ x y _
theorem pP(x y:Int):ltOf iW x y=decide (x<y):=by
 unfold ltOf iW
 by_cases h1:x<y
 ·simp[h1]
 ·by_cases h2:y<x<;>simp[h1,h2]
theorem KI:SWO (ltOf iW) where
 irrefl x:=by rw[pP];simp
 trans x y z h1 h2:=by rw[pP] at*;simp at*;omega
 ntrans x y z h1 h2:=by rw[pP] at*;simp at*;omega
theorem CJ(blk off cap:Nat)(d:Array Int)(w:World)(hH:HoldsK gH 1 w blk off d)(hblk:blk<w.heap.size)(hsz:d.size<4611686018427387904):
  Calls Tryz.prog 267 #[.slice (some ⟨blk,off,none⟩) d.size cap,.func (.func 262) #[] #[]] w fun e w'=>e=.returned (.tuple #[])/\∃d' n os,PermIn 0 d.size d d'/\SortedIn (ltOf iW) 0 d.size d'/\w'=sortWorldK gH 1 w blk off n d' os:=by
 have eg:∀args w,(callFunc 262 args).run Tryz.prog w=.ok (.enter 262 args) w:=enters_of Tryz.func262 (by kernel_rfl) rfl
 exact AnyQ.slices_SortFunc uB 1 Tryz.isAgg321 Tryz.sizeOf321 gH (fun _=>rfl) (fun x v hv=>by simp[gH]at hv;subst hv;rfl) iW KI 262 #[] blk off cap d w eg (EX blk off d.size w) hH hblk hsz
end Go.Proofs.YtdcainmlcpafbaaGreatDoor
