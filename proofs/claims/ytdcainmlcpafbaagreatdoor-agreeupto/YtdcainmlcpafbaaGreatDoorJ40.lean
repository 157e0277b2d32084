import Derived.Shelf.Strings.Builder1
import Derived.Test.YtdcainmlcpafbaaGreatDoorJ10
set_option linter.all false
set_option maxHeartbeats 8000000
set_option maxRecDepth 100000
namespace Go.Proofs.YtdcainmlcpafbaaGreatDoor
open Go.RowKit Go.Shelf
def AX:Go.Shelf.Ren:=⟨fun|169=>265|240=>270|276=>275|n=>n,fun|164=>258|70=>350|9=>9|0=>0|72=>352|37=>148|127=>361|3=>3|5=>5|n=>n,fun|n=>n⟩
theorem PI:Go.Proofs.Lays.n169 Tryz.prog AX where
 mixed:=by kernel_rfl
 f169:=Tryz.func265.trans (congrArg some (by kernel_rfl))
 t0:=Tryz.underlying0
 a0:=Tryz.isAgg0
 z0:=Tryz.sizeOf0
 v0:=Tryz.zeroValue0
 t3:=Tryz.underlying3
 a3:=Tryz.isAgg3
 z3:=Tryz.sizeOf3
 v3:=Tryz.zeroValue3
 t9:=Tryz.underlying9
 a9:=Tryz.isAgg9
 z9:=Tryz.sizeOf9
 v9:=Tryz.zeroValue9
 t37:=Tryz.underlying148
 a37:=Tryz.isAgg148
 z37:=Tryz.sizeOf148
 v37:=Tryz.zeroValue148
 t70:=Tryz.underlying350
 a70:=Tryz.isAgg350
 z70:=Tryz.sizeOf350
 v70:=Tryz.zeroValue350
 t72:=Tryz.underlying352
 a72:=Tryz.isAgg352
 z72:=Tryz.sizeOf352
 v72:=Tryz.zeroValue352
 t127:=Tryz.underlying361
 a127:=Tryz.isAgg361
 z127:=Tryz.sizeOf361
 v127:=Tryz.zeroValue361
theorem qN:Builder.Extra Tryz.prog AX where
 sizeBuilder:=by kernel_rfl
 liesBuilder:=by kernel_rfl
 t5:=Tryz.underlying5
 a5:=Tryz.isAgg5
 z5:=Tryz.sizeOf5
 v5:=Tryz.zeroValue5
 infoByte:=by kernel_rfl
 cellsByte:=by kernel_rfl
 sizeByte:=by kernel_rfl
 neB5:=by decide
theorem xP(l:List UInt8):gU l=Lib.byteCells l:=by unfold gU Lib.byteCells;rfl
theorem QN:H7:=by intro B b l w h a;rw[xP]at h;exact Any.Builder_String_any PI qN B b l w h a
theorem D5:Go.Proofs.Lays.n240 Tryz.prog AX where
 mixed:=by kernel_rfl
 f240:=Tryz.func270.trans (congrArg some (by kernel_rfl))
 f276:=Tryz.func275.trans (congrArg some (by kernel_rfl))
 t0:=Tryz.underlying0
 a0:=Tryz.isAgg0
 z0:=Tryz.sizeOf0
 v0:=Tryz.zeroValue0
 t4:=Tryz.underlying4
 a4:=Tryz.isAgg4
 z4:=Tryz.sizeOf4
 v4:=Tryz.zeroValue4
 t9:=Tryz.underlying9
 a9:=Tryz.isAgg9
 z9:=Tryz.sizeOf9
 v9:=Tryz.zeroValue9
 t20:=Tryz.underlying20
 a20:=Tryz.isAgg20
 z20:=Tryz.sizeOf20
 v20:=Tryz.zeroValue20
 t70:=Tryz.underlying350
 a70:=Tryz.isAgg350
 z70:=Tryz.sizeOf350
 v70:=Tryz.zeroValue350
 t72:=Tryz.underlying352
 a72:=Tryz.isAgg352
 z72:=Tryz.sizeOf352
 v72:=Tryz.zeroValue352
 t164:=Tryz.underlying258
 a164:=Tryz.isAgg258
 z164:=Tryz.sizeOf258
 v164:=Tryz.zeroValue258
theorem EH(B b:Nat)(a:List Value)(w:World)(h:Lib.IsBuilder 352 5 B b a w):Calls Tryz.prog 270 #[.pointer (some ⟨b,0,none⟩)] w fun e w'=>e=.returned (.tuple #[])/\(Lib.BuilderAt 352 5 B b (.pointer (some ⟨b,0,none⟩)) a w'/\Below B w w'):=Any.Builder_copyCheck D5 qN.toX72 B b a w h
set_option maxHeartbeats 2000000 in
set_option maxRecDepth 100000 in
theorem KY:eZ:=by
 intro B b l s w h z H;obtain⟨E,hi,q,r,t⟩:=info_parts qN.infoByte;go_enter Tryz.func264,Tryz.ntmps264;go_wp2_with(go_at_call 270;refine(EH B b (gU l) _ h).mono ?_);rintro e w1 ⟨rfl,D,m⟩;obtain⟨A,v,d,i,o⟩:=D;have M:w1.cell? ⟨b,0,none⟩=some (.pointer (some ⟨b,0,none⟩)):=by rw[Lib.cell_of_heap d];rfl
 have N:w1.cell? ⟨b,1,none⟩=some v:=by rw[Lib.cell_of_heap d];rfl
 go_wp2_with(at_builtin;refine Lib.wpList_append_own_string _ rfl _ _ 148 9 rfl B 5 E Tryz.underlying148 Tryz.underlying9 hi q r t _ _ _ rfl i s rfl ?c3 ?c4 ?c5 ?_);case c3=>simp[gU];unfold maxLen;omega
 case c4=>simp[gU];omega
 case c5=>have:=m.size;omega
 intro v' w2 a c _;have n:b<w1.heap.size:=by
  rcases Nat.lt_or_ge b w1.heap.size with h'|h';·exact h'
  ·simp[Array.getElem?_eq_none h']at d
 have f:w2.heap[b]?=some (.cells #[.pointer (some ⟨b,0,none⟩),v] 352 (0,0)):=by rw[c.block b n (fun e=>o e.symm)];exact d
 have O:w2.cell? ⟨b,0,none⟩=some (.pointer (some ⟨b,0,none⟩)):=by rw[Lib.cell_of_heap f];rfl
 have L:w2.cell? ⟨b,1,none⟩=some v:=by rw[Lib.cell_of_heap f];rfl
 have K:w2.frozen? ⟨b,1,none⟩=false:=Lib.frozen_of_heap f 1;obtain⟨y,n',j,rfl⟩:∃y n' j,v'=.slice y n' j:=by
  rcases a.2 with⟨x,_⟩|⟨g,j,F,x,_⟩;·exact⟨_,_,_,x⟩
  ·exact⟨_,_,_,x⟩
 have u:gU (l++s.data.toList)=gU l++Lib.strCells s:=by rw[FW];congr 1
 go_wp2;go_ret2;refine⟨rfl,.inr ?_,?_⟩;·rw[u];exact Lib.BuilderAt.put (T:=352) (e:=5) A f (bs':=gU l++Lib.strCells s) (by simpa[Lib.strCells_length] using a) (by decide)
 ·exact(m.grown c (by have:=m.size;omega) (fun k C=>(i.lt k C).1)).setCell (p:=⟨b,1,none⟩) A _
section
open Value (int slice pointer bool)
open IntKind (i64)
theorem L3:fA:=by
 intro B b l w h r;rw[xP]at h;obtain⟨p,K,v,q,a,u⟩:∃p,Lib.BuilderAt 352 5 B b p (Lib.byteCells l) w:=by
  rcases h with h|h;·exact⟨_,h⟩
  ·exact⟨_,h⟩
 have f:l.length≠0:=by simpa using r
 rw[Lib.byteCells_length]at a;obtain⟨g,c,d,rfl,n,s,D,i,E,e⟩:=a.2.resolve_left (fun o=>f o.2);have H:w.drew.cell? ⟨b,1,none⟩=some (.slice (some ⟨g,0,none⟩) l.length c):=by have:w.drew.heap[b]?=some (.cells #[p,.slice (some ⟨g,0,none⟩) l.length c] 352 (0,0)):=q;rw[Lib.cell_of_heap this];rfl
 have C:(Builtin.unsafeSliceData_ #[148] 361 #[.slice (some ⟨g,0,none⟩) l.length c]).run Tryz.prog w.drew=.ok (.pointer (some ⟨g,0,none⟩)) w.drew:=Lib.run_unsafeSliceData_row _ _ _ _ _ _ (by omega);have t:(Builtin.unsafeString_ #[361,3] 9 #[.pointer (some ⟨g,0,none⟩),.int .i64 l.length]).run Tryz.prog w.drew=.ok (.string ⟨l.toArray⟩) (w.drew.freeze ⟨g,0,none⟩ l.length):=by refine Lib.run_unsafeString_row w.drew 361 3 9 5 Tryz.underlying361 qN.cellsByte g d.size (by have m:w.drew.heap[g]?=some (.cells d 5 (0,0)):=s;simp[World.shape?,m]) l r (by omega) (by unfold maxLen at i;omega) ?_;intro j x F;exact a.cells (g:=g) rfl j (.int .u8 x.toNat) (by simp[Lib.byteCells,F])
 have y:Hid (dH g w (w.drew.freeze ⟨g,0,none⟩ l.length)):=by
  unfold Hid World.freeze;split;·exact⟨rfl,rfl,rfl,rfl,fun k _=>rfl⟩
  ·refine⟨rfl,rfl,rfl,by show(Array.modify _ _ _).size=_;rw[Array.size_modify];rfl,fun k z=>?_⟩;simp only[Array.getElem?_modify];rw[if_neg (fun o=>z o.symm)];rfl
 have A:=dA s;clear a e;have mixed:Tryz.prog.follows Departure.mixedOrders=true:=by kernel_rfl
 go_enter Tryz.func265,Tryz.ntmps265;go_wp2;go_region_o;all_goals(go_wp2;go_ret;exact⟨rfl,g,d,n,A,y⟩)
end
end Go.Proofs.YtdcainmlcpafbaaGreatDoor
