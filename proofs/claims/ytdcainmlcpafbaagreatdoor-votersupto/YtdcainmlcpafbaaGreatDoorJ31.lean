import Derived.Test.YtdcainmlcpafbaaGreatDoorJ13
import Derived.Shelf.Strings.Builder1
set_option linter.all false
namespace Go.Proofs.YtdcainmlcpafbaaGreatDoor
open Go.RowKit Go.Shelf

def sV:Go.Shelf.Ren:=⟨fun|169=>265|240=>270|276=>275|n=>n,fun|164=>258|70=>350|9=>9|0=>0|72=>352|37=>148|127=>361|3=>3|5=>5|n=>n,fun|n=>n⟩
theorem KJ:Go.Proofs.Lays.n169 Tryz.prog sV where
 mixed:=by kernel_rfl
 f169:=Tryz.func265.trans (congrArg some (by kernel_rfl))
 t0:=Tryz.underlying0
 a0:=Tryz.isAgg0
 z0:=Tryz.sizeOf0
 v0:=Tryz.zeroValue0
 t3:=Tryz.underlying3
 a3:=Tryz.isAgg3
 z3:=Tryz.sizeOf3
 v3:=Tryz.zeroValue3
 t9:=Tryz.underlying9
 a9:=Tryz.isAgg9
 z9:=Tryz.sizeOf9
 v9:=Tryz.zeroValue9
 t37:=Tryz.underlying148
 a37:=Tryz.isAgg148
 z37:=Tryz.sizeOf148
 v37:=Tryz.zeroValue148
 t70:=Tryz.underlying350
 a70:=Tryz.isAgg350
 z70:=Tryz.sizeOf350
 v70:=Tryz.zeroValue350
 t72:=Tryz.underlying352
 a72:=Tryz.isAgg352
 z72:=Tryz.sizeOf352
 v72:=Tryz.zeroValue352
 t127:=Tryz.underlying361
 a127:=Tryz.isAgg361
 z127:=Tryz.sizeOf361
 v127:=Tryz.zeroValue361
theorem mC:Builder.Extra Tryz.prog sV where
 sizeBuilder:=by kernel_rfl
 liesBuilder:=by kernel_rfl
 t5:=Tryz.underlying5
 a5:=Tryz.isAgg5
 z5:=Tryz.sizeOf5
 v5:=Tryz.zeroValue5
 infoByte:=by kernel_rfl
 cellsByte:=by kernel_rfl
 sizeByte:=by kernel_rfl
 neB5:=by decide
theorem vN(l:List UInt8):dL l=Lib.byteCells l:=by
 unfold dL Lib.byteCells
 rfl
theorem CL:cS:=by
 intro B b l w h hB
 rw[vN]at h
 exact Any.Builder_String_any KJ mC B b l w h hB
theorem uT:Go.Proofs.Lays.n240 Tryz.prog sV where
 mixed:=by kernel_rfl
 f240:=Tryz.func270.trans (congrArg some (by kernel_rfl))
 f276:=Tryz.func275.trans (congrArg some (by kernel_rfl))
 t0:=Tryz.underlying0
 a0:=Tryz.isAgg0
 z0:=Tryz.sizeOf0
 v0:=Tryz.zeroValue0
 t4:=Tryz.underlying4
 a4:=Tryz.isAgg4
 z4:=Tryz.sizeOf4
 v4:=Tryz.zeroValue4
 t9:=Tryz.underlying9
 a9:=Tryz.isAgg9
 z9:=Tryz.sizeOf9
 v9:=Tryz.zeroValue9
 t20:=Tryz.underlying20
 a20:=Tryz.isAgg20
 z20:=Tryz.sizeOf20
 v20:=Tryz.zeroValue20
 t70:=Tryz.underlying350
 a70:=Tryz.isAgg350
 z70:=Tryz.sizeOf350
 v70:=Tryz.zeroValue350
 t72:=Tryz.underlying352
 a72:=Tryz.isAgg352
 z72:=Tryz.sizeOf352
 v72:=Tryz.zeroValue352
 t164:=Tryz.underlying258
 a164:=Tryz.isAgg258
 z164:=Tryz.sizeOf258
 v164:=Tryz.zeroValue258
theorem vO(B b:Nat)(bs:List Value)(w:World)(h:Lib.IsBuilder 352 5 B b bs w):
  Calls Tryz.prog 270 #[.pointer (some ⟨b,0,none⟩)] w fun e w'=>e=.returned (.tuple #[])/\(Lib.BuilderAt 352 5 B b (.pointer (some ⟨b,0,none⟩)) bs w'/\Below B w w'):=Any.Builder_copyCheck uT mC.toX72 B b bs w h
set_option maxHeartbeats 2000000 in
set_option maxRecDepth 100000 in
theorem EZ:cV:=by
 intro B b l s w h hlen hBw
 obtain⟨i0,hi,hz0,hz1,hz2⟩:=info_parts mC.infoByte
 go_enter Tryz.func264,Tryz.ntmps264
 go_wp2_with(go_at_call 270;refine(vO B b (dL l) _ h).mono ?_)
 rintro e w1 ⟨rfl,h1,hb1⟩
 obtain⟨hB,v,hbk,hown,hne⟩:=h1
 have c0:w1.cell? ⟨b,0,none⟩=some (.pointer (some ⟨b,0,none⟩)):=by rw[Lib.cell_of_heap hbk];rfl
 have c1:w1.cell? ⟨b,1,none⟩=some v:=by rw[Lib.cell_of_heap hbk];rfl
 go_wp2_with(at_builtin;refine Lib.wpList_append_own_string _ rfl _ _ 148 9 rfl B 5 i0 Tryz.underlying148 Tryz.underlying9 hi hz0 hz1 hz2 _ _ _ rfl hown s rfl ?c3 ?c4 ?c5 ?_)
 case c3=>simp[dL];unfold maxLen;omega
 case c4=>simp[dL];omega
 case c5=>have:=hb1.size;omega
 intro v' w2 hown' hgrow _
 have hlt:b<w1.heap.size:=by
  rcases Nat.lt_or_ge b w1.heap.size with h'|h'
  ·exact h'
  ·simp[Array.getElem?_eq_none h']at hbk
 have hb2:w2.heap[b]?=some (.cells #[.pointer (some ⟨b,0,none⟩),v] 352 (0,0)):=by
  rw[hgrow.block b hlt (fun e=>hne e.symm)]
  exact hbk
 have d0:w2.cell? ⟨b,0,none⟩=some (.pointer (some ⟨b,0,none⟩)):=by rw[Lib.cell_of_heap hb2];rfl
 have d1:w2.cell? ⟨b,1,none⟩=some v:=by rw[Lib.cell_of_heap hb2];rfl
 have f1:w2.frozen? ⟨b,1,none⟩=false:=Lib.frozen_of_heap hb2 1
 obtain⟨ao,n',cap,rfl⟩:∃ao n' cap,v'=.slice ao n' cap:=by
  rcases hown'.2 with⟨hv,_⟩|⟨g,cap,cur,hv,_⟩
  ·exact⟨_,_,_,hv⟩
  ·exact⟨_,_,_,hv⟩
 have hcs:dL (l++s.data.toList)=dL l++Lib.strCells s:=by
  rw[yY]
  congr 1
 go_wp2
 go_ret2
 refine⟨rfl,.inr ?_,?_⟩
 ·rw[hcs]
  exact Lib.BuilderAt.put (T:=352) (e:=5) hB hb2 (bs':=dL l++Lib.strCells s) (by simpa[Lib.strCells_length] using hown') (by decide)
 ·exact(hb1.grown hgrow (by have:=hb1.size;omega) (fun k hk=>(hown.lt k hk).1)).setCell (p:=⟨b,1,none⟩) hB _
end Go.Proofs.YtdcainmlcpafbaaGreatDoor
