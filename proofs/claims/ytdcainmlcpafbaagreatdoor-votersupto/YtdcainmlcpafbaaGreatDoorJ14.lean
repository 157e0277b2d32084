import Derived.Test.YtdcainmlcpafbaaGreatDoorJ12
import Derived.Laws.CopyRow
set_option linter.all false
set_option maxHeartbeats 8000000
set_option maxRecDepth 20000
namespace Go.Proofs.YtdcainmlcpafbaaGreatDoor
open Go.RowKit
open Value renaming int->I,slice->J,pointer->P0
open Tryz renaming prog->pG
open IntKind renaming i64->T
open Option renaming none->Z,some->Y
open Obj renaming cells->G
open Value (bool)
theorem mU(w:World)(g:Nat)(cs:Array Value):aD g w (w.setRow g cs):=by
 refine⟨rfl,rfl,rfl,?_,fun k hk=>?_⟩
 ·simp[World.setRow]
 ·simp[World.setRow,Array.getElem?_modify,Ne.symm hk]
theorem mZ:(Tryz.prog.info? 3).map (·.size)=Y 1:=by kernel_rfl
theorem D7(low St:Nat)(d:SD)(vr:Value)(Mp D:Nat)(f e b wa p s q bl v:Int)(gz oz zc:Nat)(z0:Int)(w:World)(h:aF w low St d vr Mp D)(hgz:gz<w.heap.size)(hgS:gz≠St)(hz0:w.cell? ⟨gz,oz+0,Z⟩=Y (I T z0)):
  Calls pG 220 #[P0 (Y ⟨St,0,Z⟩),.agg #[I T 9,I T f,I T e,I T b,I T wa,I T p,I T s,I T q,I T bl,I T v,J (Y ⟨gz,oz,Z⟩) 1 zc]] w fun r w'=>r=.returned (.tuple #[])/\aF w' low St {d with seen:=e,last:=q,b0:=z0} vr Mp D/\aK (fun g=>g=St) w w':=by
 have HZ0:=aA hz0;clear hz0;have hb0:=(Below.refl w.heap.size w).alloc (Nat.le_refl _) (G #[I T 9,I T f,I T e,I T b,I T wa,I T p,I T s,I T q,I T bl,I T v,J (Y ⟨gz,oz,Z⟩) 1 zc] 136);have HM:=aA (aB.new w #[I T 9,I T f,I T e,I T b,I T wa,I T p,I T s,I T q,I T bl,I T v,J (Y ⟨gz,oz,Z⟩) 1 zc] 136);have HS:=aA (h.later hb0);have HB:=aA hb0;have hSt0:=h.blk.lt;have hStM:St≠w.heap.size:=by omega
 clear h hb0;go_enter Tryz.func220,Tryz.ntmps220
 go_upto_region 1 with fail
 generalize (w.alloc (G #[I T 9,I T f,I T e,I T b,I T wa,I T p,I T s,I T q,I T bl,I T v,J (Y ⟨gz,oz,Z⟩) 1 zc] 136))=W0 at*;have c0:=HS.out.blk.cell 0;have c1:=HS.out.blk.cell 1;have c2:=HS.out.blk.cell 2;have c3:=HS.out.blk.cell 3;have c4:=HS.out.blk.cell 4;have c5:=HS.out.blk.cell 5;have c6:=HS.out.blk.cell 6;have c7:=HS.out.blk.cell 7;have c8:=HS.out.blk.cell 8;have c9:=HS.out.blk.cell 9;have c10:=HS.out.blk.cell 10;have c11:=HS.out.blk.cell 11;simp at c0 c1 c2 c3 c4 c5 c6 c7 c8 c9 c10 c11;have hf0:=HS.out.blk.free 0;have hf1:=HS.out.blk.free 1;have hf2:=HS.out.blk.free 2;have hf3:=HS.out.blk.free 3;have hf4:=HS.out.blk.free 4;have hf5:=HS.out.blk.free 5;have hf6:=HS.out.blk.free 6;have hf7:=HS.out.blk.free 7;have hf8:=HS.out.blk.free 8;have hf9:=HS.out.blk.free 9;have hf10:=HS.out.blk.free 10;have hf11:=HS.out.blk.free 11;obtain⟨m0,m1,m2,m3,m4,m5,m6,m7,m8,m9,m10⟩:=HM.out.c11;have hSt:=HS.out.blk.lt;have hM:=HM.out.lt;have hMpSt:=HS.out.vot.ne HS.out.blk
 go_upto_region 12 with fail
 have HBt:Hid (aD St W0 ((W0.setCell ⟨St,7,Z⟩ (I T e)).setCell ⟨St,8,Z⟩ (I T q))):=(((aD.self2 St W0).set2 7 _).set2 8 _);have HBk:Hid (aB ((W0.setCell ⟨St,7,Z⟩ (I T e)).setCell ⟨St,8,Z⟩ (I T q)) St #[I T d.id,vr,Value.map (Y Mp),I T d.b0,I T d.b1,I T d.b2,I T d.b3,I T e,I T q,P0 (Y ⟨D,0,Z⟩),I T d.lines,bool true] 200):=by have h9:=(HS.out.blk.set 7 (I T e)).set 8 (I T q);unfold Hid;simpa using h9
 have HMk:=aA (HM.out.same (HBt.out.block _ (Ne.symm hStM)));generalize ((W0.setCell ⟨St,7,Z⟩ (I T e)).setCell ⟨St,8,Z⟩ (I T q))=W1 at*
 have hsrc:∀j u,([I T z0]:List Value)[j]?=Y u->W1.drew.cell? ((⟨gz,oz,Z⟩:Addr).add j)=Y u:=by
  intro j u hu;rw[Go.WideShapes.add_plain];have hcz:∀i,W1.drew.cell? ⟨gz,oz+i,Z⟩=w.cell? ⟨gz,oz+i,Z⟩:=fun i=>(HBt.out.cell (p:=⟨gz,oz+i,Z⟩) hgS).trans (HB.out.cell (p:=⟨gz,oz+i,Z⟩) hgz)
  have hj:j<1:=by
   rcases Nat.lt_or_ge j 1 with h8|h8
   ·exact h8
   ·rw[List.getElem?_eq_none (by simpa using h8)]at hu;cases hu
  show W1.drew.cell? ⟨gz,oz+j,Z⟩=Y u
  rw[hcz];rcases(show j=0 by omega) with rfl
  ·simp at hu;rw[←hu];exact HZ0.out
 have hcp:∀ty,(Builtin.copy_ #[59,59] ty #[J (Y ⟨St,3,Z⟩) 4 4,J (Y ⟨gz,oz,Z⟩) 1 zc]).run pG W1.drew=.ok (goInt 1) (W1.drew.setRow St #[I T d.id,vr,Value.map (Y Mp),I T z0,I T d.b1,I T d.b2,I T d.b3,I T e,I T q,P0 (Y ⟨D,0,Z⟩),I T d.lines,bool true]):=by
  intro ty;have h9:=run_copy_row (P:=pG) W1.drew 59 59 ty 3 St 3 4 4 ⟨gz,oz,Z⟩ 1 zc #[I T d.id,vr,Value.map (Y Mp),I T d.b0,I T d.b1,I T d.b2,I T d.b3,I T e,I T q,P0 (Y ⟨D,0,Z⟩),I T d.lines,bool true] 200 [I T z0] Tryz.underlying59 mZ HBk.out.drew.blk (by rfl) hsrc (by simp) (by intro u hu;simp at hu;rcases hu with rfl<;>rfl)
  simpa using h9
 have HBt2:Hid (aD St W1.drew (W1.drew.setRow St #[I T d.id,vr,Value.map (Y Mp),I T z0,I T d.b1,I T d.b2,I T d.b3,I T e,I T q,P0 (Y ⟨D,0,Z⟩),I T d.lines,bool true])):=mU _ _ _;have HBk2:Hid (aB (W1.drew.setRow St #[I T d.id,vr,Value.map (Y Mp),I T z0,I T d.b1,I T d.b2,I T d.b3,I T e,I T q,P0 (Y ⟨D,0,Z⟩),I T d.lines,bool true]) St #[I T d.id,vr,Value.map (Y Mp),I T z0,I T d.b1,I T d.b2,I T d.b3,I T e,I T q,P0 (Y ⟨D,0,Z⟩),I T d.lines,bool true] 200):=⟨setRow_heap W1.drew St _ _ 200 _ HBk.out.drew.blk⟩;generalize W1.drew.setRow St #[I T d.id,vr,Value.map (Y Mp),I T z0,I T d.b1,I T d.b2,I T d.b3,I T e,I T q,P0 (Y ⟨D,0,Z⟩),I T d.lines,bool true]=W2 at*;clear hsrc c0 c1 c2 c3 c4 c5 c6 c7 c8 c9 c10 c11 hf0 hf1 hf2 hf3 hf4 hf5 hf6 hf7 hf8 hf9 hf10 hf11 m0 m1 m2 m3 m4 m5 m6 m7 m8 m9 m10;obtain⟨m0,m1,m2,m3,m4,m5,m6,m7,m8,m9,m10⟩:=HMk.out.c11
 go_region
 all_goals go_wp2
 all_goals
  have hrX:=aW HS.out.rcs HS.out.blk.blk (by decide);have hall:∀g,g≠St->W2.heap[g]?=W0.heap[g]?:=fun g hg=>(HBt2.out.block g hg).trans (HBt.out.block g hg);refine bodyPost_end (v:=.tuple #[]) (by simp[results,Tryz.results220,go_sem]) rfl ⟨rfl,⟨⟨HBk2.out.blk⟩,aH HS.out.rcs (fun g hg=>hall g (fun hh=>hrX (by rw[←hh];exact hg))),HS.out.vot.same (hall Mp hMpSt)⟩,?_⟩;exact(aK.of_below (A:=fun _=>False) HB.out).trans (B:=fun g=>g=St) ⟨HBt2.out.os.trans HBt.out.os,HBt2.out.tape.trans HBt.out.tape,HBt2.out.output.trans HBt.out.output,by have h8:=HBt2.out.size;have h7:=HBt.out.size;have h6:W1.drew.heap.size=W1.heap.size:=rfl;omega,fun k _ hk=>hall k hk⟩ (fun _ hh=>hh.elim) (fun _ _ hh=>hh)
theorem D8(low St:Nat)(d:SD)(vr:Value)(Mp D:Nat)(f e b wa p s q bl v:Int)(gz oz zc:Nat)(z0 z1:Int)(w:World)(h:aF w low St d vr Mp D)(hgz:gz<w.heap.size)(hgS:gz≠St)(hz0:w.cell? ⟨gz,oz+0,Z⟩=Y (I T z0))(hz1:w.cell? ⟨gz,oz+1,Z⟩=Y (I T z1)):
  Calls pG 220 #[P0 (Y ⟨St,0,Z⟩),.agg #[I T 9,I T f,I T e,I T b,I T wa,I T p,I T s,I T q,I T bl,I T v,J (Y ⟨gz,oz,Z⟩) 2 zc]] w fun r w'=>r=.returned (.tuple #[])/\aF w' low St {d with seen:=e,last:=q,b0:=z0,b1:=z1} vr Mp D/\aK (fun g=>g=St) w w':=by
 have HZ0:=aA hz0;have HZ1:=aA hz1;clear hz0 hz1;have hb0:=(Below.refl w.heap.size w).alloc (Nat.le_refl _) (G #[I T 9,I T f,I T e,I T b,I T wa,I T p,I T s,I T q,I T bl,I T v,J (Y ⟨gz,oz,Z⟩) 2 zc] 136);have HM:=aA (aB.new w #[I T 9,I T f,I T e,I T b,I T wa,I T p,I T s,I T q,I T bl,I T v,J (Y ⟨gz,oz,Z⟩) 2 zc] 136);have HS:=aA (h.later hb0);have HB:=aA hb0;have hSt0:=h.blk.lt;have hStM:St≠w.heap.size:=by omega
 clear h hb0;go_enter Tryz.func220,Tryz.ntmps220
 go_upto_region 1 with fail
 generalize (w.alloc (G #[I T 9,I T f,I T e,I T b,I T wa,I T p,I T s,I T q,I T bl,I T v,J (Y ⟨gz,oz,Z⟩) 2 zc] 136))=W0 at*;have c0:=HS.out.blk.cell 0;have c1:=HS.out.blk.cell 1;have c2:=HS.out.blk.cell 2;have c3:=HS.out.blk.cell 3;have c4:=HS.out.blk.cell 4;have c5:=HS.out.blk.cell 5;have c6:=HS.out.blk.cell 6;have c7:=HS.out.blk.cell 7;have c8:=HS.out.blk.cell 8;have c9:=HS.out.blk.cell 9;have c10:=HS.out.blk.cell 10;have c11:=HS.out.blk.cell 11;simp at c0 c1 c2 c3 c4 c5 c6 c7 c8 c9 c10 c11;have hf0:=HS.out.blk.free 0;have hf1:=HS.out.blk.free 1;have hf2:=HS.out.blk.free 2;have hf3:=HS.out.blk.free 3;have hf4:=HS.out.blk.free 4;have hf5:=HS.out.blk.free 5;have hf6:=HS.out.blk.free 6;have hf7:=HS.out.blk.free 7;have hf8:=HS.out.blk.free 8;have hf9:=HS.out.blk.free 9;have hf10:=HS.out.blk.free 10;have hf11:=HS.out.blk.free 11;obtain⟨m0,m1,m2,m3,m4,m5,m6,m7,m8,m9,m10⟩:=HM.out.c11;have hSt:=HS.out.blk.lt;have hM:=HM.out.lt;have hMpSt:=HS.out.vot.ne HS.out.blk
 go_upto_region 12 with fail
 have HBt:Hid (aD St W0 ((W0.setCell ⟨St,7,Z⟩ (I T e)).setCell ⟨St,8,Z⟩ (I T q))):=(((aD.self2 St W0).set2 7 _).set2 8 _);have HBk:Hid (aB ((W0.setCell ⟨St,7,Z⟩ (I T e)).setCell ⟨St,8,Z⟩ (I T q)) St #[I T d.id,vr,Value.map (Y Mp),I T d.b0,I T d.b1,I T d.b2,I T d.b3,I T e,I T q,P0 (Y ⟨D,0,Z⟩),I T d.lines,bool true] 200):=by have h9:=(HS.out.blk.set 7 (I T e)).set 8 (I T q);unfold Hid;simpa using h9
 have HMk:=aA (HM.out.same (HBt.out.block _ (Ne.symm hStM)));generalize ((W0.setCell ⟨St,7,Z⟩ (I T e)).setCell ⟨St,8,Z⟩ (I T q))=W1 at*
 have hsrc:∀j u,([I T z0,I T z1]:List Value)[j]?=Y u->W1.drew.cell? ((⟨gz,oz,Z⟩:Addr).add j)=Y u:=by
  intro j u hu;rw[Go.WideShapes.add_plain];have hcz:∀i,W1.drew.cell? ⟨gz,oz+i,Z⟩=w.cell? ⟨gz,oz+i,Z⟩:=fun i=>(HBt.out.cell (p:=⟨gz,oz+i,Z⟩) hgS).trans (HB.out.cell (p:=⟨gz,oz+i,Z⟩) hgz)
  have hj:j<2:=by
   rcases Nat.lt_or_ge j 2 with h8|h8
   ·exact h8
   ·rw[List.getElem?_eq_none (by simpa using h8)]at hu;cases hu
  show W1.drew.cell? ⟨gz,oz+j,Z⟩=Y u
  rw[hcz];rcases(show j=0∨j=1 by omega) with rfl|rfl
  ·simp at hu;rw[←hu];exact HZ0.out
  ·simp at hu;rw[←hu];exact HZ1.out
 have hcp:∀ty,(Builtin.copy_ #[59,59] ty #[J (Y ⟨St,3,Z⟩) 4 4,J (Y ⟨gz,oz,Z⟩) 2 zc]).run pG W1.drew=.ok (goInt 2) (W1.drew.setRow St #[I T d.id,vr,Value.map (Y Mp),I T z0,I T z1,I T d.b2,I T d.b3,I T e,I T q,P0 (Y ⟨D,0,Z⟩),I T d.lines,bool true]):=by
  intro ty;have h9:=run_copy_row (P:=pG) W1.drew 59 59 ty 3 St 3 4 4 ⟨gz,oz,Z⟩ 2 zc #[I T d.id,vr,Value.map (Y Mp),I T d.b0,I T d.b1,I T d.b2,I T d.b3,I T e,I T q,P0 (Y ⟨D,0,Z⟩),I T d.lines,bool true] 200 [I T z0,I T z1] Tryz.underlying59 mZ HBk.out.drew.blk (by rfl) hsrc (by simp) (by intro u hu;simp at hu;rcases hu with rfl|rfl<;>rfl)
  simpa using h9
 have HBt2:Hid (aD St W1.drew (W1.drew.setRow St #[I T d.id,vr,Value.map (Y Mp),I T z0,I T z1,I T d.b2,I T d.b3,I T e,I T q,P0 (Y ⟨D,0,Z⟩),I T d.lines,bool true])):=mU _ _ _;have HBk2:Hid (aB (W1.drew.setRow St #[I T d.id,vr,Value.map (Y Mp),I T z0,I T z1,I T d.b2,I T d.b3,I T e,I T q,P0 (Y ⟨D,0,Z⟩),I T d.lines,bool true]) St #[I T d.id,vr,Value.map (Y Mp),I T z0,I T z1,I T d.b2,I T d.b3,I T e,I T q,P0 (Y ⟨D,0,Z⟩),I T d.lines,bool true] 200):=⟨setRow_heap W1.drew St _ _ 200 _ HBk.out.drew.blk⟩;generalize W1.drew.setRow St #[I T d.id,vr,Value.map (Y Mp),I T z0,I T z1,I T d.b2,I T d.b3,I T e,I T q,P0 (Y ⟨D,0,Z⟩),I T d.lines,bool true]=W2 at*;clear hsrc c0 c1 c2 c3 c4 c5 c6 c7 c8 c9 c10 c11 hf0 hf1 hf2 hf3 hf4 hf5 hf6 hf7 hf8 hf9 hf10 hf11 m0 m1 m2 m3 m4 m5 m6 m7 m8 m9 m10;obtain⟨m0,m1,m2,m3,m4,m5,m6,m7,m8,m9,m10⟩:=HMk.out.c11
 go_region
 all_goals go_wp2
 all_goals
  have hrX:=aW HS.out.rcs HS.out.blk.blk (by decide);have hall:∀g,g≠St->W2.heap[g]?=W0.heap[g]?:=fun g hg=>(HBt2.out.block g hg).trans (HBt.out.block g hg);refine bodyPost_end (v:=.tuple #[]) (by simp[results,Tryz.results220,go_sem]) rfl ⟨rfl,⟨⟨HBk2.out.blk⟩,aH HS.out.rcs (fun g hg=>hall g (fun hh=>hrX (by rw[←hh];exact hg))),HS.out.vot.same (hall Mp hMpSt)⟩,?_⟩;exact(aK.of_below (A:=fun _=>False) HB.out).trans (B:=fun g=>g=St) ⟨HBt2.out.os.trans HBt.out.os,HBt2.out.tape.trans HBt.out.tape,HBt2.out.output.trans HBt.out.output,by have h8:=HBt2.out.size;have h7:=HBt.out.size;have h6:W1.drew.heap.size=W1.heap.size:=rfl;omega,fun k _ hk=>hall k hk⟩ (fun _ hh=>hh.elim) (fun _ _ hh=>hh)
theorem D9(low St:Nat)(d:SD)(vr:Value)(Mp D:Nat)(f e b wa p s q bl v:Int)(gz oz zc:Nat)(z0 z1 z2:Int)(w:World)(h:aF w low St d vr Mp D)(hgz:gz<w.heap.size)(hgS:gz≠St)(hz0:w.cell? ⟨gz,oz+0,Z⟩=Y (I T z0))(hz1:w.cell? ⟨gz,oz+1,Z⟩=Y (I T z1))(hz2:w.cell? ⟨gz,oz+2,Z⟩=Y (I T z2)):
  Calls pG 220 #[P0 (Y ⟨St,0,Z⟩),.agg #[I T 9,I T f,I T e,I T b,I T wa,I T p,I T s,I T q,I T bl,I T v,J (Y ⟨gz,oz,Z⟩) 3 zc]] w fun r w'=>r=.returned (.tuple #[])/\aF w' low St {d with seen:=e,last:=q,b0:=z0,b1:=z1,b2:=z2} vr Mp D/\aK (fun g=>g=St) w w':=by
 have HZ0:=aA hz0;have HZ1:=aA hz1;have HZ2:=aA hz2;clear hz0 hz1 hz2;have hb0:=(Below.refl w.heap.size w).alloc (Nat.le_refl _) (G #[I T 9,I T f,I T e,I T b,I T wa,I T p,I T s,I T q,I T bl,I T v,J (Y ⟨gz,oz,Z⟩) 3 zc] 136);have HM:=aA (aB.new w #[I T 9,I T f,I T e,I T b,I T wa,I T p,I T s,I T q,I T bl,I T v,J (Y ⟨gz,oz,Z⟩) 3 zc] 136);have HS:=aA (h.later hb0);have HB:=aA hb0;have hSt0:=h.blk.lt;have hStM:St≠w.heap.size:=by omega
 clear h hb0;go_enter Tryz.func220,Tryz.ntmps220
 go_upto_region 1 with fail
 generalize (w.alloc (G #[I T 9,I T f,I T e,I T b,I T wa,I T p,I T s,I T q,I T bl,I T v,J (Y ⟨gz,oz,Z⟩) 3 zc] 136))=W0 at*;have c0:=HS.out.blk.cell 0;have c1:=HS.out.blk.cell 1;have c2:=HS.out.blk.cell 2;have c3:=HS.out.blk.cell 3;have c4:=HS.out.blk.cell 4;have c5:=HS.out.blk.cell 5;have c6:=HS.out.blk.cell 6;have c7:=HS.out.blk.cell 7;have c8:=HS.out.blk.cell 8;have c9:=HS.out.blk.cell 9;have c10:=HS.out.blk.cell 10;have c11:=HS.out.blk.cell 11;simp at c0 c1 c2 c3 c4 c5 c6 c7 c8 c9 c10 c11;have hf0:=HS.out.blk.free 0;have hf1:=HS.out.blk.free 1;have hf2:=HS.out.blk.free 2;have hf3:=HS.out.blk.free 3;have hf4:=HS.out.blk.free 4;have hf5:=HS.out.blk.free 5;have hf6:=HS.out.blk.free 6;have hf7:=HS.out.blk.free 7;have hf8:=HS.out.blk.free 8;have hf9:=HS.out.blk.free 9;have hf10:=HS.out.blk.free 10;have hf11:=HS.out.blk.free 11;obtain⟨m0,m1,m2,m3,m4,m5,m6,m7,m8,m9,m10⟩:=HM.out.c11;have hSt:=HS.out.blk.lt;have hM:=HM.out.lt;have hMpSt:=HS.out.vot.ne HS.out.blk
 go_upto_region 12 with fail
 have HBt:Hid (aD St W0 ((W0.setCell ⟨St,7,Z⟩ (I T e)).setCell ⟨St,8,Z⟩ (I T q))):=(((aD.self2 St W0).set2 7 _).set2 8 _);have HBk:Hid (aB ((W0.setCell ⟨St,7,Z⟩ (I T e)).setCell ⟨St,8,Z⟩ (I T q)) St #[I T d.id,vr,Value.map (Y Mp),I T d.b0,I T d.b1,I T d.b2,I T d.b3,I T e,I T q,P0 (Y ⟨D,0,Z⟩),I T d.lines,bool true] 200):=by have h9:=(HS.out.blk.set 7 (I T e)).set 8 (I T q);unfold Hid;simpa using h9
 have HMk:=aA (HM.out.same (HBt.out.block _ (Ne.symm hStM)));generalize ((W0.setCell ⟨St,7,Z⟩ (I T e)).setCell ⟨St,8,Z⟩ (I T q))=W1 at*
 have hsrc:∀j u,([I T z0,I T z1,I T z2]:List Value)[j]?=Y u->W1.drew.cell? ((⟨gz,oz,Z⟩:Addr).add j)=Y u:=by
  intro j u hu;rw[Go.WideShapes.add_plain];have hcz:∀i,W1.drew.cell? ⟨gz,oz+i,Z⟩=w.cell? ⟨gz,oz+i,Z⟩:=fun i=>(HBt.out.cell (p:=⟨gz,oz+i,Z⟩) hgS).trans (HB.out.cell (p:=⟨gz,oz+i,Z⟩) hgz)
  have hj:j<3:=by
   rcases Nat.lt_or_ge j 3 with h8|h8
   ·exact h8
   ·rw[List.getElem?_eq_none (by simpa using h8)]at hu;cases hu
  show W1.drew.cell? ⟨gz,oz+j,Z⟩=Y u
  rw[hcz];rcases(show j=0∨j=1∨j=2 by omega) with rfl|rfl|rfl
  ·simp at hu;rw[←hu];exact HZ0.out
  ·simp at hu;rw[←hu];exact HZ1.out
  ·simp at hu;rw[←hu];exact HZ2.out
 have hcp:∀ty,(Builtin.copy_ #[59,59] ty #[J (Y ⟨St,3,Z⟩) 4 4,J (Y ⟨gz,oz,Z⟩) 3 zc]).run pG W1.drew=.ok (goInt 3) (W1.drew.setRow St #[I T d.id,vr,Value.map (Y Mp),I T z0,I T z1,I T z2,I T d.b3,I T e,I T q,P0 (Y ⟨D,0,Z⟩),I T d.lines,bool true]):=by
  intro ty;have h9:=run_copy_row (P:=pG) W1.drew 59 59 ty 3 St 3 4 4 ⟨gz,oz,Z⟩ 3 zc #[I T d.id,vr,Value.map (Y Mp),I T d.b0,I T d.b1,I T d.b2,I T d.b3,I T e,I T q,P0 (Y ⟨D,0,Z⟩),I T d.lines,bool true] 200 [I T z0,I T z1,I T z2] Tryz.underlying59 mZ HBk.out.drew.blk (by rfl) hsrc (by simp) (by intro u hu;simp at hu;rcases hu with rfl|rfl|rfl<;>rfl)
  simpa using h9
 have HBt2:Hid (aD St W1.drew (W1.drew.setRow St #[I T d.id,vr,Value.map (Y Mp),I T z0,I T z1,I T z2,I T d.b3,I T e,I T q,P0 (Y ⟨D,0,Z⟩),I T d.lines,bool true])):=mU _ _ _;have HBk2:Hid (aB (W1.drew.setRow St #[I T d.id,vr,Value.map (Y Mp),I T z0,I T z1,I T z2,I T d.b3,I T e,I T q,P0 (Y ⟨D,0,Z⟩),I T d.lines,bool true]) St #[I T d.id,vr,Value.map (Y Mp),I T z0,I T z1,I T z2,I T d.b3,I T e,I T q,P0 (Y ⟨D,0,Z⟩),I T d.lines,bool true] 200):=⟨setRow_heap W1.drew St _ _ 200 _ HBk.out.drew.blk⟩;generalize W1.drew.setRow St #[I T d.id,vr,Value.map (Y Mp),I T z0,I T z1,I T z2,I T d.b3,I T e,I T q,P0 (Y ⟨D,0,Z⟩),I T d.lines,bool true]=W2 at*;clear hsrc c0 c1 c2 c3 c4 c5 c6 c7 c8 c9 c10 c11 hf0 hf1 hf2 hf3 hf4 hf5 hf6 hf7 hf8 hf9 hf10 hf11 m0 m1 m2 m3 m4 m5 m6 m7 m8 m9 m10;obtain⟨m0,m1,m2,m3,m4,m5,m6,m7,m8,m9,m10⟩:=HMk.out.c11
 go_region
 all_goals go_wp2
 all_goals
  have hrX:=aW HS.out.rcs HS.out.blk.blk (by decide);have hall:∀g,g≠St->W2.heap[g]?=W0.heap[g]?:=fun g hg=>(HBt2.out.block g hg).trans (HBt.out.block g hg);refine bodyPost_end (v:=.tuple #[]) (by simp[results,Tryz.results220,go_sem]) rfl ⟨rfl,⟨⟨HBk2.out.blk⟩,aH HS.out.rcs (fun g hg=>hall g (fun hh=>hrX (by rw[←hh];exact hg))),HS.out.vot.same (hall Mp hMpSt)⟩,?_⟩;exact(aK.of_below (A:=fun _=>False) HB.out).trans (B:=fun g=>g=St) ⟨HBt2.out.os.trans HBt.out.os,HBt2.out.tape.trans HBt.out.tape,HBt2.out.output.trans HBt.out.output,by have h8:=HBt2.out.size;have h7:=HBt.out.size;have h6:W1.drew.heap.size=W1.heap.size:=rfl;omega,fun k _ hk=>hall k hk⟩ (fun _ hh=>hh.elim) (fun _ _ hh=>hh)
theorem EA(low St:Nat)(d:SD)(vr:Value)(Mp D:Nat)(f e b wa p s q bl v:Int)(gz oz zc:Nat)(z0 z1 z2 z3:Int)(w:World)(h:aF w low St d vr Mp D)(hgz:gz<w.heap.size)(hgS:gz≠St)(hz0:w.cell? ⟨gz,oz+0,Z⟩=Y (I T z0))(hz1:w.cell? ⟨gz,oz+1,Z⟩=Y (I T z1))(hz2:w.cell? ⟨gz,oz+2,Z⟩=Y (I T z2))(hz3:w.cell? ⟨gz,oz+3,Z⟩=Y (I T z3)):
  Calls pG 220 #[P0 (Y ⟨St,0,Z⟩),.agg #[I T 9,I T f,I T e,I T b,I T wa,I T p,I T s,I T q,I T bl,I T v,J (Y ⟨gz,oz,Z⟩) 4 zc]] w fun r w'=>r=.returned (.tuple #[])/\aF w' low St {d with seen:=e,last:=q,b0:=z0,b1:=z1,b2:=z2,b3:=z3} vr Mp D/\aK (fun g=>g=St) w w':=by
 have HZ0:=aA hz0;have HZ1:=aA hz1;have HZ2:=aA hz2;have HZ3:=aA hz3;clear hz0 hz1 hz2 hz3;have hb0:=(Below.refl w.heap.size w).alloc (Nat.le_refl _) (G #[I T 9,I T f,I T e,I T b,I T wa,I T p,I T s,I T q,I T bl,I T v,J (Y ⟨gz,oz,Z⟩) 4 zc] 136);have HM:=aA (aB.new w #[I T 9,I T f,I T e,I T b,I T wa,I T p,I T s,I T q,I T bl,I T v,J (Y ⟨gz,oz,Z⟩) 4 zc] 136);have HS:=aA (h.later hb0);have HB:=aA hb0;have hSt0:=h.blk.lt;have hStM:St≠w.heap.size:=by omega
 clear h hb0;go_enter Tryz.func220,Tryz.ntmps220
 go_upto_region 1 with fail
 generalize (w.alloc (G #[I T 9,I T f,I T e,I T b,I T wa,I T p,I T s,I T q,I T bl,I T v,J (Y ⟨gz,oz,Z⟩) 4 zc] 136))=W0 at*;have c0:=HS.out.blk.cell 0;have c1:=HS.out.blk.cell 1;have c2:=HS.out.blk.cell 2;have c3:=HS.out.blk.cell 3;have c4:=HS.out.blk.cell 4;have c5:=HS.out.blk.cell 5;have c6:=HS.out.blk.cell 6;have c7:=HS.out.blk.cell 7;have c8:=HS.out.blk.cell 8;have c9:=HS.out.blk.cell 9;have c10:=HS.out.blk.cell 10;have c11:=HS.out.blk.cell 11;simp at c0 c1 c2 c3 c4 c5 c6 c7 c8 c9 c10 c11;have hf0:=HS.out.blk.free 0;have hf1:=HS.out.blk.free 1;have hf2:=HS.out.blk.free 2;have hf3:=HS.out.blk.free 3;have hf4:=HS.out.blk.free 4;have hf5:=HS.out.blk.free 5;have hf6:=HS.out.blk.free 6;have hf7:=HS.out.blk.free 7;have hf8:=HS.out.blk.free 8;have hf9:=HS.out.blk.free 9;have hf10:=HS.out.blk.free 10;have hf11:=HS.out.blk.free 11;obtain⟨m0,m1,m2,m3,m4,m5,m6,m7,m8,m9,m10⟩:=HM.out.c11;have hSt:=HS.out.blk.lt;have hM:=HM.out.lt;have hMpSt:=HS.out.vot.ne HS.out.blk
 go_upto_region 12 with fail
 have HBt:Hid (aD St W0 ((W0.setCell ⟨St,7,Z⟩ (I T e)).setCell ⟨St,8,Z⟩ (I T q))):=(((aD.self2 St W0).set2 7 _).set2 8 _);have HBk:Hid (aB ((W0.setCell ⟨St,7,Z⟩ (I T e)).setCell ⟨St,8,Z⟩ (I T q)) St #[I T d.id,vr,Value.map (Y Mp),I T d.b0,I T d.b1,I T d.b2,I T d.b3,I T e,I T q,P0 (Y ⟨D,0,Z⟩),I T d.lines,bool true] 200):=by have h9:=(HS.out.blk.set 7 (I T e)).set 8 (I T q);unfold Hid;simpa using h9
 have HMk:=aA (HM.out.same (HBt.out.block _ (Ne.symm hStM)));generalize ((W0.setCell ⟨St,7,Z⟩ (I T e)).setCell ⟨St,8,Z⟩ (I T q))=W1 at*
 have hsrc:∀j u,([I T z0,I T z1,I T z2,I T z3]:List Value)[j]?=Y u->W1.drew.cell? ((⟨gz,oz,Z⟩:Addr).add j)=Y u:=by
  intro j u hu;rw[Go.WideShapes.add_plain];have hcz:∀i,W1.drew.cell? ⟨gz,oz+i,Z⟩=w.cell? ⟨gz,oz+i,Z⟩:=fun i=>(HBt.out.cell (p:=⟨gz,oz+i,Z⟩) hgS).trans (HB.out.cell (p:=⟨gz,oz+i,Z⟩) hgz)
  have hj:j<4:=by
   rcases Nat.lt_or_ge j 4 with h8|h8
   ·exact h8
   ·rw[List.getElem?_eq_none (by simpa using h8)]at hu;cases hu
  show W1.drew.cell? ⟨gz,oz+j,Z⟩=Y u
  rw[hcz];rcases(show j=0∨j=1∨j=2∨j=3 by omega) with rfl|rfl|rfl|rfl
  ·simp at hu;rw[←hu];exact HZ0.out
  ·simp at hu;rw[←hu];exact HZ1.out
  ·simp at hu;rw[←hu];exact HZ2.out
  ·simp at hu;rw[←hu];exact HZ3.out
 have hcp:∀ty,(Builtin.copy_ #[59,59] ty #[J (Y ⟨St,3,Z⟩) 4 4,J (Y ⟨gz,oz,Z⟩) 4 zc]).run pG W1.drew=.ok (goInt 4) (W1.drew.setRow St #[I T d.id,vr,Value.map (Y Mp),I T z0,I T z1,I T z2,I T z3,I T e,I T q,P0 (Y ⟨D,0,Z⟩),I T d.lines,bool true]):=by
  intro ty;have h9:=run_copy_row (P:=pG) W1.drew 59 59 ty 3 St 3 4 4 ⟨gz,oz,Z⟩ 4 zc #[I T d.id,vr,Value.map (Y Mp),I T d.b0,I T d.b1,I T d.b2,I T d.b3,I T e,I T q,P0 (Y ⟨D,0,Z⟩),I T d.lines,bool true] 200 [I T z0,I T z1,I T z2,I T z3] Tryz.underlying59 mZ HBk.out.drew.blk (by rfl) hsrc (by simp) (by intro u hu;simp at hu;rcases hu with rfl|rfl|rfl|rfl<;>rfl)
  simpa using h9
 have HBt2:Hid (aD St W1.drew (W1.drew.setRow St #[I T d.id,vr,Value.map (Y Mp),I T z0,I T z1,I T z2,I T z3,I T e,I T q,P0 (Y ⟨D,0,Z⟩),I T d.lines,bool true])):=mU _ _ _;have HBk2:Hid (aB (W1.drew.setRow St #[I T d.id,vr,Value.map (Y Mp),I T z0,I T z1,I T z2,I T z3,I T e,I T q,P0 (Y ⟨D,0,Z⟩),I T d.lines,bool true]) St #[I T d.id,vr,Value.map (Y Mp),I T z0,I T z1,I T z2,I T z3,I T e,I T q,P0 (Y ⟨D,0,Z⟩),I T d.lines,bool true] 200):=⟨setRow_heap W1.drew St _ _ 200 _ HBk.out.drew.blk⟩;generalize W1.drew.setRow St #[I T d.id,vr,Value.map (Y Mp),I T z0,I T z1,I T z2,I T z3,I T e,I T q,P0 (Y ⟨D,0,Z⟩),I T d.lines,bool true]=W2 at*;clear hsrc c0 c1 c2 c3 c4 c5 c6 c7 c8 c9 c10 c11 hf0 hf1 hf2 hf3 hf4 hf5 hf6 hf7 hf8 hf9 hf10 hf11 m0 m1 m2 m3 m4 m5 m6 m7 m8 m9 m10;obtain⟨m0,m1,m2,m3,m4,m5,m6,m7,m8,m9,m10⟩:=HMk.out.c11
 go_region
 all_goals go_wp2
 all_goals
  have hrX:=aW HS.out.rcs HS.out.blk.blk (by decide);have hall:∀g,g≠St->W2.heap[g]?=W0.heap[g]?:=fun g hg=>(HBt2.out.block g hg).trans (HBt.out.block g hg);refine bodyPost_end (v:=.tuple #[]) (by simp[results,Tryz.results220,go_sem]) rfl ⟨rfl,⟨⟨HBk2.out.blk⟩,aH HS.out.rcs (fun g hg=>hall g (fun hh=>hrX (by rw[←hh];exact hg))),HS.out.vot.same (hall Mp hMpSt)⟩,?_⟩;exact(aK.of_below (A:=fun _=>False) HB.out).trans (B:=fun g=>g=St) ⟨HBt2.out.os.trans HBt.out.os,HBt2.out.tape.trans HBt.out.tape,HBt2.out.output.trans HBt.out.output,by have h8:=HBt2.out.size;have h7:=HBt.out.size;have h6:W1.drew.heap.size=W1.heap.size:=rfl;omega,fun k _ hk=>hall k hk⟩ (fun _ hh=>hh.elim) (fun _ _ hh=>hh)
theorem FW(k f e b wa p s q bl v:Int)(a:Option Addr)(zs:List Int)(c:Nat)(w:World)(ht:aJ w)(hz:bG w a zs):
  Calls pG 157 #[.agg #[I T k,I T f,I T e,I T b,I T wa,I T p,I T s,I T q,I T bl,I T v,J a zs.length c]] w fun r w'=>∃x ec bs,r=.returned (.tuple #[x,I T ec])/\bJ w' w.heap.size x bs/\bs.length<=300/\Below w.heap.size w w':=by
 cases hm:aN k f [0,e,b,wa,p,s,q,bl,v,(zs.length:Int)] with
 |true=>
  refine(jW k f e b wa p s q bl v a zs c w ht hz hm).mono ?_;rintro r w' ⟨x,rfl,ho,hb⟩;obtain⟨h1,h2,_,_,h5⟩:=lQ hm;exact⟨x,0,_,rfl,ho,oD _ _ _ _ (by omega) h5,hb⟩
 |false=>
  refine(oB k f e b wa p s q bl v a zs.length c w ht hm).mono ?_;rintro r w' ⟨rfl,hb⟩;exact⟨_,1,[],rfl,World.ownsRow_nil _ _ _ _,by simp,hb⟩
theorem IH:(Tryz.prog.info? 5).map (fun i=>(i.zero,i.size,i.bytes))=Y (Y (.int .u8 0),1,1):=by kernel_rfl
theorem sN(k f e b wa p s q bl v:Int)(a:Option Addr)(zs:List Int)(c:Nat)(w:World)(ht:aJ w)(hw2:2<=w.heap.size)(hz:bG w a zs):
  Calls pG 259 #[.agg #[I T k,I T f,I T e,I T b,I T wa,I T p,I T s,I T q,I T bl,I T v,J a zs.length c]] w fun r w'=>∃bs:List UInt8,r=.returned (.string (aC bs))/\bs.length<=301/\Below w.heap.size w w':=by
 obtain⟨i0,hi0,hz0,hz1,hz2⟩:=info_parts IH;have hb0:=(Below.refl w.heap.size w).alloc (Nat.le_refl _) (G #[I T k,I T f,I T e,I T b,I T wa,I T p,I T s,I T q,I T bl,I T v,J a zs.length c] 136);have HM:=aA (aB.new w #[I T k,I T f,I T e,I T b,I T wa,I T p,I T s,I T q,I T bl,I T v,J a zs.length c] 136);have HB:=aA hb0;have HT:=aA (ht.below hb0 hw2);have HZ:=aA (hz.later hb0);clear ht hz hb0;go_enter Tryz.func259,Tryz.ntmps259
 go_upto_region 1 with fail
 generalize (w.alloc (G #[I T k,I T f,I T e,I T b,I T wa,I T p,I T s,I T q,I T bl,I T v,J a zs.length c] 136))=W0 at*;obtain⟨m0,m1,m2,m3,m4,m5,m6,m7,m8,m9,m10⟩:=HM.out.c11
 go_wp2_with fail
 refine(FW k f e b wa p s q bl v a zs c W0 HT.out HZ.out).mono ?_;rintro r w1 ⟨x,ec,bs,rfl,ho1,hl1,hb1⟩;obtain⟨xa,xc,rfl⟩:=aO ho1;have HO1:=aA ho1;have HB1:=aA (HB.out.trans (hb1.mono HB.out.size));have hsz1:=hb1.size;clear hb1 ho1
 go_wp2_with(at_builtin;go_loud (refine iY rfl _ _ 148 rfl w1.heap.size 5 i0 (.int .u8 0) 1 1 Tryz.underlying148 hi0 hz0 hz1 hz2 rfl (by decide) (J (Y ⟨w1.heap.size,0,Z⟩) 1 1) 1 _ rfl (World.ownsRow_lit w1 _ 1 (Nat.le_refl _) (by unfold maxLen;omega) rfl) (J xa bs.length xc) bs.length (dL bs) rfl ((aP.of_owns HO1.out).later ((Below.refl w1.heap.size w1).alloc (Nat.le_refl _) _)) ?cl ?c1 ?c2 ?c3 ?c4 ?_))
 case cl=>simp[dL]
 case c1=>intro u hu;simp[dL]at hu;obtain⟨x,_,rfl⟩:=hu;rfl
 case c2=>unfold maxLen;omega
 case c3=>omega
 case c4=>simp
 intro v' w2 ho2 hg2;have hx8:(bs.length:Int)%256=((UInt8.ofNat bs.length).toNat:Int):=by rw[UInt8.toNat_ofNat'];omega
 obtain⟨va,vc,rfl⟩:=aO ho2
 have HO2:Hid (bJ w2 w1.heap.size (J va (1+bs.length) vc) (UInt8.ofNat bs.length::bs)):=by
  unfold Hid bJ;rw[List.length_cons,Nat.add_comm bs.length 1];have h9:=ho2;rw[hx8]at h9
  simpa[dL] using h9
 have hz9:=HB1.out.size;have HB2:=aA ((Below.alloc HB1.out hz9 _).grown hg2 (by simp;omega) (fun g hg=>by simp[Value.ownBlock]at hg;omega));have hcv:=kO HO2.out.bytesAt;have hl9:(UInt8.ofNat bs.length::bs).length<=301:=by simp;omega
 generalize UInt8.ofNat bs.length::bs=bz at*;clear ho2 hg2 hx8;go_wp2;go_ret;exact⟨bz,rfl,hl9,HB2.out⟩
def dQ:List UInt8:=[106,111,117,114,110,97,108]
theorem oY{fs:List FD}{L:Nat}(h:∀f∈fs,f.d.length<=L)(nm dt:List UInt8):(∀f∈eR fs nm dt,f.d.length<=L+dt.length)/\(eR fs nm dt).length<=fs.length+1:=by
 unfold eR
 split
 ·refine⟨fun f hf=>?_,by simp⟩;rcases List.mem_append.1 hf with hf|hf
  ·have:=h f hf;omega
  ·simp at hf;subst hf;simp
 ·rename_i i hi;refine⟨fun f hf=>?_,by simp⟩;rcases List.mem_or_eq_of_mem_set hf with hf|hf
  ·have:=h f hf;omega
  ·subst hf;simp only[List.length_append]
   have hq:(fs.getD i fY).d.length<=L:=by
    rw[List.getD_eq_getElem?_getD]
    cases hx:fs[i]? with
    |none=>simp[fY]
    |some y=>exact h y (List.mem_of_getElem? hx)
   omega
theorem oZ{fs:List FD}{L:Nat}(h:∀f∈fs,f.d.length<=L)(nm:List UInt8):(∀f∈fD fs nm,f.d.length<=L)/\(fD fs nm).length=fs.length:=by
 unfold fD
 split
 ·exact⟨h,rfl⟩
 ·rename_i i hi;refine⟨fun f hf=>?_,by simp⟩;rcases List.mem_or_eq_of_mem_set hf with hf|hf
  ·exact h f hf
  ·subst hf;show(fs.getD i fY).d.length<=L
   rw[List.getD_eq_getElem?_getD]
   cases hx:fs[i]? with
   |none=>simp[fY]
   |some y=>exact h y (List.mem_of_getElem? hx)
theorem cA.then{ty e:TypeId}{low S:Nat}{w w1 w2:World}{v v1:Value}{fs2:List FD}{l2:Int}(hk:cR (fun b=>b=S∨some b=v.ownBlock) w w1)(ho:∀g,v1.ownBlock=Y g->v.ownBlock=Y g∨w.heap.size<=g)(h2:cA ty e low w1 S v1 fs2 l2 w2):cA ty e low w S v fs2 l2 w2:=by
 obtain⟨v2,hd2,hk2,ho2⟩:=h2;refine⟨v2,hd2,hk.trans hk2 (fun b hb hB=>?_),fun g hg=>?_⟩
 ·rcases hB with hB|hB
  ·exact .inl hB
  ·rcases ho b hB.symm with h9|h9
   ·exact .inr h9.symm
   ·omega
 ·rcases ho2 g hg with h9|h9
  ·exact ho g h9
  ·exact .inr (Nat.le_trans hk.size h9)
theorem AC(low D H S:Nat)(va:Value)(fs:List FD)(L:Nat)(k f e b wa p s q bl v:Int)(a:Option Addr)(zs:List Int)(c:Nat)(w:World)(ht:aJ w)(hw2:2<=w.heap.size)(hz:bG w a zs)(hH:eB w D H S)(hDS:D≠S)(hHS:H≠S)(hd:DS 98 107 low w S va fs (-1))(hlow:low<=w.heap.size)(hfl:fs.length<=1000000)(hfd:∀f∈fs,f.d.length<=L)(hL:L<=2000000000):
  Calls pG 256 #[P0 (Y ⟨D,0,Z⟩),.agg #[I T k,I T f,I T e,I T b,I T wa,I T p,I T s,I T q,I T bl,I T v,J a zs.length c]] w fun r w'=>r=.returned (.bool true)/\∃dt:List UInt8,dt.length<=301/\cA 98 107 low w S va (fD (eR fs dQ dt) dQ) (-1) w':=by
 have hb0:=(Below.refl w.heap.size w).alloc (Nat.le_refl _) (G #[I T k,I T f,I T e,I T b,I T wa,I T p,I T s,I T q,I T bl,I T v,J a zs.length c] 136);have HM:=aA (aB.new w #[I T k,I T f,I T e,I T b,I T wa,I T p,I T s,I T q,I T bl,I T v,J a zs.length c] 136);have HB:=aA hb0;have HT:=aA (ht.below hb0 hw2);have HZ:=aA (hz.later hb0);have HFD:=aA hfd;have HD0:=aA hd;have HH0:=aA hH;have hDl:D<w.heap.size:=(Array.getElem?_eq_some_iff.1 hH.d).1;have hHl:H<w.heap.size:=(Array.getElem?_eq_some_iff.1 hH.h).1;clear ht hz hb0 hfd hd hH;go_enter Tryz.func256,Tryz.ntmps256
 go_upto_region 1 with fail
 generalize (w.alloc (G #[I T k,I T f,I T e,I T b,I T wa,I T p,I T s,I T q,I T bl,I T v,J a zs.length c] 136))=W0 at*;obtain⟨m0,m1,m2,m3,m4,m5,m6,m7,m8,m9,m10⟩:=HM.out.c11;have hs0:=HB.out.size
 go_wp2_with fail
 refine(sN k f e b wa p s q bl v a zs c W0 HT.out (by omega) HZ.out).mono ?_;rintro r w1 ⟨dt,rfl,hdt,hb1⟩;have HB1:=aA (HB.out.trans (hb1.mono hs0));have HD1:=aA (HD0.out.later HB1.out);have HH1:=aA (HH0.out.later (HB1.out.block D hDl) (HB1.out.block H hHl));clear hb1
 go_wp2_with fail
 refine(qI low D H S va fs (-1) dQ dt w1 HH1.out hDS HD1.out (by omega) (by omega) (Nat.le_trans hlow HB1.out.size) (fun f hf=>by have:=HFD.out f hf;omega) (by omega)).mono ?_;rintro r w2 ⟨rfl,va2,hd2,hk2,ho2⟩;rw[if_neg (by decide)]at hd2;have e1:cZ (-1) = -1:=rfl;rw[e1]at hd2;have hbd2:=oY HFD.out dQ dt
 have hvD:∀cs t,w1.heap[D]?=Y (.cells cs t (0,0))->t≠107->some D≠va.ownBlock:=by
  intro cs t h1 h2 hh;obtain⟨cur,h3⟩:=HD1.out.rowAt hh.symm;rw[h1]at h3;simp at h3;exact h2 h3.2
 have hvH:some H≠va.ownBlock:=by
  intro hh;obtain⟨cur,h3⟩:=HD1.out.rowAt hh.symm;rw[HH1.out.h]at h3;simp at h3
 have hvD2:=hvD _ _ HH1.out.d (by decide);have HH2:=aA (HH1.out.later (hk2.block D (Nat.lt_of_lt_of_le hDl HB1.out.size) (fun hh=>hh.elim hDS (fun h9=>hvD2 h9))) (hk2.block H (Nat.lt_of_lt_of_le hHl HB1.out.size) (fun hh=>hh.elim hHS (fun h9=>hvH h9))));have HD2:=aA hd2;have HK2:=aA hk2;have HO2:=aA ho2;have HBD2:Hid _:=hbd2;clear hd2 hk2 ho2 hbd2 hvD hvD2 hvH
 go_wp2_with fail
 refine(rP low D H S va2 (eR fs dQ dt) (-1) dQ w2 HH2.out hDS HD2.out (by omega) (by have:=HBD2.out.2;omega) (Nat.le_trans hlow (Nat.le_trans HB1.out.size HK2.out.size)) (fun f hf=>by have:=HBD2.out.1 f hf;omega)).mono ?_;rintro r w3 ⟨rfl,hd3⟩;rw[if_neg (by decide)]at hd3;have HD3:=aA (cA.then HK2.out HO2.out hd3);have HS3:Hid _:=oZ HBD2.out.1 dQ;clear hd3;go_wp2;go_ret;refine⟨rfl,dt,hdt,?_⟩;obtain⟨v9,h1,h2,h3⟩:=HD3.out;exact⟨v9,h1,⟨h2.os.trans HB1.out.os,h2.tape.trans HB1.out.tape,h2.output.trans HB1.out.output,Nat.le_trans HB1.out.size h2.size,fun k hk hA=>(h2.block k (Nat.lt_of_lt_of_le hk HB1.out.size) hA).trans (HB1.out.block k hk)⟩,fun g hg=>(h3 g hg).imp id (fun h9=>Nat.le_trans HB1.out.size h9)⟩
theorem II(Nd St:Nat)(id nodes nb:Int)(act:Bool)(f e b wa p s q bl v:Int)(a:Option Addr)(zs:List Int)(c:Nat)(w:World)(h:aI w Nd id nodes nb St act):
  Calls pG 247 #[P0 (Y ⟨Nd,0,Z⟩),.agg #[I T 7,I T f,I T e,I T b,I T wa,I T p,I T s,I T q,I T bl,I T v,J a zs.length c]] w fun r w'=>r=.returned (.bool (decide (bl<nb)))/\Below w.heap.size w w':=by
 have hb0:=(Below.refl w.heap.size w).alloc (Nat.le_refl _) (G #[I T 7,I T f,I T e,I T b,I T wa,I T p,I T s,I T q,I T bl,I T v,J a zs.length c] 136);have HM:=aA (aB.new w #[I T 7,I T f,I T e,I T b,I T wa,I T p,I T s,I T q,I T bl,I T v,J a zs.length c] 136);have HB:=aA hb0;have HN:=aA (h.later hb0);clear h;clear hb0;go_enter Tryz.func247,Tryz.ntmps247
 go_upto_region 1 with fail
 generalize (w.alloc (G #[I T 7,I T f,I T e,I T b,I T wa,I T p,I T s,I T q,I T bl,I T v,J a zs.length c] 136))=W0 at*;obtain⟨m0,m1,m2,m3,m4,m5,m6,m7,m8,m9,m10⟩:=HM.out.c11;have c2:=HN.out.blk.cell 2;simp at c2
 go_wp2_with fail
 go_quiet (fail)
 go_wp2;go_ret
 exact⟨rfl,below_drewN HB.out _⟩
theorem IJ(Nd St:Nat)(id nodes nb:Int)(act:Bool)(f e b wa p s q bl v:Int)(a:Option Addr)(zs:List Int)(c:Nat)(w:World)(h:aI w Nd id nodes nb St act):
  Calls pG 247 #[P0 (Y ⟨Nd,0,Z⟩),.agg #[I T 9,I T f,I T e,I T b,I T wa,I T p,I T s,I T q,I T bl,I T v,J a zs.length c]] w fun r w'=>r=.returned (.bool (((zs.length:Int)==nb)))/\Below w.heap.size w w':=by
 have hb0:=(Below.refl w.heap.size w).alloc (Nat.le_refl _) (G #[I T 9,I T f,I T e,I T b,I T wa,I T p,I T s,I T q,I T bl,I T v,J a zs.length c] 136);have HM:=aA (aB.new w #[I T 9,I T f,I T e,I T b,I T wa,I T p,I T s,I T q,I T bl,I T v,J a zs.length c] 136);have HB:=aA hb0;have HN:=aA (h.later hb0);clear h;clear hb0;go_enter Tryz.func247,Tryz.ntmps247
 go_upto_region 1 with fail
 generalize (w.alloc (G #[I T 9,I T f,I T e,I T b,I T wa,I T p,I T s,I T q,I T bl,I T v,J a zs.length c] 136))=W0 at*;obtain⟨m0,m1,m2,m3,m4,m5,m6,m7,m8,m9,m10⟩:=HM.out.c11;have c2:=HN.out.blk.cell 2;simp at c2
 go_wp2_with fail
 go_quiet (fail)
 go_wp2;go_ret
 exact⟨rfl,below_drewN HB.out _⟩
theorem pZ(low Nd St:Nat)(d:SD)(vr:Value)(Mp D:Nat)(id nodes nb:Int)(act:Bool)(E:Nat)(w:World)(hn:aI w Nd id nodes nb St act)(h:aF w low St d vr Mp D)(hE:E+1<d.recs.length)(hlt:d.recs.length<=100000000):
  Calls pG 238 #[P0 (Y ⟨Nd,0,Z⟩),I T (E:Int)] w fun r w'=>r=.returned (.agg #[I T 6,I T 0,I T (E:Int),I T 0,I T 0,I T (d.recs.getD (E+1) ⟨0,0,0⟩).P,I T (d.recs.getD (E+1) ⟨0,0,0⟩).S,I T 0,I T 0,I T 0,J Z 0 0])/\Below w.heap.size w w':=by
 have hb0:=(Below.refl w.heap.size w).alloc (Nat.le_refl _) (G #[I T 0,I T 0,I T 0,I T 0,I T 0,I T 0,I T 0,I T 0,I T 0,I T 0,J Z 0 0] 136);have HR:=aA (aB.new w #[I T 0,I T 0,I T 0,I T 0,I T 0,I T 0,I T 0,I T 0,I T 0,I T 0,J Z 0 0] 136);have HB:=aA hb0;have HN:=aA (hn.later hb0);have HS:=aA (h.later hb0);have HC:Hid ((E:Int)+1=((E+1:Nat):Int)):=by unfold Hid;omega
 clear hb0 hn h;go_enter Tryz.func238,Tryz.ntmps238
 go_upto_region 1 with fail
 generalize (w.alloc (G #[I T 0,I T 0,I T 0,I T 0,I T 0,I T 0,I T 0,I T 0,I T 0,I T 0,J Z 0 0] 136))=W0 at*;have c3:=HN.out.blk.cell 3;simp at c3;have hNd:=HN.out.blk.lt;have hs0:=HB.out.size
 go_wp2_with fail
 rw[HC.out];refine(rA low St d vr Mp D (E+1) W0 HS.out hE hlt).mono ?_;rintro r w1 ⟨rfl,hb1⟩;have HR1:=aA (HR.out.later hb1);have HB1:Hid (Below w.heap.size w w1):=HB.out.trans (hb1.mono hs0);clear hb1;generalize hrr:(d.recs.getD (E+1) ⟨0,0,0⟩)=rr at*;replace hrr:=hrr.symm;obtain⟨r0,r1,r2,r3,r4,r5,r6,r7,r8,r9,r10⟩:=HR1.out.c11;have hf0:=HR1.out.free 0;have hf1:=HR1.out.free 1;have hf2:=HR1.out.free 2;have hf3:=HR1.out.free 3;have hf4:=HR1.out.free 4;have hf5:=HR1.out.free 5;have hf6:=HR1.out.free 6;have hf7:=HR1.out.free 7;have hf8:=HR1.out.free 8;have hf9:=HR1.out.free 9;have hf10:=HR1.out.free 10;have hR1:=HR1.out.lt;have hz1:=HB1.out.size;have HRR:=aA hrr;clear hrr;go_wp2;have HBF:Hid (Below w.heap.size w ((((((((((((w1.setCell ⟨w.heap.size,0,Z⟩ (I T 6)).setCell ⟨w.heap.size,1,Z⟩ (I T 0)).setCell ⟨w.heap.size,2,Z⟩ (I T (E:Int))).setCell ⟨w.heap.size,3,Z⟩ (I T 0)).setCell ⟨w.heap.size,4,Z⟩ (I T 0)).setCell ⟨w.heap.size,5,Z⟩ (I T rr.P)).setCell ⟨w.heap.size,6,Z⟩ (I T rr.S)).setCell ⟨w.heap.size,7,Z⟩ (I T 0)).setCell ⟨w.heap.size,8,Z⟩ (I T 0)).setCell ⟨w.heap.size,9,Z⟩ (I T 0)).setCell ⟨w.heap.size,10,Z⟩ (J Z 0 0)).alloc (G #[I T rr.E,I T rr.P,I T rr.S] 66))):=(bX (bX (bX (bX (bX (bX (bX (bX (bX (bX (bX HB1.out (Nat.le_refl _) 0 (I T 6)) (Nat.le_refl _) 1 (I T 0)) (Nat.le_refl _) 2 (I T (E:Int))) (Nat.le_refl _) 3 (I T 0)) (Nat.le_refl _) 4 (I T 0)) (Nat.le_refl _) 5 (I T rr.P)) (Nat.le_refl _) 6 (I T rr.S)) (Nat.le_refl _) 7 (I T 0)) (Nat.le_refl _) 8 (I T 0)) (Nat.le_refl _) 9 (I T 0)) (Nat.le_refl _) 10 (J Z 0 0)).alloc (by simp only[mP];omega) _;have HRF:Hid (aB ((((((((((((w1.setCell ⟨w.heap.size,0,Z⟩ (I T 6)).setCell ⟨w.heap.size,1,Z⟩ (I T 0)).setCell ⟨w.heap.size,2,Z⟩ (I T (E:Int))).setCell ⟨w.heap.size,3,Z⟩ (I T 0)).setCell ⟨w.heap.size,4,Z⟩ (I T 0)).setCell ⟨w.heap.size,5,Z⟩ (I T rr.P)).setCell ⟨w.heap.size,6,Z⟩ (I T rr.S)).setCell ⟨w.heap.size,7,Z⟩ (I T 0)).setCell ⟨w.heap.size,8,Z⟩ (I T 0)).setCell ⟨w.heap.size,9,Z⟩ (I T 0)).setCell ⟨w.heap.size,10,Z⟩ (J Z 0 0)).alloc (G #[I T rr.E,I T rr.P,I T rr.S] 66)) w.heap.size #[I T 6,I T 0,I T (E:Int),I T 0,I T 0,I T rr.P,I T rr.S,I T 0,I T 0,I T 0,J Z 0 0] 136):=by have h9:=((((((((((((HR1.out.set 0 (I T 6)).set 1 (I T 0)).set 2 (I T (E:Int))).set 3 (I T 0)).set 4 (I T 0)).set 5 (I T rr.P)).set 6 (I T rr.S)).set 7 (I T 0)).set 8 (I T 0)).set 9 (I T 0)).set 10 (J Z 0 0)).old (G #[I T rr.E,I T rr.P,I T rr.S] 66));unfold Hid;simpa using h9
 generalize ((((((((((((w1.setCell ⟨w.heap.size,0,Z⟩ (I T 6)).setCell ⟨w.heap.size,1,Z⟩ (I T 0)).setCell ⟨w.heap.size,2,Z⟩ (I T (E:Int))).setCell ⟨w.heap.size,3,Z⟩ (I T 0)).setCell ⟨w.heap.size,4,Z⟩ (I T 0)).setCell ⟨w.heap.size,5,Z⟩ (I T rr.P)).setCell ⟨w.heap.size,6,Z⟩ (I T rr.S)).setCell ⟨w.heap.size,7,Z⟩ (I T 0)).setCell ⟨w.heap.size,8,Z⟩ (I T 0)).setCell ⟨w.heap.size,9,Z⟩ (I T 0)).setCell ⟨w.heap.size,10,Z⟩ (J Z 0 0)).alloc (G #[I T rr.E,I T rr.P,I T rr.S] 66))=W9 at*;obtain⟨q0,q1,q2,q3,q4,q5,q6,q7,q8,q9,q10⟩:=HRF.out.c11;exact bodyPost_ret (v:=.agg #[I T 6,I T 0,I T (E:Int),I T 0,I T 0,I T rr.P,I T rr.S,I T 0,I T 0,I T 0,J Z 0 0]) (by simp[results,Tryz.results238,go_sem,q0,q1,q2,q3,q4,q5,q6,q7,q8,q9,q10]) rfl ⟨by rw[HRR.out],HBF.out⟩
theorem kN{P:Program}{w:World}{t:TypeId}{B i:Nat}{cs vs:Array Value}{ty:TypeId}(hblk:aB w B cs ty)(hsz:(P.info? t).map (·.size)=Y vs.size)(hfit:i+vs.size<=cs.size)(hsame:cs.toList.take i++vs.toList++cs.toList.drop (i+vs.size)=cs.toList)(h1:∀v∈vs.toList,v.oneCell'=true):
  (Instr.storeAt t (P0 (Y ⟨B,i,Z⟩)) (.agg vs)).run P w=.ok () w:=by
 have hst:=run_storeCells_at P B i ty vs.toList 0 cs w hblk.blk (by simpa using hfit) h1;simp only[Nat.add_zero,Array.length_toList]at hst;rw[hsame,Array.toArray_toList,setRow_self w B cs ty (0,0) hblk.blk]at hst
 cases hq:P.info? t with
 |none=>simp[hq]at hsz
 |some j=>
  have hj:j.size=vs.size:=by simpa[hq] using hsz
  simp[Instr.storeAt,Instr.sureAddr,storeVar,sizeOf,typeInfo,hq,hj,Value.cells,hst]
theorem jT{P:Program}{w:World}{ops:Array Oper}{rest:List Oper}{o:Oper}{a:Act}{Q:Exit->Act->World->Prop}(hg:o.guard=none)(t:TypeId)(x y:Operand)(hop:o.op=Op.store t x y)(ad vs:Value)(hx:a.eval x=ad)(hy:a.eval y=vs)(hrun:(Instr.storeAt t ad vs).run P w=.ok () w)(h:wpList P ops Q rest (a.put o.dst (.tuple #[])) w):wpList P ops Q (o::rest) a w:=by
 refine wpList_plain hg fun K hK=>?_;unfold Oper.wp;simp[execOp,hop,hx,hy,hrun,Result.andThen];exact hK _ _ h
theorem JB:(Tryz.prog.info? 188).map (·.size)=Y 19:=by kernel_rfl
theorem JC:(Tryz.prog.info? 190).map (·.size)=Y 13:=by kernel_rfl
theorem sC(Nd St:Nat)(id nodes nb:Int)(act:Bool)(w:World)(h:aI w Nd id nodes nb St act):
  Calls pG 192 #[P0 (Y ⟨Nd,0,Z⟩)] w fun r w'=>r=.returned (.tuple #[])/\aI w' Nd id nodes nb St false/\aD Nd w w':=by
 have c5:=h.blk.cell 5;have hf5:=h.blk.free 5;simp at c5;have HBt:=aA (aD.setCell w ⟨Nd,5,Z⟩ (bool false));have HBk:Hid (aB (w.setCell ⟨Nd,5,Z⟩ (bool false)) Nd #[I T id,I T nodes,I T nb,P0 (Y ⟨St,0,Z⟩),bool false,bool false,I T 0,I T 0,I T 0,I T 0,I T 0,I T 0,I T 0,I T 0,I T 0,I T 0,I T 0,I T 0,I T 0,I T 0,I T 0,I T 0,I T 0,J Z 0 0,Value.map none,I T 0,I T 0,I T 0,I T 0,I T 0,I T 0,I T 0,I T 0,I T 0,I T 0,I T 0,J Z 0 0,Value.map none,I T 0,J Z 0 0] 192):=by have h9:=h.blk.set 5 (bool false);unfold Hid;simpa using h9
 have hc1:=kN (P:=pG) (t:=188) (i:=6) (vs:=#[I T 0,I T 0,I T 0,I T 0,I T 0,I T 0,I T 0,I T 0,I T 0,I T 0,I T 0,I T 0,I T 0,I T 0,I T 0,I T 0,I T 0,J Z 0 0,Value.map none]) HBk.out JB (by simp) (by simp) (by intro u hu;simp at hu;rcases hu with rfl|rfl|rfl<;>rfl);have hc2:=kN (P:=pG) (t:=190) (i:=25) (vs:=#[I T 0,I T 0,I T 0,I T 0,I T 0,I T 0,I T 0,I T 0,I T 0,I T 0,I T 0,J Z 0 0,Value.map none]) HBk.out JC (by simp) (by simp) (by intro u hu;simp at hu;rcases hu with rfl|rfl|rfl<;>rfl);clear h;go_enter Tryz.func192,Tryz.ntmps192
 go_wp2_with(first|(refine jT rfl 188 _ _ rfl _ _ rfl rfl hc1 ?_)|(refine jT rfl 190 _ _ rfl _ _ rfl rfl hc2 ?_))
 exact bodyPost_end (v:=.tuple #[]) (by simp[results,Tryz.results192,go_sem]) rfl ⟨rfl,⟨HBk.out⟩,HBt.out⟩
end Go.Proofs.YtdcainmlcpafbaaGreatDoor
