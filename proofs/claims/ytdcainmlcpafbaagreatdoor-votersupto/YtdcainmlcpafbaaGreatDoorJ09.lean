import Derived.Test.YtdcainmlcpafbaaGreatDoorJ08
set_option linter.all false
set_option maxHeartbeats 8000000
set_option maxRecDepth 20000
namespace Go.Proofs.YtdcainmlcpafbaaGreatDoor
open Go.RowKit
open Value renaming int->I,slice->J,pointer->P0
open Tryz renaming prog->pG
open IntKind renaming i64->T
open Option renaming none->Z,some->Y
open Obj renaming cells->G
open Value (bool)
theorem wB(rs rq:List aM)(vs vq:List aS)(bs bq:List Int)(s1 l1 s2 l2:Int)(a1 a2 a3 b1 b2 b3:Option Addr)(c1 c2 c3 d1 d2 d3:Nat)(w:World)(hr1:aP w (J a1 rs.length c1) rs.length (rs.flatMap aM.cells))(hv1:aP w (J a2 vs.length c2) vs.length (vs.flatMap aS.cells))(hb1:aP w (J a3 bs.length c3) bs.length (bs.map (Value.int .i64)))(hr2:aP w (J b1 rq.length d1) rq.length (rq.flatMap aM.cells))(hv2:aP w (J b2 vq.length d2) vq.length (vq.flatMap aS.cells))(hb2:aP w (J b3 bq.length d3) bq.length (bq.map (Value.int .i64)))(hrr:rs.length=rq.length->rs=rq)(hbb:bs.length=bq.length)(hl1:rs.length<=100000000)(hl2:vs.length<=100000000)(hl3:vq.length<=100000000)(hl4:bs.length<=4)(hl5:rq.length<=100000000):
  Calls pG 123 #[.agg #[J a1 rs.length c1,J a2 vs.length c2,J a3 bs.length c3,I T s1,I T l1],.agg #[J b1 rq.length d1,J b2 vq.length d2,J b3 bq.length d3,I T s2,I T l2]] w fun e w'=>∃b,e=.returned (.bool b)/\Below w.heap.size w w':=by
 have hb0:Below w.heap.size w ((w.alloc (G #[J a1 rs.length c1,J a2 vs.length c2,J a3 bs.length c3,I T s1,I T l1] 220)).alloc (G #[J b1 rq.length d1,J b2 vq.length d2,J b3 bq.length d3,I T s2,I T l2] 220)):=((Below.refl w.heap.size w).alloc (Nat.le_refl _) _).alloc (by simp) _;have HBB:=aA hbb;clear hbb
 by_cases q1:s1=s2
 ·subst q1
  by_cases q2:l1=l2
  ·subst q2
   by_cases q3:rs.length=rq.length
   ·have hrq:=hrr q3;subst hrq;have hA0:((w.alloc (G #[J a1 rs.length c1,J a2 vs.length c2,J a3 bs.length c3,I T s1,I T l1] 220)).alloc (G #[J b1 rs.length d1,J b2 vq.length d2,J b3 bq.length d3,I T s1,I T l1] 220)).heap[w.heap.size]?=Y (G #[J a1 rs.length c1,J a2 vs.length c2,J a3 bs.length c3,I T s1,I T l1] 220 (0,0)):=(heap_alloc_old _ _ (by simp)).trans (heap_alloc_new _ _);have hB0:((w.alloc (G #[J a1 rs.length c1,J a2 vs.length c2,J a3 bs.length c3,I T s1,I T l1] 220)).alloc (G #[J b1 rs.length d1,J b2 vq.length d2,J b3 bq.length d3,I T s1,I T l1] 220)).heap[w.heap.size+1]?=Y (G #[J b1 rs.length d1,J b2 vq.length d2,J b3 bq.length d3,I T s1,I T l1] 220 (0,0)):=by have h:=heap_alloc_new (w.alloc (G #[J a1 rs.length c1,J a2 vs.length c2,J a3 bs.length c3,I T s1,I T l1] 220)) (G #[J b1 rs.length d1,J b2 vq.length d2,J b3 bq.length d3,I T s1,I T l1] 220);simpa using h
    have hs0:w.heap.size+2<=((w.alloc (G #[J a1 rs.length c1,J a2 vs.length c2,J a3 bs.length c3,I T s1,I T l1] 220)).alloc (G #[J b1 rs.length d1,J b2 vq.length d2,J b3 bq.length d3,I T s1,I T l1] 220)).heap.size:=by simp
    have HR1:=aA hr1;have HV1:=aA hv1;have HB1:=aA hb1;have HR2:=aA hr2;have HV2:=aA hv2;have HB2:=aA hb2;clear hr1 hv1 hb1 hr2 hv2 hb2 q3;go_enter Tryz.func123,Tryz.ntmps123;go_wp2;generalize ((w.alloc (G #[J a1 rs.length c1,J a2 vs.length c2,J a3 bs.length c3,I T s1,I T l1] 220)).alloc (G #[J b1 rs.length d1,J b2 vq.length d2,J b3 bq.length d3,I T s1,I T l1] 220))=W0 at*
    go_loopw [5] (fun i wr=>∃t m:Nat,t<=rs.length/\i=I T t/\wr=W0.drewN m) (fun i _=>rs.length - (intOf i).toNat)
    case atStart=>exact⟨0,0,by omega,rfl,rfl⟩
    case round=>
     obtain⟨t,m,ht,rfl,rfl⟩:=hrel;have u0:W0.cell? ⟨w.heap.size,0,Z⟩=Y (J a1 rs.length c1):=by simp[World.cell?,hA0]
     have u1:W0.cell? ⟨w.heap.size+1,0,Z⟩=Y (J b1 rs.length d1):=by simp[World.cell?,hB0]
     by_cases htl:t<rs.length
     ·obtain⟨g,cg,he,hg,hcc⟩:=aP.at HR1.out (by omega);cases he;obtain⟨k,ck,he,hk,hdd⟩:=aP.at HR2.out (by omega);cases he;have j0:=(hb0.cell (p:=⟨g,t*3+0,Z⟩) hg).trans (hcc _ _ (cO aM.cells 3 eK rs t htl 0 (by omega)));have j1:=(hb0.cell (p:=⟨g,t*3+1,Z⟩) hg).trans (hcc _ _ (cO aM.cells 3 eK rs t htl 1 (by omega)));have j2:=(hb0.cell (p:=⟨g,t*3+2,Z⟩) hg).trans (hcc _ _ (cO aM.cells 3 eK rs t htl 2 (by omega)));have k0:=(hb0.cell (p:=⟨k,t*3+0,Z⟩) hk).trans (hdd _ _ (cO aM.cells 3 eK rs t htl 0 (by omega)));have k1:=(hb0.cell (p:=⟨k,t*3+1,Z⟩) hk).trans (hdd _ _ (cO aM.cells 3 eK rs t htl 1 (by omega)));have k2:=(hb0.cell (p:=⟨k,t*3+2,Z⟩) hk).trans (hdd _ _ (cO aM.cells 3 eK rs t htl 2 (by omega)));simp[aM.cells]at j0 j1 j2 k0 k1 k2;have htl2:(t:Int)<(rs.length:Int):=by omega
      clear hcc hdd HR1 HR2 HV1 HV2 HB1 HB2 hA0 hB0 hb0;generalize rs[t]=V at*;go_wp2
      go_quiet (fail)
      go_wp2
      go_roundw
      case rel=>exact⟨t+1,_,by omega,by go_num,rfl⟩
      case measure=>simp[intOf];omega
     ·have hA:(W0.drewN m).heap[w.heap.size]?=Y (G #[J a1 rs.length c1,J a2 vs.length c2,J a3 bs.length c3,I T s1,I T l1] 220 (0,0)):=hA0;have hB:(W0.drewN m).heap[w.heap.size+1]?=Y (G #[J b1 rs.length d1,J b2 vq.length d2,J b3 bq.length d3,I T s1,I T l1] 220 (0,0)):=hB0;have hbm:Below w.heap.size w (W0.drewN m):=below_drewN hb0 m;have hsm:w.heap.size+2<=(W0.drewN m).heap.size:=hs0;generalize W0.drewN m=W1 at*;clear u0 u1 hA0 hB0 hb0 hs0 HR1 HR2;have u0:W1.cell? ⟨w.heap.size,0,Z⟩=Y (J a1 rs.length c1):=by simp[World.cell?,hA]
      have x0:W1.cell? ⟨w.heap.size+1,0,Z⟩=Y (J b1 rs.length d1):=by simp[World.cell?,hB]
      have u1:W1.cell? ⟨w.heap.size,1,Z⟩=Y (J a2 vs.length c2):=by simp[World.cell?,hA]
      have x1:W1.cell? ⟨w.heap.size+1,1,Z⟩=Y (J b2 vq.length d2):=by simp[World.cell?,hB]
      have u2:W1.cell? ⟨w.heap.size,2,Z⟩=Y (J a3 bs.length c3):=by simp[World.cell?,hA]
      have x2:W1.cell? ⟨w.heap.size+1,2,Z⟩=Y (J b3 bq.length d3):=by simp[World.cell?,hB]
      have u3:W1.cell? ⟨w.heap.size,3,Z⟩=Y (I T s1):=by simp[World.cell?,hA]
      have x3:W1.cell? ⟨w.heap.size+1,3,Z⟩=Y (I T s1):=by simp[World.cell?,hB]
      have u4:W1.cell? ⟨w.heap.size,4,Z⟩=Y (I T l1):=by simp[World.cell?,hA]
      have x4:W1.cell? ⟨w.heap.size+1,4,Z⟩=Y (I T l1):=by simp[World.cell?,hB]
      have hx1:w.heap.size<W1.heap.size:=by omega
      have hx2:w.heap.size+1<W1.heap.size:=by omega
      go_wp2;have hX2:((W1.alloc (G #[I T 0,I T 0,J a1 rs.length c1,J a2 vs.length c2,J a3 bs.length c3,I T s1,I T l1,bool false,J Z 0 0,J Z 0 0,I T 0,J Z 0 0,bool false,J Z 0 0] 225)).alloc (G #[I T 0,I T 0,J b1 rs.length d1,J b2 vq.length d2,J b3 bq.length d3,I T s1,I T l1,bool false,J Z 0 0,J Z 0 0,I T 0,J Z 0 0,bool false,J Z 0 0] 225)).heap[W1.heap.size]?=Y (G #[I T 0,I T 0,J a1 rs.length c1,J a2 vs.length c2,J a3 bs.length c3,I T s1,I T l1,bool false,J Z 0 0,J Z 0 0,I T 0,J Z 0 0,bool false,J Z 0 0] 225 (0,0)):=(heap_alloc_old _ _ (by simp)).trans (heap_alloc_new _ _)
      have hY2:((W1.alloc (G #[I T 0,I T 0,J a1 rs.length c1,J a2 vs.length c2,J a3 bs.length c3,I T s1,I T l1,bool false,J Z 0 0,J Z 0 0,I T 0,J Z 0 0,bool false,J Z 0 0] 225)).alloc (G #[I T 0,I T 0,J b1 rs.length d1,J b2 vq.length d2,J b3 bq.length d3,I T s1,I T l1,bool false,J Z 0 0,J Z 0 0,I T 0,J Z 0 0,bool false,J Z 0 0] 225)).heap[W1.heap.size+1]?=Y (G #[I T 0,I T 0,J b1 rs.length d1,J b2 vq.length d2,J b3 bq.length d3,I T s1,I T l1,bool false,J Z 0 0,J Z 0 0,I T 0,J Z 0 0,bool false,J Z 0 0] 225 (0,0)):=by have h:=heap_alloc_new (W1.alloc (G #[I T 0,I T 0,J a1 rs.length c1,J a2 vs.length c2,J a3 bs.length c3,I T s1,I T l1,bool false,J Z 0 0,J Z 0 0,I T 0,J Z 0 0,bool false,J Z 0 0] 225)) (G #[I T 0,I T 0,J b1 rs.length d1,J b2 vq.length d2,J b3 bq.length d3,I T s1,I T l1,bool false,J Z 0 0,J Z 0 0,I T 0,J Z 0 0,bool false,J Z 0 0] 225);simpa using h
      have hA2:((W1.alloc (G #[I T 0,I T 0,J a1 rs.length c1,J a2 vs.length c2,J a3 bs.length c3,I T s1,I T l1,bool false,J Z 0 0,J Z 0 0,I T 0,J Z 0 0,bool false,J Z 0 0] 225)).alloc (G #[I T 0,I T 0,J b1 rs.length d1,J b2 vq.length d2,J b3 bq.length d3,I T s1,I T l1,bool false,J Z 0 0,J Z 0 0,I T 0,J Z 0 0,bool false,J Z 0 0] 225)).heap[w.heap.size]?=Y (G #[J a1 rs.length c1,J a2 vs.length c2,J a3 bs.length c3,I T s1,I T l1] 220 (0,0)):=(heap_alloc_old _ _ (by simp;omega)).trans ((heap_alloc_old _ _ hx1).trans hA);have hB2:((W1.alloc (G #[I T 0,I T 0,J a1 rs.length c1,J a2 vs.length c2,J a3 bs.length c3,I T s1,I T l1,bool false,J Z 0 0,J Z 0 0,I T 0,J Z 0 0,bool false,J Z 0 0] 225)).alloc (G #[I T 0,I T 0,J b1 rs.length d1,J b2 vq.length d2,J b3 bq.length d3,I T s1,I T l1,bool false,J Z 0 0,J Z 0 0,I T 0,J Z 0 0,bool false,J Z 0 0] 225)).heap[w.heap.size+1]?=Y (G #[J b1 rs.length d1,J b2 vq.length d2,J b3 bq.length d3,I T s1,I T l1] 220 (0,0)):=(heap_alloc_old _ _ (by simp;omega)).trans ((heap_alloc_old _ _ hx2).trans hB);have hb2:Below w.heap.size w ((W1.alloc (G #[I T 0,I T 0,J a1 rs.length c1,J a2 vs.length c2,J a3 bs.length c3,I T s1,I T l1,bool false,J Z 0 0,J Z 0 0,I T 0,J Z 0 0,bool false,J Z 0 0] 225)).alloc (G #[I T 0,I T 0,J b1 rs.length d1,J b2 vq.length d2,J b3 bq.length d3,I T s1,I T l1,bool false,J Z 0 0,J Z 0 0,I T 0,J Z 0 0,bool false,J Z 0 0] 225)):=(hbm.alloc (by omega) _).alloc (by simp;omega) _;have hs2:W1.heap.size+2<=((W1.alloc (G #[I T 0,I T 0,J a1 rs.length c1,J a2 vs.length c2,J a3 bs.length c3,I T s1,I T l1,bool false,J Z 0 0,J Z 0 0,I T 0,J Z 0 0,bool false,J Z 0 0] 225)).alloc (G #[I T 0,I T 0,J b1 rs.length d1,J b2 vq.length d2,J b3 bq.length d3,I T s1,I T l1,bool false,J Z 0 0,J Z 0 0,I T 0,J Z 0 0,bool false,J Z 0 0] 225)).heap.size:=by simp
      generalize ((W1.alloc (G #[I T 0,I T 0,J a1 rs.length c1,J a2 vs.length c2,J a3 bs.length c3,I T s1,I T l1,bool false,J Z 0 0,J Z 0 0,I T 0,J Z 0 0,bool false,J Z 0 0] 225)).alloc (G #[I T 0,I T 0,J b1 rs.length d1,J b2 vq.length d2,J b3 bq.length d3,I T s1,I T l1,bool false,J Z 0 0,J Z 0 0,I T 0,J Z 0 0,bool false,J Z 0 0] 225))=W2 at*;clear hA hB hbm u0 x0 u1 x1 u2 x2 u3 x3 u4 x4
      go_loopw [8] (fun i wr=>∃t:Nat,t<=vs.length+vq.length/\i=I T t/\Below W2.heap.size W2 wr) (fun i _=>vs.length+vq.length - (intOf i).toNat)
      case atStart=>exact⟨0,by omega,rfl,Below.refl _ _⟩
      case round=>
       obtain⟨t,ht,rfl,hbr⟩:=hrel;have hbs:=hbr.size;have hAr:=(hbr.block w.heap.size (by omega)).trans hA2;have hBr:=(hbr.block (w.heap.size+1) (by omega)).trans hB2;have hXr:=(hbr.block W1.heap.size (by omega)).trans hX2;have hYr:=(hbr.block (W1.heap.size+1) (by omega)).trans hY2;have hbw:Below w.heap.size w wr:=hb2.trans (hbr.mono (by omega));have HV1r:=aA (HV1.out.later hbw);have HV2r:=aA (HV2.out.later hbw);have u1:wr.cell? ⟨w.heap.size,1,Z⟩=Y (J a2 vs.length c2):=by simp[World.cell?,hAr]
       have x1:wr.cell? ⟨w.heap.size+1,1,Z⟩=Y (J b2 vq.length d2):=by simp[World.cell?,hBr]
       by_cases htl:t<vs.length+vq.length
       ·skip
        by_cases htv:t<vs.length
        ·obtain⟨g,cg,he,hg,hcc⟩:=aP.at HV1r.out (by omega);cases he;have j0:=hcc _ _ (cO aS.cells 5 gO vs t htv 0 (by omega));simp[aS.cells]at j0;have htv2:(t:Int)<(vs.length:Int):=by omega
         have htl2:(t:Int)<(vs.length:Int)+(vq.length:Int):=by omega
         clear hcc;generalize vs[t].ep=E0 at*;have p0:wr.cell? ⟨W1.heap.size,0,Z⟩=Y (I T 0):=by simp[World.cell?,hXr]
         have p1:wr.cell? ⟨W1.heap.size,1,Z⟩=Y (I T 0):=by simp[World.cell?,hXr]
         have p2:wr.cell? ⟨W1.heap.size,2,Z⟩=Y (J a1 rs.length c1):=by simp[World.cell?,hXr]
         have p3:wr.cell? ⟨W1.heap.size,3,Z⟩=Y (J (Y ⟨g,0,Z⟩) vs.length c2):=by simp[World.cell?,hXr]
         have p4:wr.cell? ⟨W1.heap.size,4,Z⟩=Y (J a3 bs.length c3):=by simp[World.cell?,hXr]
         have p5:wr.cell? ⟨W1.heap.size,5,Z⟩=Y (I T s1):=by simp[World.cell?,hXr]
         have p6:wr.cell? ⟨W1.heap.size,6,Z⟩=Y (I T l1):=by simp[World.cell?,hXr]
         have p7:wr.cell? ⟨W1.heap.size,7,Z⟩=Y (bool false):=by simp[World.cell?,hXr]
         have p8:wr.cell? ⟨W1.heap.size,8,Z⟩=Y (J Z 0 0):=by simp[World.cell?,hXr]
         have p9:wr.cell? ⟨W1.heap.size,9,Z⟩=Y (J Z 0 0):=by simp[World.cell?,hXr]
         have p10:wr.cell? ⟨W1.heap.size,10,Z⟩=Y (I T 0):=by simp[World.cell?,hXr]
         have p11:wr.cell? ⟨W1.heap.size,11,Z⟩=Y (J Z 0 0):=by simp[World.cell?,hXr]
         have p12:wr.cell? ⟨W1.heap.size,12,Z⟩=Y (bool false):=by simp[World.cell?,hXr]
         have p13:wr.cell? ⟨W1.heap.size,13,Z⟩=Y (J Z 0 0):=by simp[World.cell?,hXr]
         have HYr:Hid _:=hYr;have HBR:=aA hbr;have hy0:W1.heap.size<wr.heap.size:=by omega
         clear hXr hYr hbr hAr hBr hbw
         go_wp2_with fail
         refine(kW ⟨0,0,rs,vs,bs,s1,l1,false,[],[],0,[]⟩ (J a1 rs.length c1) (J (Y ⟨g,0,Z⟩) vs.length c2) (J a3 bs.length c3) (J Z 0 0) (J Z 0 0) (J Z 0 0) E0 wr HV1r.out (by show vs.length<=_;omega)).mono ?_;rintro r w5 ⟨rfl,hb5⟩;have hs5:=hb5.size;have hY5:=(hb5.block (W1.heap.size+1) (by omega)).trans HYr.out;have HV25:=aA (HV2r.out.later hb5);have HB5:Hid (Below W2.heap.size W2 w5):=HBR.out.trans (hb5.mono hbs);have hy5:W1.heap.size+1<w5.heap.size:=by omega
         have hz5:W2.heap.size<=w5.heap.size:=by omega
         generalize aY vs E0=V at*;clear p0 p1 p2 p3 p4 p5 p6 p7 p8 p9 p10 p11 p12 p13;have o0:w5.cell? ⟨W1.heap.size+1,0,Z⟩=Y (I T 0):=by simp[World.cell?,hY5]
         have o1:w5.cell? ⟨W1.heap.size+1,1,Z⟩=Y (I T 0):=by simp[World.cell?,hY5]
         have o2:w5.cell? ⟨W1.heap.size+1,2,Z⟩=Y (J b1 rs.length d1):=by simp[World.cell?,hY5]
         have o3:w5.cell? ⟨W1.heap.size+1,3,Z⟩=Y (J b2 vq.length d2):=by simp[World.cell?,hY5]
         have o4:w5.cell? ⟨W1.heap.size+1,4,Z⟩=Y (J b3 bq.length d3):=by simp[World.cell?,hY5]
         have o5:w5.cell? ⟨W1.heap.size+1,5,Z⟩=Y (I T s1):=by simp[World.cell?,hY5]
         have o6:w5.cell? ⟨W1.heap.size+1,6,Z⟩=Y (I T l1):=by simp[World.cell?,hY5]
         have o7:w5.cell? ⟨W1.heap.size+1,7,Z⟩=Y (bool false):=by simp[World.cell?,hY5]
         have o8:w5.cell? ⟨W1.heap.size+1,8,Z⟩=Y (J Z 0 0):=by simp[World.cell?,hY5]
         have o9:w5.cell? ⟨W1.heap.size+1,9,Z⟩=Y (J Z 0 0):=by simp[World.cell?,hY5]
         have o10:w5.cell? ⟨W1.heap.size+1,10,Z⟩=Y (I T 0):=by simp[World.cell?,hY5]
         have o11:w5.cell? ⟨W1.heap.size+1,11,Z⟩=Y (J Z 0 0):=by simp[World.cell?,hY5]
         have o12:w5.cell? ⟨W1.heap.size+1,12,Z⟩=Y (bool false):=by simp[World.cell?,hY5]
         have o13:w5.cell? ⟨W1.heap.size+1,13,Z⟩=Y (J Z 0 0):=by simp[World.cell?,hY5]
         clear hY5 hb5
         go_wp2_with fail
         have hb6:=(Below.refl w5.heap.size w5).alloc (Nat.le_refl _) (G #[I T V.ep,I T V.pr,I T V.wa,I T V.pm,I T V.st] 275);refine(kW ⟨0,0,rs,vq,bq,s1,l1,false,[],[],0,[]⟩ (J b1 rs.length d1) (J b2 vq.length d2) (J b3 bq.length d3) (J Z 0 0) (J Z 0 0) (J Z 0 0) E0 _ (HV25.out.later hb6) (by show vq.length<=_;omega)).mono ?_;rintro r w7 ⟨rfl,hb7⟩;have HB7:Hid (Below W2.heap.size W2 w7):=(HB5.out.alloc hz5 _).trans (hb7.mono (by simp;omega));have hc7:∀i,w7.cell? ⟨w5.heap.size,i,Z⟩=#[I T V.ep,I T V.pr,I T V.wa,I T V.pm,I T V.st][i]?:=fun i=>(hb7.cell (p:=⟨w5.heap.size,i,Z⟩) (by show w5.heap.size<(World.alloc _ _).heap.size;simp)).trans (World.cell?_alloc_at _ _ _ _ rfl);have m0:=hc7 0;have m1:=hc7 1;have m2:=hc7 2;have m3:=hc7 3;have m4:=hc7 4;simp at m0 m1 m2 m3 m4;have hs7:=hb7.size;have hz7:w5.heap.size<w7.heap.size:=by simp at hs7;omega
         have hz8:W2.heap.size<=w7.heap.size:=by omega
         have HBw:Hid (Below w.heap.size w w7):=hb2.trans (HB7.out.mono (by omega));generalize aY vq E0=U1 at*;clear hc7 hb7 hb6 o0 o1 o2 o3 o4 o5 o6 o7 o8 o9 o10 o11 o12 o13 hs7
         by_cases hVU:V=U1
         ·subst hVU;go_wp2
          go_roundw
          case rel=>exact⟨t+1,by omega,by go_num,HB7.out.alloc hz8 _⟩
          case measure=>simp[intOf];omega
         ·have hz9:w.heap.size<=w7.heap.size:=HBw.out.size;have HVU:=aA hVU;clear hVU;go_wp2
          all_goals first|(go_ret;exact⟨_,rfl,HBw.out.alloc hz9 _⟩)|(exfalso;apply HVU.out;cases V;cases U1;simp_all)
        ·have htu:t - vs.length<vq.length:=by omega
         obtain⟨g,cg,he,hg,hcc⟩:=aP.at HV2r.out (by omega);cases he;have j0:=hcc _ _ (cO aS.cells 5 gO vq (t - vs.length) htu 0 (by omega));simp[aS.cells]at j0;have htv2:decide ((t:Int)<(vs.length:Int))=false:=by simp;omega
         have hsub:(t:Int) - (vs.length:Int)=((t - vs.length:Nat):Int):=by omega
         have hsl:((t - vs.length:Nat):Int)<(vq.length:Int):=by omega
         have htl2:(t:Int)<(vs.length:Int)+(vq.length:Int):=by omega
         clear hcc;generalize vq[t - vs.length].ep=E0 at*;generalize t - vs.length=uu at*;have p0:wr.cell? ⟨W1.heap.size,0,Z⟩=Y (I T 0):=by simp[World.cell?,hXr]
         have p1:wr.cell? ⟨W1.heap.size,1,Z⟩=Y (I T 0):=by simp[World.cell?,hXr]
         have p2:wr.cell? ⟨W1.heap.size,2,Z⟩=Y (J a1 rs.length c1):=by simp[World.cell?,hXr]
         have p3:wr.cell? ⟨W1.heap.size,3,Z⟩=Y (J a2 vs.length c2):=by simp[World.cell?,hXr]
         have p4:wr.cell? ⟨W1.heap.size,4,Z⟩=Y (J a3 bs.length c3):=by simp[World.cell?,hXr]
         have p5:wr.cell? ⟨W1.heap.size,5,Z⟩=Y (I T s1):=by simp[World.cell?,hXr]
         have p6:wr.cell? ⟨W1.heap.size,6,Z⟩=Y (I T l1):=by simp[World.cell?,hXr]
         have p7:wr.cell? ⟨W1.heap.size,7,Z⟩=Y (bool false):=by simp[World.cell?,hXr]
         have p8:wr.cell? ⟨W1.heap.size,8,Z⟩=Y (J Z 0 0):=by simp[World.cell?,hXr]
         have p9:wr.cell? ⟨W1.heap.size,9,Z⟩=Y (J Z 0 0):=by simp[World.cell?,hXr]
         have p10:wr.cell? ⟨W1.heap.size,10,Z⟩=Y (I T 0):=by simp[World.cell?,hXr]
         have p11:wr.cell? ⟨W1.heap.size,11,Z⟩=Y (J Z 0 0):=by simp[World.cell?,hXr]
         have p12:wr.cell? ⟨W1.heap.size,12,Z⟩=Y (bool false):=by simp[World.cell?,hXr]
         have p13:wr.cell? ⟨W1.heap.size,13,Z⟩=Y (J Z 0 0):=by simp[World.cell?,hXr]
         have HYr:Hid _:=hYr;have HBR:=aA hbr;have hy0:W1.heap.size<wr.heap.size:=by omega
         clear hXr hYr hbr hAr hBr hbw
         go_wp2_with fail
         refine(kW ⟨0,0,rs,vs,bs,s1,l1,false,[],[],0,[]⟩ (J a1 rs.length c1) (J a2 vs.length c2) (J a3 bs.length c3) (J Z 0 0) (J Z 0 0) (J Z 0 0) E0 wr HV1r.out (by show vs.length<=_;omega)).mono ?_;rintro r w5 ⟨rfl,hb5⟩;have hs5:=hb5.size;have hY5:=(hb5.block (W1.heap.size+1) (by omega)).trans HYr.out;have HV25:=aA (HV2r.out.later hb5);have HB5:Hid (Below W2.heap.size W2 w5):=HBR.out.trans (hb5.mono hbs);have hy5:W1.heap.size+1<w5.heap.size:=by omega
         have hz5:W2.heap.size<=w5.heap.size:=by omega
         generalize aY vs E0=V at*;clear p0 p1 p2 p3 p4 p5 p6 p7 p8 p9 p10 p11 p12 p13;have o0:w5.cell? ⟨W1.heap.size+1,0,Z⟩=Y (I T 0):=by simp[World.cell?,hY5]
         have o1:w5.cell? ⟨W1.heap.size+1,1,Z⟩=Y (I T 0):=by simp[World.cell?,hY5]
         have o2:w5.cell? ⟨W1.heap.size+1,2,Z⟩=Y (J b1 rs.length d1):=by simp[World.cell?,hY5]
         have o3:w5.cell? ⟨W1.heap.size+1,3,Z⟩=Y (J (Y ⟨g,0,Z⟩) vq.length d2):=by simp[World.cell?,hY5]
         have o4:w5.cell? ⟨W1.heap.size+1,4,Z⟩=Y (J b3 bq.length d3):=by simp[World.cell?,hY5]
         have o5:w5.cell? ⟨W1.heap.size+1,5,Z⟩=Y (I T s1):=by simp[World.cell?,hY5]
         have o6:w5.cell? ⟨W1.heap.size+1,6,Z⟩=Y (I T l1):=by simp[World.cell?,hY5]
         have o7:w5.cell? ⟨W1.heap.size+1,7,Z⟩=Y (bool false):=by simp[World.cell?,hY5]
         have o8:w5.cell? ⟨W1.heap.size+1,8,Z⟩=Y (J Z 0 0):=by simp[World.cell?,hY5]
         have o9:w5.cell? ⟨W1.heap.size+1,9,Z⟩=Y (J Z 0 0):=by simp[World.cell?,hY5]
         have o10:w5.cell? ⟨W1.heap.size+1,10,Z⟩=Y (I T 0):=by simp[World.cell?,hY5]
         have o11:w5.cell? ⟨W1.heap.size+1,11,Z⟩=Y (J Z 0 0):=by simp[World.cell?,hY5]
         have o12:w5.cell? ⟨W1.heap.size+1,12,Z⟩=Y (bool false):=by simp[World.cell?,hY5]
         have o13:w5.cell? ⟨W1.heap.size+1,13,Z⟩=Y (J Z 0 0):=by simp[World.cell?,hY5]
         clear hY5 hb5
         go_wp2_with fail
         have hb6:=(Below.refl w5.heap.size w5).alloc (Nat.le_refl _) (G #[I T V.ep,I T V.pr,I T V.wa,I T V.pm,I T V.st] 275);refine(kW ⟨0,0,rs,vq,bq,s1,l1,false,[],[],0,[]⟩ (J b1 rs.length d1) (J (Y ⟨g,0,Z⟩) vq.length d2) (J b3 bq.length d3) (J Z 0 0) (J Z 0 0) (J Z 0 0) E0 _ (HV25.out.later hb6) (by show vq.length<=_;omega)).mono ?_;rintro r w7 ⟨rfl,hb7⟩;have HB7:Hid (Below W2.heap.size W2 w7):=(HB5.out.alloc hz5 _).trans (hb7.mono (by simp;omega));have hc7:∀i,w7.cell? ⟨w5.heap.size,i,Z⟩=#[I T V.ep,I T V.pr,I T V.wa,I T V.pm,I T V.st][i]?:=fun i=>(hb7.cell (p:=⟨w5.heap.size,i,Z⟩) (by show w5.heap.size<(World.alloc _ _).heap.size;simp)).trans (World.cell?_alloc_at _ _ _ _ rfl);have m0:=hc7 0;have m1:=hc7 1;have m2:=hc7 2;have m3:=hc7 3;have m4:=hc7 4;simp at m0 m1 m2 m3 m4;have hs7:=hb7.size;have hz7:w5.heap.size<w7.heap.size:=by simp at hs7;omega
         have hz8:W2.heap.size<=w7.heap.size:=by omega
         have HBw:Hid (Below w.heap.size w w7):=hb2.trans (HB7.out.mono (by omega));generalize aY vq E0=U1 at*;clear hc7 hb7 hb6 o0 o1 o2 o3 o4 o5 o6 o7 o8 o9 o10 o11 o12 o13 hs7
         by_cases hVU:V=U1
         ·subst hVU;go_wp2
          go_roundw
          case rel=>exact⟨t+1,by omega,by go_num,HB7.out.alloc hz8 _⟩
          case measure=>simp[intOf];omega
         ·have hz9:w.heap.size<=w7.heap.size:=HBw.out.size;have HVU:=aA hVU;clear hVU;go_wp2
          all_goals first|(go_ret;exact⟨_,rfl,HBw.out.alloc hz9 _⟩)|(exfalso;apply HVU.out;cases V;cases U1;simp_all)
       ·have htl2:decide ((t:Int)<(vs.length:Int)+(vq.length:Int))=false:=by simp;omega
        have u2:wr.cell? ⟨w.heap.size,2,Z⟩=Y (J a3 bs.length c3):=by simp[World.cell?,hAr]
        have x2:wr.cell? ⟨w.heap.size+1,2,Z⟩=Y (J b3 bq.length d3):=by simp[World.cell?,hBr]
        have HB1r:=aA (HB1.out.later hbw);have HB2r:=aA (HB2.out.later hbw);have HBW:=aA hbw;clear hXr hYr hAr hBr hbw HV1r HV2r hX2 hY2 hA2 hB2 hb2 HV1 HV2 HB1 HB2;go_wp2;have HBWr:=HBW.out
        go_loopw [12] (fun i wq=>∃t m:Nat,t<=bs.length/\i=I T t/\wq=wr.drewN m) (fun i _=>bs.length - (intOf i).toNat)
        case atStart=>exact⟨0,0,by omega,rfl,rfl⟩
        case round=>
         obtain⟨t',m,ht',rfl,rfl⟩:=hrel
         by_cases htb:t'<bs.length
         ·have htq:t'<bq.length:=by rw[←HBB.out];exact htb
          obtain⟨g,cg,he,hg,hcc⟩:=aP.at HB1r.out (by omega);cases he;obtain⟨k,ck,he,hk,hdd⟩:=aP.at HB2r.out (by omega);cases he;have j0:=hcc t' (Value.int .i64 bs[t']) (by simp[htb]);have k0:=hdd t' (Value.int .i64 bq[t']) (by simp[htq]);have htb2:(t':Int)<(bs.length:Int):=by omega
          have htq2:(t':Int)<(bq.length:Int):=by omega
          clear hcc hdd HB1r HB2r HBB;generalize bs[t']=x at*;generalize bq[t']=y at*
          by_cases hxy:x=y
          ·subst hxy;go_wp2
           go_quiet (fail)
           go_wp2
           go_roundw
           case rel=>exact⟨t'+1,_,by omega,by go_num,rfl⟩
           case measure=>simp[intOf];omega
          ·have hxy2:(x != y)=true:=by simpa using hxy
           go_wp2
           go_quiet (fail)
           go_wp2;go_ret
           exact⟨_,rfl,below_drewN (below_drewN HBWr _) _⟩
         ·go_wp2;go_ret
          exact⟨_,rfl,below_drewN HBWr _⟩
   ·have q3':((rs.length:Int) != (rq.length:Int))=true:=by simp;omega
    clear hr1 hv1 hb1 hr2 hv2 hb2;go_enter Tryz.func123,Tryz.ntmps123;go_wp2;go_ret;exact⟨_,rfl,hb0⟩
  ·have q2':(l1 != l2)=true:=by simpa using q2
   clear hr1 hv1 hb1 hr2 hv2 hb2;go_enter Tryz.func123,Tryz.ntmps123;go_wp2;go_ret;exact⟨_,rfl,hb0⟩
 ·have q1':(s1 != s2)=true:=by simpa using q1
  clear hr1 hv1 hb1 hr2 hv2 hb2;go_enter Tryz.func123,Tryz.ntmps123;go_wp2;go_ret;exact⟨_,rfl,hb0⟩
structure eO where
 dst:Int
 bs:List UInt8
def eO.cells(p:eO):List Value:=[I T p.dst,.string (aC p.bs)]
theorem uJ(p:eO):(eO.cells p).length=2:=rfl
theorem uP(ps:List dM)(ds:List eO)(va vb:Value)(w:World)(ha:aP w va ps.length (ps.flatMap dM.cells))(hb:aP w vb ds.length (ds.flatMap eO.cells))(hlen:ps.length=ds.length)(hlt:ps.length<=100000000)(hsame:∀j (h:j<ps.length) (h':j<ds.length),ps[j].dst=ds[j].dst/\bytesAt w ps[j].d ds[j].bs):
  Calls pG 122 #[va,vb] w fun e w'=>e=.returned (.bool true)/\Below w.heap.size w w':=by
 obtain⟨a1,c1,h1⟩:=ha.shape;subst h1;obtain⟨a2,c2,h2⟩:=hb.shape;subst h2;rw[←hlen];have HA:=aA ha;have HB:Hid (aP w (J a2 ps.length c2) ds.length (ds.flatMap eO.cells)):=by rw[hlen];exact hb
 have HS:Hid _:=hsame;have HL:=aA hlen;clear ha hb hsame hlen;go_enter Tryz.func122,Tryz.ntmps122;go_wp2
 go_loopw [5] (fun i wr=>∃t m:Nat,t<=ps.length/\i=I T t/\wr=w.drewN m) (fun i _=>ps.length - (intOf i).toNat)
 case atStart=>exact⟨0,0,by omega,rfl,rfl⟩
 case round=>
  obtain⟨t,m,ht,rfl,rfl⟩:=hrel
  by_cases htl:t<ps.length
  ·have htd:t<ds.length:=by rw[←HL.out];exact htl
   obtain⟨g,cg,he,hg,hcc⟩:=aP.at HA.out (by omega);cases he;obtain⟨k,ck,he,hk,hdd⟩:=aP.at HB.out (by omega)
   injection he with he1 he2 he3
   subst he1;obtain⟨hs1,hs2⟩:=HS.out t htl htd;have j0:=hcc _ _ (mO ps t htl 0 (by omega));have j1:=hcc _ _ (mO ps t htl 1 (by omega));have k0:=hdd _ _ (cO eO.cells 2 uJ ds t htd 0 (by omega));have k1:=hdd _ _ (cO eO.cells 2 uJ ds t htd 1 (by omega));simp[dM.cells,eO.cells]at j0 j1 k0 k1;rw[hs1]at j0;have htl2:(t:Int)<(ps.length:Int):=by omega
   have hcv:∀q,(convert 148 9 ps[t].d).run pG (w.drewN q)=.ok (.string (aC ds[t].bs)) (w.drewN q):=fun q=>kO (w:=w.drewN q) hs2;have hq:((aC ds[t].bs).toList==(aC ds[t].bs).toList)=true:=by simp
   clear hcc hdd HA HB HS hs1 hs2;generalize ps[t].d=D at*;generalize ds[t].dst=T1 at*;generalize aC ds[t].bs=S at*;go_wp2
   go_quiet (fail)
   go_wp2
   go_roundw
   case rel=>exact⟨t+1,_,by omega,by go_num,rfl⟩
   case measure=>simp[intOf];omega
  ·go_wp2;go_ret
   exact⟨rfl,below_drewN (Below.refl _ _) _⟩
theorem tY(w:World)(R:Nat)(x0 x1 x2 x3 x4 x5 x6 x7 x8 x9 x10 x11 x12 x13:Value)(hs:∀i,i<14->(w.cell? ⟨R,i,Z⟩).isSome=true):
  ∃W,((((((((((((((w.setCell ⟨R,0,Z⟩ x0).setCell ⟨R,1,Z⟩ x1).setCell ⟨R,2,Z⟩ x2).setCell ⟨R,3,Z⟩ x3).setCell ⟨R,4,Z⟩ x4).setCell ⟨R,5,Z⟩ x5).setCell ⟨R,6,Z⟩ x6).setCell ⟨R,7,Z⟩ x7).setCell ⟨R,8,Z⟩ x8).setCell ⟨R,9,Z⟩ x9).setCell ⟨R,10,Z⟩ x10).setCell ⟨R,11,Z⟩ x11).setCell ⟨R,12,Z⟩ x12).setCell ⟨R,13,Z⟩ x13)=W/\(W.cell? ⟨R,0,Z⟩=Y x0/\W.cell? ⟨R,1,Z⟩=Y x1/\W.cell? ⟨R,2,Z⟩=Y x2/\W.cell? ⟨R,3,Z⟩=Y x3/\W.cell? ⟨R,4,Z⟩=Y x4/\W.cell? ⟨R,5,Z⟩=Y x5/\W.cell? ⟨R,6,Z⟩=Y x6/\W.cell? ⟨R,7,Z⟩=Y x7/\W.cell? ⟨R,8,Z⟩=Y x8/\W.cell? ⟨R,9,Z⟩=Y x9/\W.cell? ⟨R,10,Z⟩=Y x10/\W.cell? ⟨R,11,Z⟩=Y x11/\W.cell? ⟨R,12,Z⟩=Y x12/\W.cell? ⟨R,13,Z⟩=Y x13)/\aD R w W:=by
 refine⟨_,rfl,?_,?_⟩
 ·have hin:=World.cell?_setCells_in R [x0,x1,x2,x3,x4,x5,x6,x7,x8,x9,x10,x11,x12,x13] 0 w (fun j hj=>by rw[Nat.zero_add];exact hs j hj);exact⟨hin 0 (by simp),hin 1 (by simp),hin 2 (by simp),hin 3 (by simp),hin 4 (by simp),hin 5 (by simp),hin 6 (by simp),hin 7 (by simp),hin 8 (by simp),hin 9 (by simp),hin 10 (by simp),hin 11 (by simp),hin 12 (by simp),hin 13 (by simp)⟩
 ·exact(((((((((((((((aD.self2 R w).set2 _ _).set2 _ _).set2 _ _).set2 _ _).set2 _ _).set2 _ _).set2 _ _).set2 _ _).set2 _ _).set2 _ _).set2 _ _).set2 _ _).set2 _ _).set2 _ _)
theorem FN:(Tryz.prog.info? 314).map (fun i=>(i.zero,i.size,i.bytes))=Y (Y (.agg #[I T 0,I T 0,I T 0,I T 0]),4,32):=by kernel_rfl
theorem sM(n:RN)(vr vv vb:Value)(w:World)(hr:aP w vr n.recs.length (n.recs.flatMap aM.cells))(hv:aP w vv n.votes.length (n.votes.flatMap aS.cells))(hb:aP w vb n.blocks.length (n.blocks.map (Value.int .i64)))(l1:n.recs.length<=100000000)(l2:n.votes.length<=100000000)(l3:n.blocks.length<=100000000):
  Calls pG 115 #[.agg #[I T n.id,I T n.nodes,vr,vv,vb,I T n.seen,I T n.last,.bool n.act,J Z 0 0,J Z 0 0,I T n.ops,J Z 0 0,.bool false,J Z 0 0]] w fun e w'=>∃vr' vv' vb',e=.returned (.agg #[I T n.id,I T n.nodes,vr',vv',vb',I T n.seen,I T n.last,.bool n.act,J Z 0 0,J Z 0 0,I T n.ops,J Z 0 0,.bool false,J Z 0 0])/\w'.ownsRow w.heap.size 66 3 vr' n.recs.length (n.recs.flatMap aM.cells)/\w'.ownsRow w.heap.size 275 5 vv' n.votes.length (n.votes.flatMap aS.cells)/\w'.ownsRow w.heap.size 3 1 vb' n.blocks.length (n.blocks.map (Value.int .i64))/\Below w.heap.size w w':=by
 obtain⟨i249,hi249,_,_,_⟩:=info_parts FN;obtain⟨i189,hi189,_,_,_⟩:=info_parts tA;obtain⟨ar,cr,hvr⟩:=hr.shape;subst hvr;obtain⟨av,cv,hvv⟩:=hv.shape;subst hvv;obtain⟨ab,cb,hvb⟩:=hb.shape;subst hvb;have hb0:=(((Below.refl w.heap.size w).alloc (Nat.le_refl _) (G #[I T n.id,I T n.nodes,J ar n.recs.length cr,J av n.votes.length cv,J ab n.blocks.length cb,I T n.seen,I T n.last,bool n.act,J Z 0 0,J Z 0 0,I T n.ops,J Z 0 0,bool false,J Z 0 0] 225)).alloc (by simp) (G #[I T 0,I T 0,J Z 0 0,J Z 0 0,J Z 0 0,I T 0,I T 0,bool false,J Z 0 0,J Z 0 0,I T 0,J Z 0 0,bool false,J Z 0 0] 225)).alloc (by simp;omega) (G #[I T n.id,I T n.nodes,J ar n.recs.length cr,J av n.votes.length cv,J ab n.blocks.length cb,I T n.seen,I T n.last,bool n.act,J Z 0 0,J Z 0 0,I T n.ops,J Z 0 0,bool false,J Z 0 0] 225);have HR:=aA (hr.later hb0);have HV:=aA (hv.later hb0);have HBB:=aA (hb.later hb0);have hA0:(((w.alloc (G #[I T n.id,I T n.nodes,J ar n.recs.length cr,J av n.votes.length cv,J ab n.blocks.length cb,I T n.seen,I T n.last,bool n.act,J Z 0 0,J Z 0 0,I T n.ops,J Z 0 0,bool false,J Z 0 0] 225)).alloc (G #[I T 0,I T 0,J Z 0 0,J Z 0 0,J Z 0 0,I T 0,I T 0,bool false,J Z 0 0,J Z 0 0,I T 0,J Z 0 0,bool false,J Z 0 0] 225)).alloc (G #[I T n.id,I T n.nodes,J ar n.recs.length cr,J av n.votes.length cv,J ab n.blocks.length cb,I T n.seen,I T n.last,bool n.act,J Z 0 0,J Z 0 0,I T n.ops,J Z 0 0,bool false,J Z 0 0] 225)).heap[w.heap.size]?=Y (G #[I T n.id,I T n.nodes,J ar n.recs.length cr,J av n.votes.length cv,J ab n.blocks.length cb,I T n.seen,I T n.last,bool n.act,J Z 0 0,J Z 0 0,I T n.ops,J Z 0 0,bool false,J Z 0 0] 225 (0,0)):=(heap_alloc_old _ _ (by simp;omega)).trans ((heap_alloc_old _ _ (by simp)).trans (heap_alloc_new _ _));have hD0:(((w.alloc (G #[I T n.id,I T n.nodes,J ar n.recs.length cr,J av n.votes.length cv,J ab n.blocks.length cb,I T n.seen,I T n.last,bool n.act,J Z 0 0,J Z 0 0,I T n.ops,J Z 0 0,bool false,J Z 0 0] 225)).alloc (G #[I T 0,I T 0,J Z 0 0,J Z 0 0,J Z 0 0,I T 0,I T 0,bool false,J Z 0 0,J Z 0 0,I T 0,J Z 0 0,bool false,J Z 0 0] 225)).alloc (G #[I T n.id,I T n.nodes,J ar n.recs.length cr,J av n.votes.length cv,J ab n.blocks.length cb,I T n.seen,I T n.last,bool n.act,J Z 0 0,J Z 0 0,I T n.ops,J Z 0 0,bool false,J Z 0 0] 225)).heap[w.heap.size+1]?=Y (G #[I T 0,I T 0,J Z 0 0,J Z 0 0,J Z 0 0,I T 0,I T 0,bool false,J Z 0 0,J Z 0 0,I T 0,J Z 0 0,bool false,J Z 0 0] 225 (0,0)):=(heap_alloc_old _ _ (by simp)).trans (by have h:=heap_alloc_new (w.alloc (G #[I T n.id,I T n.nodes,J ar n.recs.length cr,J av n.votes.length cv,J ab n.blocks.length cb,I T n.seen,I T n.last,bool n.act,J Z 0 0,J Z 0 0,I T n.ops,J Z 0 0,bool false,J Z 0 0] 225)) (G #[I T 0,I T 0,J Z 0 0,J Z 0 0,J Z 0 0,I T 0,I T 0,bool false,J Z 0 0,J Z 0 0,I T 0,J Z 0 0,bool false,J Z 0 0] 225);simpa using h);have hC0:(((w.alloc (G #[I T n.id,I T n.nodes,J ar n.recs.length cr,J av n.votes.length cv,J ab n.blocks.length cb,I T n.seen,I T n.last,bool n.act,J Z 0 0,J Z 0 0,I T n.ops,J Z 0 0,bool false,J Z 0 0] 225)).alloc (G #[I T 0,I T 0,J Z 0 0,J Z 0 0,J Z 0 0,I T 0,I T 0,bool false,J Z 0 0,J Z 0 0,I T 0,J Z 0 0,bool false,J Z 0 0] 225)).alloc (G #[I T n.id,I T n.nodes,J ar n.recs.length cr,J av n.votes.length cv,J ab n.blocks.length cb,I T n.seen,I T n.last,bool n.act,J Z 0 0,J Z 0 0,I T n.ops,J Z 0 0,bool false,J Z 0 0] 225)).heap[w.heap.size+2]?=Y (G #[I T n.id,I T n.nodes,J ar n.recs.length cr,J av n.votes.length cv,J ab n.blocks.length cb,I T n.seen,I T n.last,bool n.act,J Z 0 0,J Z 0 0,I T n.ops,J Z 0 0,bool false,J Z 0 0] 225 (0,0)):=by have h:=heap_alloc_new ((w.alloc (G #[I T n.id,I T n.nodes,J ar n.recs.length cr,J av n.votes.length cv,J ab n.blocks.length cb,I T n.seen,I T n.last,bool n.act,J Z 0 0,J Z 0 0,I T n.ops,J Z 0 0,bool false,J Z 0 0] 225)).alloc (G #[I T 0,I T 0,J Z 0 0,J Z 0 0,J Z 0 0,I T 0,I T 0,bool false,J Z 0 0,J Z 0 0,I T 0,J Z 0 0,bool false,J Z 0 0] 225)) (G #[I T n.id,I T n.nodes,J ar n.recs.length cr,J av n.votes.length cv,J ab n.blocks.length cb,I T n.seen,I T n.last,bool n.act,J Z 0 0,J Z 0 0,I T n.ops,J Z 0 0,bool false,J Z 0 0] 225);simpa using h
 have hs0:(((w.alloc (G #[I T n.id,I T n.nodes,J ar n.recs.length cr,J av n.votes.length cv,J ab n.blocks.length cb,I T n.seen,I T n.last,bool n.act,J Z 0 0,J Z 0 0,I T n.ops,J Z 0 0,bool false,J Z 0 0] 225)).alloc (G #[I T 0,I T 0,J Z 0 0,J Z 0 0,J Z 0 0,I T 0,I T 0,bool false,J Z 0 0,J Z 0 0,I T 0,J Z 0 0,bool false,J Z 0 0] 225)).alloc (G #[I T n.id,I T n.nodes,J ar n.recs.length cr,J av n.votes.length cv,J ab n.blocks.length cb,I T n.seen,I T n.last,bool n.act,J Z 0 0,J Z 0 0,I T n.ops,J Z 0 0,bool false,J Z 0 0] 225)).heap.size=w.heap.size+3:=by simp
 clear hr hv hb;go_enter Tryz.func115,Tryz.ntmps115
 go_wp2_with fail
 refine(BW n.recs n.votes n.blocks n.seen n.last (J ar n.recs.length cr) (J av n.votes.length cv) (J ab n.blocks.length cb) _ HR.out HV.out HBB.out l1 l2 l3).mono ?_;rintro e w1 ⟨vr',vv',vb',rfl,o1,o2,o3,hb1⟩;rw[hs0]at o1 o2 o3;have hb1':=hb1;rw[hs0]at hb1;have hzz:=hb1'.size;rw[hs0]at hzz;have HO1:Hid (w1.ownsRow w.heap.size 66 3 vr' n.recs.length (n.recs.flatMap aM.cells)):=cM o1 (by omega);have HO2:Hid (w1.ownsRow w.heap.size 275 5 vv' n.votes.length (n.votes.flatMap aS.cells)):=cM o2 (by omega);have HO3:Hid (w1.ownsRow w.heap.size 3 1 vb' n.blocks.length (n.blocks.map (Value.int .i64))):=cM o3 (by omega);obtain⟨a1,c1,h1⟩:=aO o1;subst h1;obtain⟨a2,c2,h2⟩:=aO o2;subst h2;obtain⟨a3,c3,h3⟩:=aO o3;subst h3;have hz:w.heap.size+3<=w1.heap.size:=hzz;have HB1:Hid (Below w.heap.size w w1):=hb0.trans (hb1.mono (by omega));have hA1:w1.heap[w.heap.size]?=Y (G #[I T n.id,I T n.nodes,J ar n.recs.length cr,J av n.votes.length cv,J ab n.blocks.length cb,I T n.seen,I T n.last,bool n.act,J Z 0 0,J Z 0 0,I T n.ops,J Z 0 0,bool false,J Z 0 0] 225 (0,0)):=(hb1.block _ (by omega)).trans hA0;have hD1:w1.heap[w.heap.size+1]?=Y (G #[I T 0,I T 0,J Z 0 0,J Z 0 0,J Z 0 0,I T 0,I T 0,bool false,J Z 0 0,J Z 0 0,I T 0,J Z 0 0,bool false,J Z 0 0] 225 (0,0)):=(hb1.block _ (by omega)).trans hD0;have hC1:w1.heap[w.heap.size+2]?=Y (G #[I T n.id,I T n.nodes,J ar n.recs.length cr,J av n.votes.length cv,J ab n.blocks.length cb,I T n.seen,I T n.last,bool n.act,J Z 0 0,J Z 0 0,I T n.ops,J Z 0 0,bool false,J Z 0 0] 225 (0,0)):=(hb1.block _ (by omega)).trans hC0;have HD1:Hid _:=hD1;have HC1:Hid _:=hC1;have x2:w1.cell? ⟨w.heap.size+2,2,Z⟩=Y (J ar n.recs.length cr):=by simp[World.cell?,hC1]
 have y2:w1.frozen? ⟨w.heap.size+2,2,Z⟩=false:=by simp[World.frozen?,hC1]
 have x3:w1.cell? ⟨w.heap.size+2,3,Z⟩=Y (J av n.votes.length cv):=by simp[World.cell?,hC1]
 have y3:w1.frozen? ⟨w.heap.size+2,3,Z⟩=false:=by simp[World.frozen?,hC1]
 have x4:w1.cell? ⟨w.heap.size+2,4,Z⟩=Y (J ab n.blocks.length cb):=by simp[World.cell?,hC1]
 have y4:w1.frozen? ⟨w.heap.size+2,4,Z⟩=false:=by simp[World.frozen?,hC1]
 have x5:w1.cell? ⟨w.heap.size+2,5,Z⟩=Y (I T n.seen):=by simp[World.cell?,hC1]
 have y5:w1.frozen? ⟨w.heap.size+2,5,Z⟩=false:=by simp[World.frozen?,hC1]
 have x6:w1.cell? ⟨w.heap.size+2,6,Z⟩=Y (I T n.last):=by simp[World.cell?,hC1]
 have y6:w1.frozen? ⟨w.heap.size+2,6,Z⟩=false:=by simp[World.frozen?,hC1]
 have x8:w1.cell? ⟨w.heap.size+2,8,Z⟩=Y (J Z 0 0):=by simp[World.cell?,hC1]
 have y8:w1.frozen? ⟨w.heap.size+2,8,Z⟩=false:=by simp[World.frozen?,hC1]
 have HA1:=aA hA1;have HZ:=aA hz;clear hb0 hb1 hA0 hD0 hC0 hs0 hA1 hD1 hC1 HR HV HBB o1 o2 o3 hz hzz hb1';go_wp2;have hC2:((((((w1.setCell ⟨w.heap.size+1+1,2,Z⟩ (J a1 n.recs.length c1)).setCell ⟨w.heap.size+1+1,3,Z⟩ (J a2 n.votes.length c2)).setCell ⟨w.heap.size+1+1,4,Z⟩ (J a3 n.blocks.length c3)).setCell ⟨w.heap.size+1+1,5,Z⟩ (I T n.seen)).setCell ⟨w.heap.size+1+1,6,Z⟩ (I T n.last)).setCell ⟨w.heap.size+1+1,8,Z⟩ (J Z 0 0)).heap[w.heap.size+2]?=Y (G #[I T n.id,I T n.nodes,J a1 n.recs.length c1,J a2 n.votes.length c2,J a3 n.blocks.length c3,I T n.seen,I T n.last,bool n.act,J Z 0 0,J Z 0 0,I T n.ops,J Z 0 0,bool false,J Z 0 0] 225 (0,0)):=(gT (gT (gT (gT (gT (gT HC1.out _ _) _ _) _ _) _ _) _ _) _ _).trans rfl;have hU2:aD (w.heap.size+1+1) w1 ((((((w1.setCell ⟨w.heap.size+1+1,2,Z⟩ (J a1 n.recs.length c1)).setCell ⟨w.heap.size+1+1,3,Z⟩ (J a2 n.votes.length c2)).setCell ⟨w.heap.size+1+1,4,Z⟩ (J a3 n.blocks.length c3)).setCell ⟨w.heap.size+1+1,5,Z⟩ (I T n.seen)).setCell ⟨w.heap.size+1+1,6,Z⟩ (I T n.last)).setCell ⟨w.heap.size+1+1,8,Z⟩ (J Z 0 0)):=(((((((aD.self2 (w.heap.size+1+1) w1).set2 _ _).set2 _ _).set2 _ _).set2 _ _).set2 _ _).set2 _ _);generalize ((((((w1.setCell ⟨w.heap.size+1+1,2,Z⟩ (J a1 n.recs.length c1)).setCell ⟨w.heap.size+1+1,3,Z⟩ (J a2 n.votes.length c2)).setCell ⟨w.heap.size+1+1,4,Z⟩ (J a3 n.blocks.length c3)).setCell ⟨w.heap.size+1+1,5,Z⟩ (I T n.seen)).setCell ⟨w.heap.size+1+1,6,Z⟩ (I T n.last)).setCell ⟨w.heap.size+1+1,8,Z⟩ (J Z 0 0))=w2 at*;have hA2:w2.heap[w.heap.size]?=Y (G #[I T n.id,I T n.nodes,J ar n.recs.length cr,J av n.votes.length cv,J ab n.blocks.length cb,I T n.seen,I T n.last,bool n.act,J Z 0 0,J Z 0 0,I T n.ops,J Z 0 0,bool false,J Z 0 0] 225 (0,0)):=(hU2.block _ (by omega)).trans HA1.out;have hD2:w2.heap[w.heap.size+1]?=Y (G #[I T 0,I T 0,J Z 0 0,J Z 0 0,J Z 0 0,I T 0,I T 0,bool false,J Z 0 0,J Z 0 0,I T 0,J Z 0 0,bool false,J Z 0 0] 225 (0,0)):=(hU2.block _ (by omega)).trans HD1.out;have HO1:Hid (w2.ownsRow w.heap.size 66 3 (J a1 n.recs.length c1) n.recs.length (n.recs.flatMap aM.cells)):=aH HO1.out (fun g hg=>hU2.block g (fun hh=>aW HO1.out HC1.out (by decide) (hh ▸ hg)));have HO2:Hid (w2.ownsRow w.heap.size 275 5 (J a2 n.votes.length c2) n.votes.length (n.votes.flatMap aS.cells)):=aH HO2.out (fun g hg=>hU2.block g (fun hh=>aW HO2.out HC1.out (by decide) (hh ▸ hg)));have HO3:Hid (w2.ownsRow w.heap.size 3 1 (J a3 n.blocks.length c3) n.blocks.length (n.blocks.map (Value.int .i64))):=aH HO3.out (fun g hg=>hU2.block g (fun hh=>aW HO3.out HC1.out (by decide) (hh ▸ hg)));have HB2:Hid (Below w.heap.size w w2):=HB1.out.trans (hU2.below (by omega));have HC2:=aA hC2;have HD2:=aA hD2;have p8:w2.cell? ⟨w.heap.size,8,Z⟩=Y (J Z 0 0):=by simp[World.cell?,hA2]
 have p9:w2.cell? ⟨w.heap.size,9,Z⟩=Y (J Z 0 0):=by simp[World.cell?,hA2]
 have p11:w2.cell? ⟨w.heap.size,11,Z⟩=Y (J Z 0 0):=by simp[World.cell?,hA2]
 have p13:w2.cell? ⟨w.heap.size,13,Z⟩=Y (J Z 0 0):=by simp[World.cell?,hA2]
 have x0:w2.cell? ⟨w.heap.size+2,0,Z⟩=Y (I T n.id):=by simp[World.cell?,hC2]
 have x1:w2.cell? ⟨w.heap.size+2,1,Z⟩=Y (I T n.nodes):=by simp[World.cell?,hC2]
 have x2:w2.cell? ⟨w.heap.size+2,2,Z⟩=Y (J a1 n.recs.length c1):=by simp[World.cell?,hC2]
 have x3:w2.cell? ⟨w.heap.size+2,3,Z⟩=Y (J a2 n.votes.length c2):=by simp[World.cell?,hC2]
 have x4:w2.cell? ⟨w.heap.size+2,4,Z⟩=Y (J a3 n.blocks.length c3):=by simp[World.cell?,hC2]
 have x5:w2.cell? ⟨w.heap.size+2,5,Z⟩=Y (I T n.seen):=by simp[World.cell?,hC2]
 have x6:w2.cell? ⟨w.heap.size+2,6,Z⟩=Y (I T n.last):=by simp[World.cell?,hC2]
 have x7:w2.cell? ⟨w.heap.size+2,7,Z⟩=Y (bool n.act):=by simp[World.cell?,hC2]
 have x8:w2.cell? ⟨w.heap.size+2,8,Z⟩=Y (J Z 0 0):=by simp[World.cell?,hC2]
 have x9:w2.cell? ⟨w.heap.size+2,9,Z⟩=Y (J Z 0 0):=by simp[World.cell?,hC2]
 have x10:w2.cell? ⟨w.heap.size+2,10,Z⟩=Y (I T n.ops):=by simp[World.cell?,hC2]
 have x11:w2.cell? ⟨w.heap.size+2,11,Z⟩=Y (J Z 0 0):=by simp[World.cell?,hC2]
 have x12:w2.cell? ⟨w.heap.size+2,12,Z⟩=Y (bool false):=by simp[World.cell?,hC2]
 have x13:w2.cell? ⟨w.heap.size+2,13,Z⟩=Y (J Z 0 0):=by simp[World.cell?,hC2]
 have y9:w2.frozen? ⟨w.heap.size+2,9,Z⟩=false:=by simp[World.frozen?,hC2]
 have y11:w2.frozen? ⟨w.heap.size+2,11,Z⟩=false:=by simp[World.frozen?,hC2]
 have y13:w2.frozen? ⟨w.heap.size+2,13,Z⟩=false:=by simp[World.frozen?,hC2]
 have HA2:=aA hA2;clear hC2 hD2 hA2 hU2 HA1 HB1 HC1 HD1 HZ;refine wp_loop_rounds 1 ?_;rw[rounds_succ];go_wp2;have hC3:(((((w2.setCell ⟨w.heap.size+1+1,9,Z⟩ (J Z 0 0)).setCell ⟨w.heap.size+1+1,9,Z⟩ (J Z 0 0)).setCell ⟨w.heap.size+1+1,11,Z⟩ (J Z 0 0)).setCell ⟨w.heap.size+1+1,11,Z⟩ (J Z 0 0)).setCell ⟨w.heap.size+1+1,13,Z⟩ (J Z 0 0)).heap[w.heap.size+2]?=Y (G #[I T n.id,I T n.nodes,J a1 n.recs.length c1,J a2 n.votes.length c2,J a3 n.blocks.length c3,I T n.seen,I T n.last,bool n.act,J Z 0 0,J Z 0 0,I T n.ops,J Z 0 0,bool false,J Z 0 0] 225 (0,0)):=(gT (gT (gT (gT (gT HC2.out _ _) _ _) _ _) _ _) _ _).trans rfl;have hU3:aD (w.heap.size+1+1) w2 (((((w2.setCell ⟨w.heap.size+1+1,9,Z⟩ (J Z 0 0)).setCell ⟨w.heap.size+1+1,9,Z⟩ (J Z 0 0)).setCell ⟨w.heap.size+1+1,11,Z⟩ (J Z 0 0)).setCell ⟨w.heap.size+1+1,11,Z⟩ (J Z 0 0)).setCell ⟨w.heap.size+1+1,13,Z⟩ (J Z 0 0)):=((((((aD.self2 (w.heap.size+1+1) w2).set2 _ _).set2 _ _).set2 _ _).set2 _ _).set2 _ _);generalize (((((w2.setCell ⟨w.heap.size+1+1,9,Z⟩ (J Z 0 0)).setCell ⟨w.heap.size+1+1,9,Z⟩ (J Z 0 0)).setCell ⟨w.heap.size+1+1,11,Z⟩ (J Z 0 0)).setCell ⟨w.heap.size+1+1,11,Z⟩ (J Z 0 0)).setCell ⟨w.heap.size+1+1,13,Z⟩ (J Z 0 0))=w3 at*;have hA3:w3.heap[w.heap.size]?=Y (G #[I T n.id,I T n.nodes,J ar n.recs.length cr,J av n.votes.length cv,J ab n.blocks.length cb,I T n.seen,I T n.last,bool n.act,J Z 0 0,J Z 0 0,I T n.ops,J Z 0 0,bool false,J Z 0 0] 225 (0,0)):=(hU3.block _ (by omega)).trans HA2.out;have hD3:w3.heap[w.heap.size+1]?=Y (G #[I T 0,I T 0,J Z 0 0,J Z 0 0,J Z 0 0,I T 0,I T 0,bool false,J Z 0 0,J Z 0 0,I T 0,J Z 0 0,bool false,J Z 0 0] 225 (0,0)):=(hU3.block _ (by omega)).trans HD2.out;have HO1:Hid (w3.ownsRow w.heap.size 66 3 (J a1 n.recs.length c1) n.recs.length (n.recs.flatMap aM.cells)):=aH HO1.out (fun g hg=>hU3.block g (fun hh=>aW HO1.out HC2.out (by decide) (hh ▸ hg)));have HO2:Hid (w3.ownsRow w.heap.size 275 5 (J a2 n.votes.length c2) n.votes.length (n.votes.flatMap aS.cells)):=aH HO2.out (fun g hg=>hU3.block g (fun hh=>aW HO2.out HC2.out (by decide) (hh ▸ hg)));have HO3:Hid (w3.ownsRow w.heap.size 3 1 (J a3 n.blocks.length c3) n.blocks.length (n.blocks.map (Value.int .i64))):=aH HO3.out (fun g hg=>hU3.block g (fun hh=>aW HO3.out HC2.out (by decide) (hh ▸ hg)));have HB3:Hid (Below w.heap.size w w3):=HB2.out.trans (hU3.below (by omega));have HD3:=aA hD3;clear p8 p9 p11 p13 x0 x1 x2 x3 x4 x5 x6 x7 x8 x9 x10 x11 x12 x13 y9 y11 y13 HC2 HD2 HA2 HB2 hU3;have p13:w3.cell? ⟨w.heap.size,13,Z⟩=Y (J Z 0 0):=by simp[World.cell?,hA3]
 have x0:w3.cell? ⟨w.heap.size+2,0,Z⟩=Y (I T n.id):=by simp[World.cell?,hC3]
 have d0:w3.cell? ⟨w.heap.size+1,0,Z⟩=Y (I T 0):=by simp[World.cell?,hD3]
 have e0:w3.frozen? ⟨w.heap.size+1,0,Z⟩=false:=by simp[World.frozen?,hD3]
 have x1:w3.cell? ⟨w.heap.size+2,1,Z⟩=Y (I T n.nodes):=by simp[World.cell?,hC3]
 have d1:w3.cell? ⟨w.heap.size+1,1,Z⟩=Y (I T 0):=by simp[World.cell?,hD3]
 have e1:w3.frozen? ⟨w.heap.size+1,1,Z⟩=false:=by simp[World.frozen?,hD3]
 have x2:w3.cell? ⟨w.heap.size+2,2,Z⟩=Y (J a1 n.recs.length c1):=by simp[World.cell?,hC3]
 have d2:w3.cell? ⟨w.heap.size+1,2,Z⟩=Y (J Z 0 0):=by simp[World.cell?,hD3]
 have e2:w3.frozen? ⟨w.heap.size+1,2,Z⟩=false:=by simp[World.frozen?,hD3]
 have x3:w3.cell? ⟨w.heap.size+2,3,Z⟩=Y (J a2 n.votes.length c2):=by simp[World.cell?,hC3]
 have d3:w3.cell? ⟨w.heap.size+1,3,Z⟩=Y (J Z 0 0):=by simp[World.cell?,hD3]
 have e3:w3.frozen? ⟨w.heap.size+1,3,Z⟩=false:=by simp[World.frozen?,hD3]
 have x4:w3.cell? ⟨w.heap.size+2,4,Z⟩=Y (J a3 n.blocks.length c3):=by simp[World.cell?,hC3]
 have d4:w3.cell? ⟨w.heap.size+1,4,Z⟩=Y (J Z 0 0):=by simp[World.cell?,hD3]
 have e4:w3.frozen? ⟨w.heap.size+1,4,Z⟩=false:=by simp[World.frozen?,hD3]
 have x5:w3.cell? ⟨w.heap.size+2,5,Z⟩=Y (I T n.seen):=by simp[World.cell?,hC3]
 have d5:w3.cell? ⟨w.heap.size+1,5,Z⟩=Y (I T 0):=by simp[World.cell?,hD3]
 have e5:w3.frozen? ⟨w.heap.size+1,5,Z⟩=false:=by simp[World.frozen?,hD3]
 have x6:w3.cell? ⟨w.heap.size+2,6,Z⟩=Y (I T n.last):=by simp[World.cell?,hC3]
 have d6:w3.cell? ⟨w.heap.size+1,6,Z⟩=Y (I T 0):=by simp[World.cell?,hD3]
 have e6:w3.frozen? ⟨w.heap.size+1,6,Z⟩=false:=by simp[World.frozen?,hD3]
 have x7:w3.cell? ⟨w.heap.size+2,7,Z⟩=Y (bool n.act):=by simp[World.cell?,hC3]
 have d7:w3.cell? ⟨w.heap.size+1,7,Z⟩=Y (bool false):=by simp[World.cell?,hD3]
 have e7:w3.frozen? ⟨w.heap.size+1,7,Z⟩=false:=by simp[World.frozen?,hD3]
 have x8:w3.cell? ⟨w.heap.size+2,8,Z⟩=Y (J Z 0 0):=by simp[World.cell?,hC3]
 have d8:w3.cell? ⟨w.heap.size+1,8,Z⟩=Y (J Z 0 0):=by simp[World.cell?,hD3]
 have e8:w3.frozen? ⟨w.heap.size+1,8,Z⟩=false:=by simp[World.frozen?,hD3]
 have x9:w3.cell? ⟨w.heap.size+2,9,Z⟩=Y (J Z 0 0):=by simp[World.cell?,hC3]
 have d9:w3.cell? ⟨w.heap.size+1,9,Z⟩=Y (J Z 0 0):=by simp[World.cell?,hD3]
 have e9:w3.frozen? ⟨w.heap.size+1,9,Z⟩=false:=by simp[World.frozen?,hD3]
 have x10:w3.cell? ⟨w.heap.size+2,10,Z⟩=Y (I T n.ops):=by simp[World.cell?,hC3]
 have d10:w3.cell? ⟨w.heap.size+1,10,Z⟩=Y (I T 0):=by simp[World.cell?,hD3]
 have e10:w3.frozen? ⟨w.heap.size+1,10,Z⟩=false:=by simp[World.frozen?,hD3]
 have x11:w3.cell? ⟨w.heap.size+2,11,Z⟩=Y (J Z 0 0):=by simp[World.cell?,hC3]
 have d11:w3.cell? ⟨w.heap.size+1,11,Z⟩=Y (J Z 0 0):=by simp[World.cell?,hD3]
 have e11:w3.frozen? ⟨w.heap.size+1,11,Z⟩=false:=by simp[World.frozen?,hD3]
 have x12:w3.cell? ⟨w.heap.size+2,12,Z⟩=Y (bool false):=by simp[World.cell?,hC3]
 have d12:w3.cell? ⟨w.heap.size+1,12,Z⟩=Y (bool false):=by simp[World.cell?,hD3]
 have e12:w3.frozen? ⟨w.heap.size+1,12,Z⟩=false:=by simp[World.frozen?,hD3]
 have x13:w3.cell? ⟨w.heap.size+2,13,Z⟩=Y (J Z 0 0):=by simp[World.cell?,hC3]
 have d13:w3.cell? ⟨w.heap.size+1,13,Z⟩=Y (J Z 0 0):=by simp[World.cell?,hD3]
 have e13:w3.frozen? ⟨w.heap.size+1,13,Z⟩=false:=by simp[World.frozen?,hD3]
 have hsome:∀i,i<14->(w3.cell? ⟨w.heap.size+1,i,Z⟩).isSome=true:=by
  intro i hi;simp only[World.cell?,hD3];rcases(show i=0∨i=1∨i=2∨i=3∨i=4∨i=5∨i=6∨i=7∨i=8∨i=9∨i=10∨i=11∨i=12∨i=13 by omega) with rfl|rfl|rfl|rfl|rfl|rfl|rfl|rfl|rfl|rfl|rfl|rfl|rfl|rfl<;>rfl
 clear hC3 hD3 hA3;refine wp_loop_rounds 1 ?_;rw[rounds_succ];go_wp2;obtain⟨w4,hw4,hcs,hU4⟩:=tY w3 (w.heap.size+1) (I T n.id) (I T n.nodes) (J a1 n.recs.length c1) (J a2 n.votes.length c2) (J a3 n.blocks.length c3) (I T n.seen) (I T n.last) (bool n.act) (J Z 0 0) (J Z 0 0) (I T n.ops) (J Z 0 0) (bool false) (J Z 0 0) hsome;rw[hw4];clear x0 d0 e0 x1 d1 e1 x2 d2 e2 x3 d3 e3 x4 d4 e4 x5 d5 e5 x6 d6 e6 x7 d7 e7 x8 d8 e8 x9 d9 e9 x10 d10 e10 x11 d11 e11 x12 d12 e12 x13 d13 e13 hw4;obtain⟨d0,d1,d2,d3,d4,d5,d6,d7,d8,d9,d10,d11,d12,d13⟩:=hcs;exact bodyPost_ret (v:=.agg #[I T n.id,I T n.nodes,J a1 n.recs.length c1,J a2 n.votes.length c2,J a3 n.blocks.length c3,I T n.seen,I T n.last,.bool n.act,J Z 0 0,J Z 0 0,I T n.ops,J Z 0 0,.bool false,J Z 0 0]) (by simp[results,Tryz.results115,go_sem,d0,d1,d2,d3,d4,d5,d6,d7,d8,d9,d10,d11,d12,d13]) rfl ⟨_,_,_,rfl,aH HO1.out (fun g hg=>hU4.block g (fun hh=>aW HO1.out HD3.out (by decide) (hh ▸ hg))),aH HO2.out (fun g hg=>hU4.block g (fun hh=>aW HO2.out HD3.out (by decide) (hh ▸ hg))),aH HO3.out (fun g hg=>hU4.block g (fun hh=>aW HO3.out HD3.out (by decide) (hh ▸ hg))),HB3.out.trans (hU4.below (by omega))⟩
theorem DW(id:Int)(nodes blocks:Nat)(w:World)(h1:2<=nodes)(h2:nodes<=5)(h3:1<=blocks)(h4:blocks<=4):
  Calls pG 111 #[I T id,I T (nodes:Int),I T (blocks:Int)] w fun e w'=>∃vr vb,e=.returned (.agg #[I T id,I T (nodes:Int),vr,J Z 0 0,vb,I T 0,I T 0,.bool false,J Z 0 0,J Z 0 0,I T 0,J Z 0 0,.bool false,J Z 0 0])/\w'.ownsRow w.heap.size 66 3 vr 1 [I T 0,I T 0,I T ((2:Int) ^ nodes - 1)]/\w'.ownsRow w.heap.size 3 1 vb blocks ((List.replicate blocks (0:Int)).map (Value.int .i64))/\Below w.heap.size w w':=by
 obtain⟨i3,hi3,z3,s3,b3⟩:=info_parts nB;go_enter Tryz.func111,Tryz.ntmps111;go_wp2
 go_loop [7,8] (fun sx ix=>∃t:Nat,1<=t/\t<=nodes/\ix=I T t/\sx=I T ((2:Int) ^ t - 1)) (fun _ ix=>nodes - (intOf ix).toNat)
 case atStart=>exact⟨1,by omega,by omega,rfl,rfl⟩
 case round=>
  obtain⟨t,ht1,ht2,rfl,rfl⟩:=hrel
  by_cases htl:t<nodes
  ·have htl2:(t:Int)<(nodes:Int):=by omega
   have hp:(2:Int)*(2 ^ t - 1)+1=2 ^ (t+1) - 1:=by rw[Int.pow_succ];omega
   have hbd:(0:Int)<=2 ^ t/\(2:Int) ^ t<=32:=by
    rcases(show t=1∨t=2∨t=3∨t=4 by omega) with rfl|rfl|rfl|rfl<;>decide
   generalize (2:Int) ^ t=P at*;go_wp2
   go_round
   case rel=>exact⟨t+1,by omega,by omega,by go_num,by rw[←hp]⟩
   case measure=>simp[intOf];omega
  ·obtain rfl:nodes=t:=by omega
   clear htl;go_wp2;have hA0:(((w.alloc (G #[I T 0,I T 0,J Z 0 0,J Z 0 0,J Z 0 0,I T 0,I T 0,bool false,J Z 0 0,J Z 0 0,I T 0,J Z 0 0,bool false,J Z 0 0] 225)).alloc (G #[I T 0,I T 0,I T ((2:Int) ^ nodes - 1)] 66)).alloc (G #[J (Y ⟨w.heap.size+1,0,Z⟩) 1 1,J Z 0 0,J Z 0 0,I T 0,I T 0] 220)).heap[w.heap.size]?=Y (G #[I T 0,I T 0,J Z 0 0,J Z 0 0,J Z 0 0,I T 0,I T 0,bool false,J Z 0 0,J Z 0 0,I T 0,J Z 0 0,bool false,J Z 0 0] 225 (0,0)):=(heap_alloc_old _ _ (by simp;omega)).trans ((heap_alloc_old _ _ (by simp)).trans (heap_alloc_new _ _));have hR0:(((w.alloc (G #[I T 0,I T 0,J Z 0 0,J Z 0 0,J Z 0 0,I T 0,I T 0,bool false,J Z 0 0,J Z 0 0,I T 0,J Z 0 0,bool false,J Z 0 0] 225)).alloc (G #[I T 0,I T 0,I T ((2:Int) ^ nodes - 1)] 66)).alloc (G #[J (Y ⟨w.heap.size+1,0,Z⟩) 1 1,J Z 0 0,J Z 0 0,I T 0,I T 0] 220)).heap[w.heap.size+1]?=Y (G #[I T 0,I T 0,I T ((2:Int) ^ nodes - 1)] 66 (0,0)):=(heap_alloc_old _ _ (by simp)).trans (by have h:=heap_alloc_new (w.alloc (G #[I T 0,I T 0,J Z 0 0,J Z 0 0,J Z 0 0,I T 0,I T 0,bool false,J Z 0 0,J Z 0 0,I T 0,J Z 0 0,bool false,J Z 0 0] 225)) (G #[I T 0,I T 0,I T ((2:Int) ^ nodes - 1)] 66);simpa using h);have hK0:(((w.alloc (G #[I T 0,I T 0,J Z 0 0,J Z 0 0,J Z 0 0,I T 0,I T 0,bool false,J Z 0 0,J Z 0 0,I T 0,J Z 0 0,bool false,J Z 0 0] 225)).alloc (G #[I T 0,I T 0,I T ((2:Int) ^ nodes - 1)] 66)).alloc (G #[J (Y ⟨w.heap.size+1,0,Z⟩) 1 1,J Z 0 0,J Z 0 0,I T 0,I T 0] 220)).heap[w.heap.size+2]?=Y (G #[J (Y ⟨w.heap.size+1,0,Z⟩) 1 1,J Z 0 0,J Z 0 0,I T 0,I T 0] 220 (0,0)):=by have h:=heap_alloc_new ((w.alloc (G #[I T 0,I T 0,J Z 0 0,J Z 0 0,J Z 0 0,I T 0,I T 0,bool false,J Z 0 0,J Z 0 0,I T 0,J Z 0 0,bool false,J Z 0 0] 225)).alloc (G #[I T 0,I T 0,I T ((2:Int) ^ nodes - 1)] 66)) (G #[J (Y ⟨w.heap.size+1,0,Z⟩) 1 1,J Z 0 0,J Z 0 0,I T 0,I T 0] 220);simpa using h
   have hb0:Below w.heap.size w (((w.alloc (G #[I T 0,I T 0,J Z 0 0,J Z 0 0,J Z 0 0,I T 0,I T 0,bool false,J Z 0 0,J Z 0 0,I T 0,J Z 0 0,bool false,J Z 0 0] 225)).alloc (G #[I T 0,I T 0,I T ((2:Int) ^ nodes - 1)] 66)).alloc (G #[J (Y ⟨w.heap.size+1,0,Z⟩) 1 1,J Z 0 0,J Z 0 0,I T 0,I T 0] 220)):=(((Below.refl w.heap.size w).alloc (Nat.le_refl _) _).alloc (by simp) _).alloc (by simp;omega) _;have hs0:w.heap.size+3<=(((w.alloc (G #[I T 0,I T 0,J Z 0 0,J Z 0 0,J Z 0 0,I T 0,I T 0,bool false,J Z 0 0,J Z 0 0,I T 0,J Z 0 0,bool false,J Z 0 0] 225)).alloc (G #[I T 0,I T 0,I T ((2:Int) ^ nodes - 1)] 66)).alloc (G #[J (Y ⟨w.heap.size+1,0,Z⟩) 1 1,J Z 0 0,J Z 0 0,I T 0,I T 0] 220)).heap.size:=by simp
   generalize (((w.alloc (G #[I T 0,I T 0,J Z 0 0,J Z 0 0,J Z 0 0,I T 0,I T 0,bool false,J Z 0 0,J Z 0 0,I T 0,J Z 0 0,bool false,J Z 0 0] 225)).alloc (G #[I T 0,I T 0,I T ((2:Int) ^ nodes - 1)] 66)).alloc (G #[J (Y ⟨w.heap.size+1,0,Z⟩) 1 1,J Z 0 0,J Z 0 0,I T 0,I T 0] 220))=W0 at*
   go_loopw [10] (fun ix wr=>∃(t:Nat) (v:Value),t<=blocks/\ix=I T t/\wr.ownsRow (w.heap.size+3) 3 1 v t ((List.replicate t (0:Int)).map (Value.int .i64))/\wr.heap[w.heap.size]?=Y (G #[I T 0,I T 0,J Z 0 0,J Z 0 0,J Z 0 0,I T 0,I T 0,bool false,J Z 0 0,J Z 0 0,I T 0,J Z 0 0,bool false,J Z 0 0] 225 (0,0))/\wr.heap[w.heap.size+1]?=Y (G #[I T 0,I T 0,I T ((2:Int) ^ nodes - 1)] 66 (0,0))/\wr.heap[w.heap.size+2]?=Y (G #[J (Y ⟨w.heap.size+1,0,Z⟩) 1 1,J Z 0 0,v,I T 0,I T 0] 220 (0,0))/\Below w.heap.size w wr/\w.heap.size+3<=wr.heap.size) (fun ix _=>blocks - (intOf ix).toNat)
   case atStart=>exact⟨0,J Z 0 0,by omega,rfl,World.ownsRow_nil _ _ _ _,hA0,hR0,hK0,hb0,hs0⟩
   case round=>
    obtain⟨t,v,ht,rfl,ho,hA,hR,hK,hb,hs⟩:=hrel;obtain⟨va,vc,rfl⟩:=aO ho;have HO:=aA ho;have HA:=aA hA;have HR:=aA hR;have HK:=aA hK;have HB:=aA hb;have x0:wr.cell? ⟨w.heap.size+2,0,Z⟩=Y (J (Y ⟨w.heap.size+1,0,Z⟩) 1 1):=by simp[World.cell?,hK]
    have x1:wr.cell? ⟨w.heap.size+2,1,Z⟩=Y (J Z 0 0):=by simp[World.cell?,hK]
    have x2:wr.cell? ⟨w.heap.size+2,2,Z⟩=Y (J va t vc):=by simp[World.cell?,hK]
    have x3:wr.cell? ⟨w.heap.size+2,3,Z⟩=Y (I T 0):=by simp[World.cell?,hK]
    have x4:wr.cell? ⟨w.heap.size+2,4,Z⟩=Y (I T 0):=by simp[World.cell?,hK]
    have y2:wr.frozen? ⟨w.heap.size+2,2,Z⟩=false:=by simp[World.frozen?,hK]
    clear ho hA hR hK hb
    by_cases htl:t<blocks
    ·have htl2:(t:Int)<(blocks:Int):=by omega
     go_wp2_with(at_builtin;go_loud (refine wpList_append_own _ rfl _ _ 59 rfl (w.heap.size+3) 3 i3 (I T 0) 1 8 Tryz.underlying59 hi3 z3 s3 b3 rfl (by decide) _ t ((List.replicate t (0:Int)).map (Value.int .i64)) rfl (World.ownsRow.alloc HO.out _) ⟨wr.heap.size,0,Z⟩ 1 1 [I T 0] rfl rfl ?c1 ?c2 ?c3 ?c4 ?c5 ?_))
     case c1=>
      intro j u hu;rw[Go.WideShapes.add_plain];refine(World.cell?_alloc_at _ _ _ _ (by rfl)).trans ?_
      simpa using hu
     case c2=>intro u hu;simp at hu;subst hu;rfl
     case c3=>unfold maxLen;omega
     case c4=>omega
     case c5=>simp;omega
     intro v' w9 ho' hg' _;obtain⟨xa,xc,rfl⟩:=aO ho';have hoff:∀k,k<w.heap.size+3->some k≠Value.ownBlock (J va t vc):=fun k hk hh=>by have:=(World.ownsRow.lt HO.out k hh.symm).1;omega
     have hk9:∀k,k<w.heap.size+3->w9.heap[k]?=wr.heap[k]?:=fun k hk=>(hg'.block k (by simp;omega) (hoff k hk)).trans (heap_alloc_old _ _ (by omega));have hs9:w.heap.size+3<=w9.heap.size:=Nat.le_trans (by simp;omega) hg'.size;have hK9:=(hk9 (w.heap.size+2) (by omega)).trans HK.out;have x2:w9.cell? ⟨w.heap.size+2,2,Z⟩=Y (J va t vc):=by simp[World.cell?,hK9]
     have y2:w9.frozen? ⟨w.heap.size+2,2,Z⟩=false:=by simp[World.frozen?,hK9]
     have HK9:Hid _:=hK9;have HA9:Hid _:=(hk9 w.heap.size (by omega)).trans HA.out;have HR9:Hid _:=(hk9 (w.heap.size+1) (by omega)).trans HR.out
     have HO9:Hid (w9.ownsRow (w.heap.size+3) 3 1 (J xa (t+1) xc) (t+1) ((List.replicate (t+1) (0:Int)).map (Value.int .i64))):=by
      have:=ho';unfold Hid;rw[List.replicate_succ',List.map_append]
      simpa using this
     have HB9:=aA ((Below.alloc HB.out (by omega) _).grown hg' (by simp;omega) (fun g hg=>by have:=(World.ownsRow.lt HO.out g hg).1;omega));clear ho' hg' hk9 hoff hK9;go_wp2
     go_roundw
     case rel=>
      refine⟨t+1,_,by omega,by go_num,ownsRow_setCell_other HO9.out (aW HO9.out HK9.out (by decide)) _,?_,?_,?_,HB9.out.setCell (by show w.heap.size<=w.heap.size+2;omega) _,by rw[bL];exact hs9⟩
      ·exact(Below.heap_setCell _ _ _ _ (by show w.heap.size≠w.heap.size+2;omega)).trans HA9.out
      ·exact(Below.heap_setCell _ _ _ _ (by show w.heap.size+1≠w.heap.size+2;omega)).trans HR9.out
      ·exact(gT HK9.out 2 _).trans rfl
     case measure=>simp[intOf];omega
    ·obtain rfl:t=blocks:=by omega
     clear htl;have d0:wr.cell? ⟨w.heap.size,0,Z⟩=Y (I T 0):=by simp[World.cell?,HA.out]
     have e0:wr.frozen? ⟨w.heap.size,0,Z⟩=false:=by simp[World.frozen?,HA.out]
     have d1:wr.cell? ⟨w.heap.size,1,Z⟩=Y (I T 0):=by simp[World.cell?,HA.out]
     have e1:wr.frozen? ⟨w.heap.size,1,Z⟩=false:=by simp[World.frozen?,HA.out]
     have d2:wr.cell? ⟨w.heap.size,2,Z⟩=Y (J Z 0 0):=by simp[World.cell?,HA.out]
     have e2:wr.frozen? ⟨w.heap.size,2,Z⟩=false:=by simp[World.frozen?,HA.out]
     have d3:wr.cell? ⟨w.heap.size,3,Z⟩=Y (J Z 0 0):=by simp[World.cell?,HA.out]
     have e3:wr.frozen? ⟨w.heap.size,3,Z⟩=false:=by simp[World.frozen?,HA.out]
     have d4:wr.cell? ⟨w.heap.size,4,Z⟩=Y (J Z 0 0):=by simp[World.cell?,HA.out]
     have e4:wr.frozen? ⟨w.heap.size,4,Z⟩=false:=by simp[World.frozen?,HA.out]
     have d5:wr.cell? ⟨w.heap.size,5,Z⟩=Y (I T 0):=by simp[World.cell?,HA.out]
     have e5:wr.frozen? ⟨w.heap.size,5,Z⟩=false:=by simp[World.frozen?,HA.out]
     have d6:wr.cell? ⟨w.heap.size,6,Z⟩=Y (I T 0):=by simp[World.cell?,HA.out]
     have e6:wr.frozen? ⟨w.heap.size,6,Z⟩=false:=by simp[World.frozen?,HA.out]
     have d7:wr.cell? ⟨w.heap.size,7,Z⟩=Y (bool false):=by simp[World.cell?,HA.out]
     have e7:wr.frozen? ⟨w.heap.size,7,Z⟩=false:=by simp[World.frozen?,HA.out]
     have d8:wr.cell? ⟨w.heap.size,8,Z⟩=Y (J Z 0 0):=by simp[World.cell?,HA.out]
     have e8:wr.frozen? ⟨w.heap.size,8,Z⟩=false:=by simp[World.frozen?,HA.out]
     have d9:wr.cell? ⟨w.heap.size,9,Z⟩=Y (J Z 0 0):=by simp[World.cell?,HA.out]
     have e9:wr.frozen? ⟨w.heap.size,9,Z⟩=false:=by simp[World.frozen?,HA.out]
     have d10:wr.cell? ⟨w.heap.size,10,Z⟩=Y (I T 0):=by simp[World.cell?,HA.out]
     have e10:wr.frozen? ⟨w.heap.size,10,Z⟩=false:=by simp[World.frozen?,HA.out]
     have d11:wr.cell? ⟨w.heap.size,11,Z⟩=Y (J Z 0 0):=by simp[World.cell?,HA.out]
     have e11:wr.frozen? ⟨w.heap.size,11,Z⟩=false:=by simp[World.frozen?,HA.out]
     have d12:wr.cell? ⟨w.heap.size,12,Z⟩=Y (bool false):=by simp[World.cell?,HA.out]
     have e12:wr.frozen? ⟨w.heap.size,12,Z⟩=false:=by simp[World.frozen?,HA.out]
     have d13:wr.cell? ⟨w.heap.size,13,Z⟩=Y (J Z 0 0):=by simp[World.cell?,HA.out]
     have e13:wr.frozen? ⟨w.heap.size,13,Z⟩=false:=by simp[World.frozen?,HA.out]
     have hsome:∀i,i<14->(wr.cell? ⟨w.heap.size,i,Z⟩).isSome=true:=by
      intro i hi;simp only[World.cell?,HA.out];rcases(show i=0∨i=1∨i=2∨i=3∨i=4∨i=5∨i=6∨i=7∨i=8∨i=9∨i=10∨i=11∨i=12∨i=13 by omega) with rfl|rfl|rfl|rfl|rfl|rfl|rfl|rfl|rfl|rfl|rfl|rfl|rfl|rfl<;>rfl
     go_wp2;obtain⟨w4,hw4,hcs,hU4⟩:=tY wr w.heap.size (I T id) (I T (nodes:Int)) (J (Y ⟨w.heap.size+1,0,Z⟩) 1 1) (J Z 0 0) (J va t vc) (I T 0) (I T 0) (bool false) (J Z 0 0) (J Z 0 0) (I T 0) (J Z 0 0) (bool false) (J Z 0 0) hsome
     rw[hw4];clear d0 e0 d1 e1 d2 e2 d3 e3 d4 e4 d5 e5 d6 e6 d7 e7 d8 e8 d9 e9 d10 e10 d11 e11 d12 e12 d13 e13 hw4;obtain⟨d0,d1,d2,d3,d4,d5,d6,d7,d8,d9,d10,d11,d12,d13⟩:=hcs;refine bodyPost_ret (v:=.agg #[I T id,I T (nodes:Int),J (Y ⟨w.heap.size+1,0,Z⟩) 1 1,J Z 0 0,J va t vc,I T 0,I T 0,.bool false,J Z 0 0,J Z 0 0,I T 0,J Z 0 0,.bool false,J Z 0 0]) (by simp[results,Tryz.results111,go_sem,d0,d1,d2,d3,d4,d5,d6,d7,d8,d9,d10,d11,d12,d13]) rfl ⟨_,_,rfl,?_,?_,?_⟩
     ·refine⟨rfl,.inr ⟨w.heap.size+1,1,_,rfl,by omega,(hU4.block _ (by omega)).trans HR.out,by omega,by unfold maxLen;omega,rfl,rfl⟩⟩
     ·exact cM (aH HO.out (fun g hg=>hU4.block g (fun hh=>aW HO.out HA.out (by decide) (hh ▸ hg)))) (by omega)
     ·exact HB.out.trans (hU4.below (by omega))
theorem uQ(rs:List aM)(va vb:Value)(w:World)(ha:aP w va rs.length (rs.flatMap aM.cells))(hb:aP w vb rs.length (rs.flatMap aM.cells))(hlt:rs.length<=100000000):
  Calls pG 116 #[va,vb] w fun e w'=>e=.returned (.bool true)/\Below w.heap.size w w':=by
 obtain⟨a1,c1,h1⟩:=ha.shape;subst h1;obtain⟨a2,c2,h2⟩:=hb.shape;subst h2;have HA:=aA ha;have HB:=aA hb;clear ha hb;go_enter Tryz.func116,Tryz.ntmps116;go_wp2
 go_loopw [5] (fun i wr=>∃t m:Nat,t<=rs.length/\i=I T t/\wr=w.drewN m) (fun i _=>rs.length - (intOf i).toNat)
 case atStart=>exact⟨0,0,by omega,rfl,rfl⟩
 case round=>
  obtain⟨t,m,ht,rfl,rfl⟩:=hrel
  by_cases htl:t<rs.length
  ·obtain⟨g,cg,he,hg,hcc⟩:=aP.at HA.out (by omega);cases he;obtain⟨k,ck,he,hk,hdd⟩:=aP.at HB.out (by omega);cases he;have j0:=hcc _ _ (cO aM.cells 3 eK rs t htl 0 (by omega));have j1:=hcc _ _ (cO aM.cells 3 eK rs t htl 1 (by omega));have j2:=hcc _ _ (cO aM.cells 3 eK rs t htl 2 (by omega));have k0:=hdd _ _ (cO aM.cells 3 eK rs t htl 0 (by omega));have k1:=hdd _ _ (cO aM.cells 3 eK rs t htl 1 (by omega));have k2:=hdd _ _ (cO aM.cells 3 eK rs t htl 2 (by omega));simp[aM.cells]at j0 j1 j2 k0 k1 k2;have htl2:(t:Int)<(rs.length:Int):=by omega
   clear hcc hdd HA HB;generalize rs[t]=V at*;go_wp2
   go_quiet (fail)
   go_wp2
   go_roundw
   case rel=>exact⟨t+1,_,by omega,by go_num,rfl⟩
   case measure=>simp[intOf];omega
  ·go_wp2;go_ret
   exact⟨rfl,below_drewN (Below.refl _ _) _⟩
end Go.Proofs.YtdcainmlcpafbaaGreatDoor
