import Derived.Test.YtdcainmlcpafbaaGreatDoorJ05
set_option linter.all false
set_option maxHeartbeats 16000000
set_option maxRecDepth 20000
namespace Go.Proofs.YtdcainmlcpafbaaGreatDoor
open Go.RowKit
open Value renaming int->I,slice->J,pointer->P0
open Tryz renaming prog->pG
open IntKind renaming i64->T
open Option renaming none->Z,some->Y
open Obj renaming cells->G
open Value (bool)
theorem CF(ext:Nat->Prop)(w:World)(base R:Nat)(v:Nat->Value)(es:Nat->List bU)(h:cD ext w base R v es):
  Calls pG 31 #[P0 (Y ⟨R,4,Z⟩)] w fun e w'=>e=.returned (.bool true)/\Below w.heap.size w w':=by
 have HB:=aA h;have hRw:R<w.heap.size:=Nat.lt_of_lt_of_le h.lt h.le;have s0:=h.small 0 (by omega);have s1:=h.small 1 (by omega);have s2:=h.small 2 (by omega);have s3:=h.small 3 (by omega);have s4:=h.small 4 (by omega);clear h;go_enter Tryz.func31,Tryz.ntmps31;go_wp2
 go_loopw [3,4,5] (fun okx ix _ wr=>∃t:Nat,t<=(es 0).length/\ix=I T t/\okx=.bool true/\Below w.heap.size w wr) (fun _ ix _ _=>(es 0).length - (intOf ix).toNat)
 case atStart=>exact⟨0,by omega,rfl,rfl,Below.refl _ _⟩
 case round=>
  obtain⟨t,ht,rfl,rfl,hbr⟩:=hrel;obtain⟨a0,c0,hv0,hrow⟩:=dN (HB.out.own 0 (by omega));have hcR:=(hbr.cell (p:=⟨R,4,Z⟩) hRw).trans ((HB.out.cell 0 (by omega)).trans (by rw[hv0]))
  by_cases htl:t<(es 0).length
  ·have HX:=(HB.out.later hbr).ok 0 (by omega) (es 0)[t] (List.getElem_mem htl);have hn:=HB.out.num 0 (by omega) t htl;obtain⟨g,hg1,hg2,hg3,hcc⟩:=hrow.resolve_left (by omega);have hce:∀k,k<5->wr.cell? ⟨g,t*5+k,Z⟩=Y ((es 0)[t].cells.getD k undef):=fun k hk=>(hbr.cell (by exact hg3)).trans (hcc _ _ (lV (es 0) t htl k hk));have j0:=hce 0 (by omega);have j1:=hce 1 (by omega);have j2:=hce 2 (by omega);have j3:=hce 3 (by omega);have j4:=hce 4 (by omega);simp[bU.cells]at j0 j1 j2 j3 j4;rw[hn]at j4;obtain⟨x0,x1,x2,x3⟩:=HX;rw[hn]at x0 x1 x2 x3;clear hce hcc hn;have htl2:(t:Int)<((es 0).length:Int):=by omega
   rw[hg1]at hcR;clear hv0 hrow;generalize (es 0)[t]=E at*;obtain⟨l,a,b,c,n⟩:=E;simp only at j0 j1 j2 j3 x0 x1 x2 x3;obtain⟨p0,q0,r0,rfl⟩:∃p q r,l=J p q r:=by obtain⟨p,q,r,h,_⟩:=x0;exact⟨p,q,r,h⟩
   obtain⟨p1,q1,r1,rfl⟩:∃p q r,a=J p q r:=by obtain⟨p,q,r,h,_⟩:=x1;exact⟨p,q,r,h⟩
   obtain⟨p2,q2,r2,rfl⟩:∃p q r,b=J p q r:=by obtain⟨p,q,r,h,_⟩:=x2;exact⟨p,q,r,h⟩
   obtain⟨p3,q3,r3,rfl⟩:∃p q r,c=J p q r:=by obtain⟨p,q,r,h,_⟩:=x3;exact⟨p,q,r,h⟩
   have hba:=hbr.alloc hbr.size (G #[J p0 q0 r0,J p1 q1 r1,J p2 q2 r2,J p3 q3 r3,I T t] 150);have hBa:=Below.alloc (Below.refl wr.heap.size wr) (Nat.le_refl _) (G #[J p0 q0 r0,J p1 q1 r1,J p2 q2 r2,J p3 q3 r3,I T t] 150);have hca:∀i,(wr.alloc (G #[J p0 q0 r0,J p1 q1 r1,J p2 q2 r2,J p3 q3 r3,I T t] 150)).cell? ⟨wr.heap.size,i,Z⟩=#[J p0 q0 r0,J p1 q1 r1,J p2 q2 r2,J p3 q3 r3,I T t][i]?:=fun i=>World.cell?_alloc_at _ _ _ _ rfl;have hsa:wr.heap.size<(wr.alloc (G #[J p0 q0 r0,J p1 q1 r1,J p2 q2 r2,J p3 q3 r3,I T t] 150)).heap.size:=by simp
   have y0:=x0.kept hBa.size (fun g _ h1 h2=>⟨hBa.block g h1,h2⟩);have y1:=x1.kept hBa.size (fun g _ h1 h2=>⟨hBa.block g h1,h2⟩);have y2:=x2.kept hBa.size (fun g _ h1 h2=>⟨hBa.block g h1,h2⟩);have y3:=x3.kept hBa.size (fun g _ h1 h2=>⟨hBa.block g h1,h2⟩);clear x0 x1 x2 x3
   go_wp2_with fail
   generalize (wr.alloc (G #[J p0 q0 r0,J p1 q1 r1,J p2 q2 r2,J p3 q3 r3,I T t] 150))=W0 at*;clear hBa;generalize wr.heap.size=X at*;clear j0 j1 j2 j3 j4 hcR;refine(mG (J p0 q0 r0) t base _ _ (by omega) (dU.one y0)).mono ?_;rintro e v0 ⟨rfl,hv0⟩;have hb0:=hba.trans (hv0.mono hba.size);have hc0:∀i,v0.cell? ⟨X,i,Z⟩=#[J p0 q0 r0,J p1 q1 r1,J p2 q2 r2,J p3 q3 r3,I T t][i]?:=fun i=>(hv0.cell (by exact hsa)).trans (hca i);have hs0:=Nat.lt_of_lt_of_le hsa hv0.size;replace y1:=y1.kept hv0.size (fun g _ h1 h2=>⟨hv0.block g h1,h2⟩);replace y2:=y2.kept hv0.size (fun g _ h1 h2=>⟨hv0.block g h1,h2⟩);replace y3:=y3.kept hv0.size (fun g _ h1 h2=>⟨hv0.block g h1,h2⟩);clear hca hv0 hsa
   go_wp2_with fail
   refine(mG (J p1 q1 r1) t base _ _ (by omega) (dU.one y1)).mono ?_;rintro e v1 ⟨rfl,hv1⟩;have hb1:=hb0.trans (hv1.mono hb0.size);have hc1:∀i,v1.cell? ⟨X,i,Z⟩=#[J p0 q0 r0,J p1 q1 r1,J p2 q2 r2,J p3 q3 r3,I T t][i]?:=fun i=>(hv1.cell (by exact hs0)).trans (hc0 i);have hs1:=Nat.lt_of_lt_of_le hs0 hv1.size;replace y2:=y2.kept hv1.size (fun g _ h1 h2=>⟨hv1.block g h1,h2⟩);replace y3:=y3.kept hv1.size (fun g _ h1 h2=>⟨hv1.block g h1,h2⟩);clear hc0 hv1 hs0
   go_wp2_with fail
   refine(mG (J p2 q2 r2) t base _ _ (by omega) (dU.one y2)).mono ?_;rintro e v2 ⟨rfl,hv2⟩;have hb2:=hb1.trans (hv2.mono hb1.size);have hc2:∀i,v2.cell? ⟨X,i,Z⟩=#[J p0 q0 r0,J p1 q1 r1,J p2 q2 r2,J p3 q3 r3,I T t][i]?:=fun i=>(hv2.cell (by exact hs1)).trans (hc1 i);have hs2:=Nat.lt_of_lt_of_le hs1 hv2.size;replace y3:=y3.kept hv2.size (fun g _ h1 h2=>⟨hv2.block g h1,h2⟩);clear hc1 hv2 hs1
   go_wp2_with fail
   refine(mG (J p3 q3 r3) t base _ _ (by omega) (dU.one y3)).mono ?_;rintro e v3 ⟨rfl,hv3⟩;have hb3:=hb2.trans (hv3.mono hb2.size);have hc3:∀i,v3.cell? ⟨X,i,Z⟩=#[J p0 q0 r0,J p1 q1 r1,J p2 q2 r2,J p3 q3 r3,I T t][i]?:=fun i=>(hv3.cell (by exact hs2)).trans (hc2 i);have hs3:=Nat.lt_of_lt_of_le hs2 hv3.size;clear hc2 hv3 hs2;go_wp2
   go_roundw
   case rel=>exact⟨t+1,by omega,by go_num,rfl,hb3⟩
   case measure=>simp[intOf];omega
  ·have hbo:=hbr;clear hv0 hrow;go_wp2
   go_loopw [3,6,7] (fun okx ix _ wr=>∃t:Nat,t<=(es 1).length/\ix=I T t/\okx=.bool true/\Below w.heap.size w wr) (fun _ ix _ _=>(es 1).length - (intOf ix).toNat)
   case atStart=>exact⟨0,by omega,rfl,rfl,hbo⟩
   case round=>
    obtain⟨t,ht,rfl,rfl,hbr⟩:=hrel;obtain⟨a1,c1,hv1,hrow⟩:=dN (HB.out.own 1 (by omega));have hcR:=(hbr.cell (p:=⟨R,5,Z⟩) hRw).trans ((HB.out.cell 1 (by omega)).trans (by rw[hv1]))
    by_cases htl:t<(es 1).length
    ·have HX:=(HB.out.later hbr).ok 1 (by omega) (es 1)[t] (List.getElem_mem htl);have hn:=HB.out.num 1 (by omega) t htl;obtain⟨g,hg1,hg2,hg3,hcc⟩:=hrow.resolve_left (by omega);have hce:∀k,k<5->wr.cell? ⟨g,t*5+k,Z⟩=Y ((es 1)[t].cells.getD k undef):=fun k hk=>(hbr.cell (by exact hg3)).trans (hcc _ _ (lV (es 1) t htl k hk));have j0:=hce 0 (by omega);have j1:=hce 1 (by omega);have j2:=hce 2 (by omega);have j3:=hce 3 (by omega);have j4:=hce 4 (by omega);simp[bU.cells]at j0 j1 j2 j3 j4;rw[hn]at j4;obtain⟨x0,x1,x2,x3⟩:=HX;rw[hn]at x0 x1 x2 x3;clear hce hcc hn;have htl2:(t:Int)<((es 1).length:Int):=by omega
     rw[hg1]at hcR;clear hv1 hrow;generalize (es 1)[t]=E at*;obtain⟨l,a,b,c,n⟩:=E;simp only at j0 j1 j2 j3 x0 x1 x2 x3;obtain⟨p0,q0,r0,rfl⟩:∃p q r,l=J p q r:=by obtain⟨p,q,r,h,_⟩:=x0;exact⟨p,q,r,h⟩
     obtain⟨p1,q1,r1,rfl⟩:∃p q r,a=J p q r:=by obtain⟨p,q,r,h,_⟩:=x1;exact⟨p,q,r,h⟩
     obtain⟨p2,q2,r2,rfl⟩:∃p q r,b=J p q r:=by obtain⟨p,q,r,h,_⟩:=x2;exact⟨p,q,r,h⟩
     obtain⟨p3,q3,r3,rfl⟩:∃p q r,c=J p q r:=by obtain⟨p,q,r,h,_⟩:=x3;exact⟨p,q,r,h⟩
     have hba:=hbr.alloc hbr.size (G #[J p0 q0 r0,J p1 q1 r1,J p2 q2 r2,J p3 q3 r3,I T t] 153);have hBa:=Below.alloc (Below.refl wr.heap.size wr) (Nat.le_refl _) (G #[J p0 q0 r0,J p1 q1 r1,J p2 q2 r2,J p3 q3 r3,I T t] 153);have hca:∀i,(wr.alloc (G #[J p0 q0 r0,J p1 q1 r1,J p2 q2 r2,J p3 q3 r3,I T t] 153)).cell? ⟨wr.heap.size,i,Z⟩=#[J p0 q0 r0,J p1 q1 r1,J p2 q2 r2,J p3 q3 r3,I T t][i]?:=fun i=>World.cell?_alloc_at _ _ _ _ rfl;have hsa:wr.heap.size<(wr.alloc (G #[J p0 q0 r0,J p1 q1 r1,J p2 q2 r2,J p3 q3 r3,I T t] 153)).heap.size:=by simp
     have y0:=x0.kept hBa.size (fun g _ h1 h2=>⟨hBa.block g h1,h2⟩);have y1:=x1.kept hBa.size (fun g _ h1 h2=>⟨hBa.block g h1,h2⟩);have y2:=x2.kept hBa.size (fun g _ h1 h2=>⟨hBa.block g h1,h2⟩);have y3:=x3.kept hBa.size (fun g _ h1 h2=>⟨hBa.block g h1,h2⟩);clear x0 x1 x2 x3
     go_wp2_with fail
     generalize (wr.alloc (G #[J p0 q0 r0,J p1 q1 r1,J p2 q2 r2,J p3 q3 r3,I T t] 153))=W0 at*;clear hBa;generalize wr.heap.size=X at*;clear j0 j1 j2 j3 j4 hcR;refine(mI (J p0 q0 r0) t base _ _ (by omega) (dU.one y0)).mono ?_;rintro e v0 ⟨rfl,hv0⟩;have hb0:=hba.trans (hv0.mono hba.size);have hc0:∀i,v0.cell? ⟨X,i,Z⟩=#[J p0 q0 r0,J p1 q1 r1,J p2 q2 r2,J p3 q3 r3,I T t][i]?:=fun i=>(hv0.cell (by exact hsa)).trans (hca i);have hs0:=Nat.lt_of_lt_of_le hsa hv0.size;replace y1:=y1.kept hv0.size (fun g _ h1 h2=>⟨hv0.block g h1,h2⟩);replace y2:=y2.kept hv0.size (fun g _ h1 h2=>⟨hv0.block g h1,h2⟩);replace y3:=y3.kept hv0.size (fun g _ h1 h2=>⟨hv0.block g h1,h2⟩);clear hca hv0 hsa
     go_wp2_with fail
     refine(mI (J p1 q1 r1) t base _ _ (by omega) (dU.one y1)).mono ?_;rintro e v1 ⟨rfl,hv1⟩;have hb1:=hb0.trans (hv1.mono hb0.size);have hc1:∀i,v1.cell? ⟨X,i,Z⟩=#[J p0 q0 r0,J p1 q1 r1,J p2 q2 r2,J p3 q3 r3,I T t][i]?:=fun i=>(hv1.cell (by exact hs0)).trans (hc0 i);have hs1:=Nat.lt_of_lt_of_le hs0 hv1.size;replace y2:=y2.kept hv1.size (fun g _ h1 h2=>⟨hv1.block g h1,h2⟩);replace y3:=y3.kept hv1.size (fun g _ h1 h2=>⟨hv1.block g h1,h2⟩);clear hc0 hv1 hs0
     go_wp2_with fail
     refine(mI (J p2 q2 r2) t base _ _ (by omega) (dU.one y2)).mono ?_;rintro e v2 ⟨rfl,hv2⟩;have hb2:=hb1.trans (hv2.mono hb1.size);have hc2:∀i,v2.cell? ⟨X,i,Z⟩=#[J p0 q0 r0,J p1 q1 r1,J p2 q2 r2,J p3 q3 r3,I T t][i]?:=fun i=>(hv2.cell (by exact hs1)).trans (hc1 i);have hs2:=Nat.lt_of_lt_of_le hs1 hv2.size;replace y3:=y3.kept hv2.size (fun g _ h1 h2=>⟨hv2.block g h1,h2⟩);clear hc1 hv2 hs1
     go_wp2_with fail
     refine(mI (J p3 q3 r3) t base _ _ (by omega) (dU.one y3)).mono ?_;rintro e v3 ⟨rfl,hv3⟩;have hb3:=hb2.trans (hv3.mono hb2.size);have hc3:∀i,v3.cell? ⟨X,i,Z⟩=#[J p0 q0 r0,J p1 q1 r1,J p2 q2 r2,J p3 q3 r3,I T t][i]?:=fun i=>(hv3.cell (by exact hs2)).trans (hc2 i);have hs3:=Nat.lt_of_lt_of_le hs2 hv3.size;clear hc2 hv3 hs2;go_wp2
     go_roundw
     case rel=>exact⟨t+1,by omega,by go_num,rfl,hb3⟩
     case measure=>simp[intOf];omega
    ·have hbo:=hbr;clear hv1 hrow;go_wp2
     go_loopw [3,8,9] (fun okx ix _ wr=>∃t:Nat,t<=(es 2).length/\ix=I T t/\okx=.bool true/\Below w.heap.size w wr) (fun _ ix _ _=>(es 2).length - (intOf ix).toNat)
     case atStart=>exact⟨0,by omega,rfl,rfl,hbo⟩
     case round=>
      obtain⟨t,ht,rfl,rfl,hbr⟩:=hrel;obtain⟨a2,c2,hv2,hrow⟩:=dN (HB.out.own 2 (by omega));have hcR:=(hbr.cell (p:=⟨R,6,Z⟩) hRw).trans ((HB.out.cell 2 (by omega)).trans (by rw[hv2]))
      by_cases htl:t<(es 2).length
      ·have HX:=(HB.out.later hbr).ok 2 (by omega) (es 2)[t] (List.getElem_mem htl);have hn:=HB.out.num 2 (by omega) t htl;obtain⟨g,hg1,hg2,hg3,hcc⟩:=hrow.resolve_left (by omega);have hce:∀k,k<5->wr.cell? ⟨g,t*5+k,Z⟩=Y ((es 2)[t].cells.getD k undef):=fun k hk=>(hbr.cell (by exact hg3)).trans (hcc _ _ (lV (es 2) t htl k hk));have j0:=hce 0 (by omega);have j1:=hce 1 (by omega);have j2:=hce 2 (by omega);have j3:=hce 3 (by omega);have j4:=hce 4 (by omega);simp[bU.cells]at j0 j1 j2 j3 j4;rw[hn]at j4;obtain⟨x0,x1,x2,x3⟩:=HX;rw[hn]at x0 x1 x2 x3;clear hce hcc hn;have htl2:(t:Int)<((es 2).length:Int):=by omega
       rw[hg1]at hcR;clear hv2 hrow;generalize (es 2)[t]=E at*;obtain⟨l,a,b,c,n⟩:=E;simp only at j0 j1 j2 j3 x0 x1 x2 x3;obtain⟨p0,q0,r0,rfl⟩:∃p q r,l=J p q r:=by obtain⟨p,q,r,h,_⟩:=x0;exact⟨p,q,r,h⟩
       obtain⟨p1,q1,r1,rfl⟩:∃p q r,a=J p q r:=by obtain⟨p,q,r,h,_⟩:=x1;exact⟨p,q,r,h⟩
       obtain⟨p2,q2,r2,rfl⟩:∃p q r,b=J p q r:=by obtain⟨p,q,r,h,_⟩:=x2;exact⟨p,q,r,h⟩
       obtain⟨p3,q3,r3,rfl⟩:∃p q r,c=J p q r:=by obtain⟨p,q,r,h,_⟩:=x3;exact⟨p,q,r,h⟩
       have hba:=hbr.alloc hbr.size (G #[J p0 q0 r0,J p1 q1 r1,J p2 q2 r2,J p3 q3 r3,I T t] 156);have hBa:=Below.alloc (Below.refl wr.heap.size wr) (Nat.le_refl _) (G #[J p0 q0 r0,J p1 q1 r1,J p2 q2 r2,J p3 q3 r3,I T t] 156);have hca:∀i,(wr.alloc (G #[J p0 q0 r0,J p1 q1 r1,J p2 q2 r2,J p3 q3 r3,I T t] 156)).cell? ⟨wr.heap.size,i,Z⟩=#[J p0 q0 r0,J p1 q1 r1,J p2 q2 r2,J p3 q3 r3,I T t][i]?:=fun i=>World.cell?_alloc_at _ _ _ _ rfl;have hsa:wr.heap.size<(wr.alloc (G #[J p0 q0 r0,J p1 q1 r1,J p2 q2 r2,J p3 q3 r3,I T t] 156)).heap.size:=by simp
       have y0:=x0.kept hBa.size (fun g _ h1 h2=>⟨hBa.block g h1,h2⟩);have y1:=x1.kept hBa.size (fun g _ h1 h2=>⟨hBa.block g h1,h2⟩);have y2:=x2.kept hBa.size (fun g _ h1 h2=>⟨hBa.block g h1,h2⟩);have y3:=x3.kept hBa.size (fun g _ h1 h2=>⟨hBa.block g h1,h2⟩);clear x0 x1 x2 x3
       go_wp2_with fail
       generalize (wr.alloc (G #[J p0 q0 r0,J p1 q1 r1,J p2 q2 r2,J p3 q3 r3,I T t] 156))=W0 at*;clear hBa;generalize wr.heap.size=X at*;clear j0 j1 j2 j3 j4 hcR;refine(mD (J p0 q0 r0) t base _ _ (by omega) y0).mono ?_;rintro e v0 ⟨rfl,hv0⟩;have hb0:=hba.trans (hv0.mono hba.size);have hc0:∀i,v0.cell? ⟨X,i,Z⟩=#[J p0 q0 r0,J p1 q1 r1,J p2 q2 r2,J p3 q3 r3,I T t][i]?:=fun i=>(hv0.cell (by exact hsa)).trans (hca i);have hs0:=Nat.lt_of_lt_of_le hsa hv0.size;replace y1:=y1.kept hv0.size (fun g _ h1 h2=>⟨hv0.block g h1,h2⟩);replace y2:=y2.kept hv0.size (fun g _ h1 h2=>⟨hv0.block g h1,h2⟩);replace y3:=y3.kept hv0.size (fun g _ h1 h2=>⟨hv0.block g h1,h2⟩);clear hca hv0 hsa
       go_wp2_with fail
       refine(mD (J p1 q1 r1) t base _ _ (by omega) y1).mono ?_;rintro e v1 ⟨rfl,hv1⟩;have hb1:=hb0.trans (hv1.mono hb0.size);have hc1:∀i,v1.cell? ⟨X,i,Z⟩=#[J p0 q0 r0,J p1 q1 r1,J p2 q2 r2,J p3 q3 r3,I T t][i]?:=fun i=>(hv1.cell (by exact hs0)).trans (hc0 i);have hs1:=Nat.lt_of_lt_of_le hs0 hv1.size;replace y2:=y2.kept hv1.size (fun g _ h1 h2=>⟨hv1.block g h1,h2⟩);replace y3:=y3.kept hv1.size (fun g _ h1 h2=>⟨hv1.block g h1,h2⟩);clear hc0 hv1 hs0
       go_wp2_with fail
       refine(mD (J p2 q2 r2) t base _ _ (by omega) y2).mono ?_;rintro e v2 ⟨rfl,hv2⟩;have hb2:=hb1.trans (hv2.mono hb1.size);have hc2:∀i,v2.cell? ⟨X,i,Z⟩=#[J p0 q0 r0,J p1 q1 r1,J p2 q2 r2,J p3 q3 r3,I T t][i]?:=fun i=>(hv2.cell (by exact hs1)).trans (hc1 i);have hs2:=Nat.lt_of_lt_of_le hs1 hv2.size;replace y3:=y3.kept hv2.size (fun g _ h1 h2=>⟨hv2.block g h1,h2⟩);clear hc1 hv2 hs1
       go_wp2_with fail
       refine(mD (J p3 q3 r3) t base _ _ (by omega) y3).mono ?_;rintro e v3 ⟨rfl,hv3⟩;have hb3:=hb2.trans (hv3.mono hb2.size);have hc3:∀i,v3.cell? ⟨X,i,Z⟩=#[J p0 q0 r0,J p1 q1 r1,J p2 q2 r2,J p3 q3 r3,I T t][i]?:=fun i=>(hv3.cell (by exact hs2)).trans (hc2 i);have hs3:=Nat.lt_of_lt_of_le hs2 hv3.size;clear hc2 hv3 hs2;go_wp2
       go_roundw
       case rel=>exact⟨t+1,by omega,by go_num,rfl,hb3⟩
       case measure=>simp[intOf];omega
      ·have hbo:=hbr;clear hv2 hrow;go_wp2
       go_loopw [3,10,11] (fun okx ix _ wr=>∃t:Nat,t<=(es 3).length/\ix=I T t/\okx=.bool true/\Below w.heap.size w wr) (fun _ ix _ _=>(es 3).length - (intOf ix).toNat)
       case atStart=>exact⟨0,by omega,rfl,rfl,hbo⟩
       case round=>
        obtain⟨t,ht,rfl,rfl,hbr⟩:=hrel;obtain⟨a3,c3,hv3,hrow⟩:=dN (HB.out.own 3 (by omega));have hcR:=(hbr.cell (p:=⟨R,7,Z⟩) hRw).trans ((HB.out.cell 3 (by omega)).trans (by rw[hv3]))
        by_cases htl:t<(es 3).length
        ·have HX:=(HB.out.later hbr).ok 3 (by omega) (es 3)[t] (List.getElem_mem htl);have hn:=HB.out.num 3 (by omega) t htl;obtain⟨g,hg1,hg2,hg3,hcc⟩:=hrow.resolve_left (by omega);have hce:∀k,k<5->wr.cell? ⟨g,t*5+k,Z⟩=Y ((es 3)[t].cells.getD k undef):=fun k hk=>(hbr.cell (by exact hg3)).trans (hcc _ _ (lV (es 3) t htl k hk));have j0:=hce 0 (by omega);have j1:=hce 1 (by omega);have j2:=hce 2 (by omega);have j3:=hce 3 (by omega);have j4:=hce 4 (by omega);simp[bU.cells]at j0 j1 j2 j3 j4;rw[hn]at j4;obtain⟨x0,x1,x2,x3⟩:=HX;rw[hn]at x0 x1 x2 x3;clear hce hcc hn;have htl2:(t:Int)<((es 3).length:Int):=by omega
         rw[hg1]at hcR;clear hv3 hrow;generalize (es 3)[t]=E at*;obtain⟨l,a,b,c,n⟩:=E;simp only at j0 j1 j2 j3 x0 x1 x2 x3;obtain⟨p0,q0,r0,rfl⟩:∃p q r,l=J p q r:=by obtain⟨p,q,r,h,_⟩:=x0;exact⟨p,q,r,h⟩
         obtain⟨p1,q1,r1,rfl⟩:∃p q r,a=J p q r:=by obtain⟨p,q,r,h,_⟩:=x1;exact⟨p,q,r,h⟩
         obtain⟨p2,q2,r2,rfl⟩:∃p q r,b=J p q r:=by obtain⟨p,q,r,h,_⟩:=x2;exact⟨p,q,r,h⟩
         obtain⟨p3,q3,r3,rfl⟩:∃p q r,c=J p q r:=by obtain⟨p,q,r,h,_⟩:=x3;exact⟨p,q,r,h⟩
         have hba:=hbr.alloc hbr.size (G #[J p0 q0 r0,J p1 q1 r1,J p2 q2 r2,J p3 q3 r3,I T t] 159);have hBa:=Below.alloc (Below.refl wr.heap.size wr) (Nat.le_refl _) (G #[J p0 q0 r0,J p1 q1 r1,J p2 q2 r2,J p3 q3 r3,I T t] 159);have hca:∀i,(wr.alloc (G #[J p0 q0 r0,J p1 q1 r1,J p2 q2 r2,J p3 q3 r3,I T t] 159)).cell? ⟨wr.heap.size,i,Z⟩=#[J p0 q0 r0,J p1 q1 r1,J p2 q2 r2,J p3 q3 r3,I T t][i]?:=fun i=>World.cell?_alloc_at _ _ _ _ rfl;have hsa:wr.heap.size<(wr.alloc (G #[J p0 q0 r0,J p1 q1 r1,J p2 q2 r2,J p3 q3 r3,I T t] 159)).heap.size:=by simp
         have y0:=x0.kept hBa.size (fun g _ h1 h2=>⟨hBa.block g h1,h2⟩);have y1:=x1.kept hBa.size (fun g _ h1 h2=>⟨hBa.block g h1,h2⟩);have y2:=x2.kept hBa.size (fun g _ h1 h2=>⟨hBa.block g h1,h2⟩);have y3:=x3.kept hBa.size (fun g _ h1 h2=>⟨hBa.block g h1,h2⟩);clear x0 x1 x2 x3
         go_wp2_with fail
         generalize (wr.alloc (G #[J p0 q0 r0,J p1 q1 r1,J p2 q2 r2,J p3 q3 r3,I T t] 159))=W0 at*;clear hBa;generalize wr.heap.size=X at*;clear j0 j1 j2 j3 j4 hcR;refine(mE (J p0 q0 r0) t base _ _ (by omega) y0).mono ?_;rintro e v0 ⟨rfl,hv0⟩;have hb0:=hba.trans (hv0.mono hba.size);have hc0:∀i,v0.cell? ⟨X,i,Z⟩=#[J p0 q0 r0,J p1 q1 r1,J p2 q2 r2,J p3 q3 r3,I T t][i]?:=fun i=>(hv0.cell (by exact hsa)).trans (hca i);have hs0:=Nat.lt_of_lt_of_le hsa hv0.size;replace y1:=y1.kept hv0.size (fun g _ h1 h2=>⟨hv0.block g h1,h2⟩);replace y2:=y2.kept hv0.size (fun g _ h1 h2=>⟨hv0.block g h1,h2⟩);replace y3:=y3.kept hv0.size (fun g _ h1 h2=>⟨hv0.block g h1,h2⟩);clear hca hv0 hsa
         go_wp2_with fail
         refine(mE (J p1 q1 r1) t base _ _ (by omega) y1).mono ?_;rintro e v1 ⟨rfl,hv1⟩;have hb1:=hb0.trans (hv1.mono hb0.size);have hc1:∀i,v1.cell? ⟨X,i,Z⟩=#[J p0 q0 r0,J p1 q1 r1,J p2 q2 r2,J p3 q3 r3,I T t][i]?:=fun i=>(hv1.cell (by exact hs0)).trans (hc0 i);have hs1:=Nat.lt_of_lt_of_le hs0 hv1.size;replace y2:=y2.kept hv1.size (fun g _ h1 h2=>⟨hv1.block g h1,h2⟩);replace y3:=y3.kept hv1.size (fun g _ h1 h2=>⟨hv1.block g h1,h2⟩);clear hc0 hv1 hs0
         go_wp2_with fail
         refine(mE (J p2 q2 r2) t base _ _ (by omega) y2).mono ?_;rintro e v2 ⟨rfl,hv2⟩;have hb2:=hb1.trans (hv2.mono hb1.size);have hc2:∀i,v2.cell? ⟨X,i,Z⟩=#[J p0 q0 r0,J p1 q1 r1,J p2 q2 r2,J p3 q3 r3,I T t][i]?:=fun i=>(hv2.cell (by exact hs1)).trans (hc1 i);have hs2:=Nat.lt_of_lt_of_le hs1 hv2.size;replace y3:=y3.kept hv2.size (fun g _ h1 h2=>⟨hv2.block g h1,h2⟩);clear hc1 hv2 hs1
         go_wp2_with fail
         refine(mE (J p3 q3 r3) t base _ _ (by omega) y3).mono ?_;rintro e v3 ⟨rfl,hv3⟩;have hb3:=hb2.trans (hv3.mono hb2.size);have hc3:∀i,v3.cell? ⟨X,i,Z⟩=#[J p0 q0 r0,J p1 q1 r1,J p2 q2 r2,J p3 q3 r3,I T t][i]?:=fun i=>(hv3.cell (by exact hs2)).trans (hc2 i);have hs3:=Nat.lt_of_lt_of_le hs2 hv3.size;clear hc2 hv3 hs2;go_wp2
         go_roundw
         case rel=>exact⟨t+1,by omega,by go_num,rfl,hb3⟩
         case measure=>simp[intOf];omega
        ·have hbo:=hbr;clear hv3 hrow;go_wp2
         go_loopw [3,12,13] (fun okx ix _ wr=>∃t:Nat,t<=(es 4).length/\ix=I T t/\okx=.bool true/\Below w.heap.size w wr) (fun _ ix _ _=>(es 4).length - (intOf ix).toNat)
         case atStart=>exact⟨0,by omega,rfl,rfl,hbo⟩
         case round=>
          obtain⟨t,ht,rfl,rfl,hbr⟩:=hrel;obtain⟨a4,c4,hv4,hrow⟩:=dN (HB.out.own 4 (by omega));have hcR:=(hbr.cell (p:=⟨R,8,Z⟩) hRw).trans ((HB.out.cell 4 (by omega)).trans (by rw[hv4]))
          by_cases htl:t<(es 4).length
          ·have HX:=(HB.out.later hbr).ok 4 (by omega) (es 4)[t] (List.getElem_mem htl);have hn:=HB.out.num 4 (by omega) t htl;obtain⟨g,hg1,hg2,hg3,hcc⟩:=hrow.resolve_left (by omega);have hce:∀k,k<5->wr.cell? ⟨g,t*5+k,Z⟩=Y ((es 4)[t].cells.getD k undef):=fun k hk=>(hbr.cell (by exact hg3)).trans (hcc _ _ (lV (es 4) t htl k hk));have j0:=hce 0 (by omega);have j1:=hce 1 (by omega);have j2:=hce 2 (by omega);have j3:=hce 3 (by omega);have j4:=hce 4 (by omega);simp[bU.cells]at j0 j1 j2 j3 j4;rw[hn]at j4;obtain⟨x0,x1,x2,x3⟩:=HX;rw[hn]at x0 x1 x2 x3;clear hce hcc hn;have htl2:(t:Int)<((es 4).length:Int):=by omega
           rw[hg1]at hcR;clear hv4 hrow;generalize (es 4)[t]=E at*;obtain⟨l,a,b,c,n⟩:=E;simp only at j0 j1 j2 j3 x0 x1 x2 x3;obtain⟨p0,q0,r0,rfl⟩:∃p q r,l=J p q r:=by obtain⟨p,q,r,h,_⟩:=x0;exact⟨p,q,r,h⟩
           obtain⟨p1,q1,r1,rfl⟩:∃p q r,a=J p q r:=by obtain⟨p,q,r,h,_⟩:=x1;exact⟨p,q,r,h⟩
           obtain⟨p2,q2,r2,rfl⟩:∃p q r,b=J p q r:=by obtain⟨p,q,r,h,_⟩:=x2;exact⟨p,q,r,h⟩
           obtain⟨p3,q3,r3,rfl⟩:∃p q r,c=J p q r:=by obtain⟨p,q,r,h,_⟩:=x3;exact⟨p,q,r,h⟩
           have hba:=hbr.alloc hbr.size (G #[J p0 q0 r0,J p1 q1 r1,J p2 q2 r2,J p3 q3 r3,I T t] 162);have hBa:=Below.alloc (Below.refl wr.heap.size wr) (Nat.le_refl _) (G #[J p0 q0 r0,J p1 q1 r1,J p2 q2 r2,J p3 q3 r3,I T t] 162);have hca:∀i,(wr.alloc (G #[J p0 q0 r0,J p1 q1 r1,J p2 q2 r2,J p3 q3 r3,I T t] 162)).cell? ⟨wr.heap.size,i,Z⟩=#[J p0 q0 r0,J p1 q1 r1,J p2 q2 r2,J p3 q3 r3,I T t][i]?:=fun i=>World.cell?_alloc_at _ _ _ _ rfl;have hsa:wr.heap.size<(wr.alloc (G #[J p0 q0 r0,J p1 q1 r1,J p2 q2 r2,J p3 q3 r3,I T t] 162)).heap.size:=by simp
           have y0:=x0.kept hBa.size (fun g _ h1 h2=>⟨hBa.block g h1,h2⟩);have y1:=x1.kept hBa.size (fun g _ h1 h2=>⟨hBa.block g h1,h2⟩);have y2:=x2.kept hBa.size (fun g _ h1 h2=>⟨hBa.block g h1,h2⟩);have y3:=x3.kept hBa.size (fun g _ h1 h2=>⟨hBa.block g h1,h2⟩);clear x0 x1 x2 x3
           go_wp2_with fail
           generalize (wr.alloc (G #[J p0 q0 r0,J p1 q1 r1,J p2 q2 r2,J p3 q3 r3,I T t] 162))=W0 at*;clear hBa;generalize wr.heap.size=X at*;clear j0 j1 j2 j3 j4 hcR;refine(mF (J p0 q0 r0) t base _ _ (by omega) y0).mono ?_;rintro e v0 ⟨rfl,hv0⟩;have hb0:=hba.trans (hv0.mono hba.size);have hc0:∀i,v0.cell? ⟨X,i,Z⟩=#[J p0 q0 r0,J p1 q1 r1,J p2 q2 r2,J p3 q3 r3,I T t][i]?:=fun i=>(hv0.cell (by exact hsa)).trans (hca i);have hs0:=Nat.lt_of_lt_of_le hsa hv0.size;replace y1:=y1.kept hv0.size (fun g _ h1 h2=>⟨hv0.block g h1,h2⟩);replace y2:=y2.kept hv0.size (fun g _ h1 h2=>⟨hv0.block g h1,h2⟩);replace y3:=y3.kept hv0.size (fun g _ h1 h2=>⟨hv0.block g h1,h2⟩);clear hca hv0 hsa
           go_wp2_with fail
           refine(mF (J p1 q1 r1) t base _ _ (by omega) y1).mono ?_;rintro e v1 ⟨rfl,hv1⟩;have hb1:=hb0.trans (hv1.mono hb0.size);have hc1:∀i,v1.cell? ⟨X,i,Z⟩=#[J p0 q0 r0,J p1 q1 r1,J p2 q2 r2,J p3 q3 r3,I T t][i]?:=fun i=>(hv1.cell (by exact hs0)).trans (hc0 i);have hs1:=Nat.lt_of_lt_of_le hs0 hv1.size;replace y2:=y2.kept hv1.size (fun g _ h1 h2=>⟨hv1.block g h1,h2⟩);replace y3:=y3.kept hv1.size (fun g _ h1 h2=>⟨hv1.block g h1,h2⟩);clear hc0 hv1 hs0
           go_wp2_with fail
           refine(mF (J p2 q2 r2) t base _ _ (by omega) y2).mono ?_;rintro e v2 ⟨rfl,hv2⟩;have hb2:=hb1.trans (hv2.mono hb1.size);have hc2:∀i,v2.cell? ⟨X,i,Z⟩=#[J p0 q0 r0,J p1 q1 r1,J p2 q2 r2,J p3 q3 r3,I T t][i]?:=fun i=>(hv2.cell (by exact hs1)).trans (hc1 i);have hs2:=Nat.lt_of_lt_of_le hs1 hv2.size;replace y3:=y3.kept hv2.size (fun g _ h1 h2=>⟨hv2.block g h1,h2⟩);clear hc1 hv2 hs1
           go_wp2_with fail
           refine(mF (J p3 q3 r3) t base _ _ (by omega) y3).mono ?_;rintro e v3 ⟨rfl,hv3⟩;have hb3:=hb2.trans (hv3.mono hb2.size);have hc3:∀i,v3.cell? ⟨X,i,Z⟩=#[J p0 q0 r0,J p1 q1 r1,J p2 q2 r2,J p3 q3 r3,I T t][i]?:=fun i=>(hv3.cell (by exact hs2)).trans (hc2 i);have hs3:=Nat.lt_of_lt_of_le hs2 hv3.size;clear hc2 hv3 hs2;go_wp2
           go_roundw
           case rel=>exact⟨t+1,by omega,by go_num,rfl,hb3⟩
           case measure=>simp[intOf];omega
          ·have hbo:=hbr;clear hv4 hrow;go_wp2;go_ret;exact⟨rfl,hbr⟩
theorem uR(ext:Nat->Prop)(w:World)(base R:Nat)(v:Nat->Value)(es:Nat->List bU)(l:Value)(len:Nat)(xs:List Value)(hB:cD (fun g=>ext g∨l.ownBlock=Y g) w base R v es)(hl:w.ownsRow base 66 3 l len xs)(hlen:len<=2000000)(hxl:∀g,l.ownBlock=Y g->¬ext g)(hxn:∀g,w.heap.size<=g->¬ext g)(hsm:(es 3).length<4194304):
  Calls pG 119 #[P0 (Y ⟨R,4,Z⟩),l] w fun e w'=>e=.returned (.tuple #[])/\∃v' en,cD ext w' base R (dV v 3 v') (dV es 3 ((es 3)++[en]))/\(∀g,v'.ownBlock=Y g->(v 3).ownBlock=Y g∨w.heap.size<=g)/\aK (fun b=>b=R∨some b=(v 3).ownBlock∨some b=l.ownBlock) w w'/\∀i,i≠7->w'.cell? ⟨R,i,Z⟩=w.cell? ⟨R,i,Z⟩:=by
 obtain⟨i0,hi0,hz0,hz1,hz2⟩:=info_parts l6;obtain⟨la,lc,rfl,hrow⟩:=dN hl;obtain⟨av,cv,hvs,hrv⟩:=dN (hB.own 3 (by omega));have hRw:R<w.heap.size:=Nat.lt_of_lt_of_le hB.lt hB.le;have hRb:=hB.lt;have hbw:=hB.le;have hc4:=(hB.cell 3 (by omega)).trans (by rw[hvs]);have HB:Hid _:=hB;have HV:Hid _:=hvs;have HXL:Hid _:=hxl;have HXN:Hid _:=hxn;have HL:Hid _:=hl;clear hB hrv hvs hxl hxn;have hl0:(w.alloc (G #[I T (-1000 - ((es 3).length:Int)),I T 0,I T 0] 66)).ownsRow base 66 3 (J la len lc) len xs:=hl.alloc _;have hs0:(w.alloc (G #[I T (-1000 - ((es 3).length:Int)),I T 0,I T 0] 66)).heap.size=w.heap.size+1:=by simp
 have hg0:w.grownBy (w.alloc (G #[I T (-1000 - ((es 3).length:Int)),I T 0,I T 0] 66)) none:=World.grownBy_alloc w _ _;have hX0:∀i,(w.alloc (G #[I T (-1000 - ((es 3).length:Int)),I T 0,I T 0] 66)).cell? ⟨w.heap.size,i,Z⟩=#[I T (-1000 - ((es 3).length:Int)),I T 0,I T 0][i]?:=fun i=>World.cell?_alloc_at _ _ _ _ rfl;have hXl:Value.ownBlock (J la len lc)≠some w.heap.size:=fun hh=>by have:=(hl.lt _ hh).2;omega
 clear hl;go_enter Tryz.func119,Tryz.ntmps119;go_wp2;generalize (w.alloc (G #[I T (-1000 - ((es 3).length:Int)),I T 0,I T 0] 66))=W0 at*
 go_loopw [6] (fun ix wr=>∃(t:Nat) (ys:List Value),t<=len/\ix=I T t/\wr.ownsRow base 66 3 (J la len lc) len ys/\(∀j,j<t*3->ys[j]?=Y (vR (es 3).length j))/\W0.grownBy wr (Value.ownBlock (J la len lc))) (fun ix _=>len - (intOf ix).toNat)
 case atStart=>exact⟨0,xs,by omega,rfl,hl0,fun j hj=>by omega,rfl,rfl,rfl,Nat.le_refl _,fun _ _ _=>rfl⟩
 case round=>
  obtain⟨t,ys,ht,rfl,ho,hys,hgr⟩:=hrel;have HO:=aA ho;have HY:Hid _:=hys;have HG:Hid _:=hgr;have hyl:ys.length=len*3:=ho.1;have hgs:=hgr.size;have hXr:∀i,wr.cell? ⟨w.heap.size,i,Z⟩=#[I T (-1000 - ((es 3).length:Int)),I T 0,I T 0][i]?:=fun i=>(World.cell?_of_block (w:=W0) (a:=⟨w.heap.size,i,Z⟩) (hgr.block _ (by show w.heap.size<_;omega) (Ne.symm hXl))).trans (hX0 i);clear ho hys hgr hc4
  by_cases htl:t<len
  ·obtain⟨gl,rfl,hgl1,hgl2,_⟩:=hrow.resolve_left (by omega);have hct0:=HO.out.cellAt (t*3) (by omega);rw[List.getElem?_eq_getElem (by omega)]at hct0;have hft0:=HO.out.frozenAt (t*3);have hct1:=HO.out.cellAt (t*3+1) (by omega);rw[List.getElem?_eq_getElem (by omega)]at hct1;have hft1:=HO.out.frozenAt (t*3+1);have hct2:=HO.out.cellAt (t*3+2) (by omega);rw[List.getElem?_eq_getElem (by omega)]at hct2;have hft2:=HO.out.frozenAt (t*3+2);have htl2:(t:Int)<(len:Int):=by omega
   have m0:=hXr 0;have m1:=hXr 1;have m2:=hXr 2;simp at m0 m1 m2;go_wp2;obtain⟨ho0,hgg0⟩:=gX HO.out (t*3) (I T (-1000 - ((es 3).length:Int)));obtain⟨ho1,hgg1⟩:=gX ho0 (t*3+1) (I T 0);obtain⟨ho2,hgg2⟩:=gX ho1 (t*3+2) (I T 0);have ho2:=ho2;have hg2:=(eX hgg0 (eX hgg1 hgg2))
   go_roundw
   case rel=> 
    refine⟨t+1,_,by omega,by go_num,ho2,fun j hj=>?_,?_⟩
    ·by_cases hjt:j<t*3
     ·rw[List.getElem?_set_ne (by omega),List.getElem?_set_ne (by omega),List.getElem?_set_ne (by omega)];exact HY.out j hjt
     ·rcases(show j=t*3∨j=t*3+1∨j=t*3+2 by omega) with rfl|rfl|rfl
      ·rw[List.getElem?_set_ne (by omega),List.getElem?_set_ne (by omega),List.getElem?_set_self (by(try simp);omega)];unfold vR;rw[if_pos (by omega)]
      ·rw[List.getElem?_set_ne (by omega),List.getElem?_set_self (by(try simp);omega)];unfold vR;rw[if_neg (by omega)]
      ·rw[List.getElem?_set_self (by(try simp);omega)];unfold vR;rw[if_neg (by omega)]
    ·exact eX HG.out hg2
   case measure=>simp[intOf];omega
  ·obtain rfl:t=len:=by omega
   have hK0:KC 3 66 base wr (J la t lc) t ys (wr.alloc (G #[J la t lc,J Z 0 0,J Z 0 0,J Z 0 0,I T (es 3).length] 159)) [J la t lc,J Z 0 0,J Z 0 0,J Z 0 0,I T (es 3).length]:=
    ⟨HO.out.alloc _,fun i=>(World.cell?_alloc_at _ _ _ _ rfl).trans (by simp),fun i=>by simp,World.grownBy_alloc wr _ _,by simp,fun hh=>by have:=(HO.out.lt _ hh).2;omega⟩
   have hbr:base<=wr.heap.size:=by omega
   have HK0:Hid _:=hK0;clear hK0;have hx1:∀i,(wr.alloc (G #[J la t lc,J Z 0 0,J Z 0 0,J Z 0 0,I T (es 3).length] 159)).cell? ⟨w.heap.size,i,Z⟩=#[I T (-1000 - ((es 3).length:Int)),I T 0,I T 0][i]?:=fun i=>(World.cell?_of_block (w:=wr) (a:=⟨w.heap.size,i,Z⟩) (HK0.out.old (by show w.heap.size<_;omega) hXl)).trans (hXr i);have m0:=hx1 0;have m1:=hx1 1;have m2:=hx1 2;simp at m0 m1 m2;clear hx1
   go_wp2_with(first|(at_builtin;go_loud (refine gR rfl _ _ 23 rfl base 66 i0 (.agg #[I T 0,I T 0,I T 0]) 3 24 (by omega) Tryz.underlying23 hi0 hz0 hz1 hz2 rfl (vR (es 3).length) (pD (es 3).length) _ t ys rfl (HK0.out.own.alloc _) HY.out ⟨wr.heap.size+1,0,Z⟩ 1 1 (by omega) rfl ?c1 ?c2 ?c3 ?c4 ?_)))
   case c1=> 
    intro j hj;rw[Go.WideShapes.add_plain,World.cell?_alloc_at _ _ _ _ (by simp[bL])];rcases(show j=0∨j=1∨j=2 by omega) with rfl|rfl|rfl
    ·unfold vR;rw[if_pos (by omega)];rfl
    ·unfold vR;rw[if_neg (by omega)];rfl
    ·unfold vR;rw[if_neg (by omega)];rfl
   case c2=>unfold maxLen;omega
   case c3=>omega
   case c4=>have:=HK0.out.lt;simp at this⊢;omega
   intro g1 cp1 x1 ho hg hb1 hb2 hb3 hma hall
   skip
   clear m0 m1 m2;obtain⟨hsp,hfr⟩:=HK0.out.spot _ hg;have s1:=hsp 1;have f1:=hfr 1;simp at s1;have q1:wr.heap.size<x1.heap.size:=by have h1:=HK0.out.lt;have h2:=hg.size;simp at h1 h2;omega
   have hK1:=HK0.out.next _ ho hg 1 (by simp) (J (Y ⟨g1,0,Z⟩) (t+1) cp1);have hz1':(wr.alloc (G #[J la t lc,J Z 0 0,J Z 0 0,J Z 0 0,I T (es 3).length] 159)).heap.size+1<=x1.heap.size:=by have:=hg.size;simpa using this
   have hA1:=AM.newC HK0.out hb1 hb2 (by rcases hb3 with h|h;exact .inl h;exact .inr (by simp[bL]at h⊢;omega)) hma 1 (J (Y ⟨g1,0,Z⟩) (t+1) cp1);clear hsp hfr ho hg hb1 hb2 hb3 hma hall;have HA1:Hid _:=hA1;clear hA1;have HK1:Hid _:=hK1;clear hK1;have hx2:∀i,(x1.setCell ⟨wr.heap.size,1,Z⟩ (J (Y ⟨g1,0,Z⟩) (t+1) cp1)).cell? ⟨w.heap.size,i,Z⟩=#[I T (-1000 - ((es 3).length:Int)),I T 0,I T 0][i]?:=fun i=>(World.cell?_of_block (w:=wr) (a:=⟨w.heap.size,i,Z⟩) (HK1.out.old (by show w.heap.size<_;omega) hXl)).trans (hXr i);have m0:=hx2 0;have m1:=hx2 1;have m2:=hx2 2;simp at m0 m1 m2;clear hx2
   go_wp2_with(first|(at_builtin;go_loud (refine gR rfl _ _ 23 rfl base 66 i0 (.agg #[I T 0,I T 0,I T 0]) 3 24 (by omega) Tryz.underlying23 hi0 hz0 hz1 hz2 rfl (vR (es 3).length) (pD (es 3).length) _ t ys rfl (HK1.out.own.alloc _) HY.out ⟨x1.heap.size,0,Z⟩ 2 2 (by omega) rfl ?c1 ?c2 ?c3 ?c4 ?_)))
   case c1=> 
    intro j hj;rw[Go.WideShapes.add_plain,World.cell?_alloc_at _ _ _ _ (by simp[bL])];rcases(show j=0∨j=1∨j=2∨j=3∨j=4∨j=5 by omega) with rfl|rfl|rfl|rfl|rfl|rfl
    ·unfold vR;rw[if_pos (by omega)];rfl
    ·unfold vR;rw[if_neg (by omega)];rfl
    ·unfold vR;rw[if_neg (by omega)];rfl
    ·unfold vR;rw[if_pos (by omega)];rfl
    ·unfold vR;rw[if_neg (by omega)];rfl
    ·unfold vR;rw[if_neg (by omega)];rfl
   case c2=>unfold maxLen;omega
   case c3=>omega
   case c4=>have:=HK1.out.lt;simp at this⊢;omega
   intro g2 cp2 x2 ho hg hb1 hb2 hb3 hma hall;clear s1 f1;clear m0 m1 m2;obtain⟨hsp,hfr⟩:=HK1.out.spot _ hg;have s1:=hsp 2;have f1:=hfr 2;simp at s1;have q1:wr.heap.size<x2.heap.size:=by have h1:=HK1.out.lt;have h2:=hg.size;simp at h1 h2;omega
   have hK2:=HK1.out.next _ ho hg 2 (by simp) (J (Y ⟨g2,0,Z⟩) (t+2) cp2);have hz2':(x1.setCell ⟨wr.heap.size,1,Z⟩ (J (Y ⟨g1,0,Z⟩) (t+1) cp1)).heap.size+1<=x2.heap.size:=by have:=hg.size;simpa using this
   have hA2:=AM.newC HK1.out hb1 hb2 (by rcases hb3 with h|h;exact .inl h;exact .inr (by simp[bL]at h⊢;omega)) hma 2 (J (Y ⟨g2,0,Z⟩) (t+2) cp2);have hA1:=HA1.out.nextC _ hz2' (by simp[bL];try omega) hall (by omega) 2 (J (Y ⟨g2,0,Z⟩) (t+2) cp2);clear HA1;clear hsp hfr ho hg hb1 hb2 hb3 hma hall;have HA1:Hid _:=hA1;clear hA1;have HA2:Hid _:=hA2;clear hA2;have HK2:Hid _:=hK2;clear hK2;have hx3:∀i,(x2.setCell ⟨wr.heap.size,2,Z⟩ (J (Y ⟨g2,0,Z⟩) (t+2) cp2)).cell? ⟨w.heap.size,i,Z⟩=#[I T (-1000 - ((es 3).length:Int)),I T 0,I T 0][i]?:=fun i=>(World.cell?_of_block (w:=wr) (a:=⟨w.heap.size,i,Z⟩) (HK2.out.old (by show w.heap.size<_;omega) hXl)).trans (hXr i);have m0:=hx3 0;have m1:=hx3 1;have m2:=hx3 2;simp at m0 m1 m2;clear hx3
   go_wp2_with(first|(at_builtin;go_loud (refine gR rfl _ _ 23 rfl base 66 i0 (.agg #[I T 0,I T 0,I T 0]) 3 24 (by omega) Tryz.underlying23 hi0 hz0 hz1 hz2 rfl (vR (es 3).length) (pD (es 3).length) _ t ys rfl (HK2.out.own.alloc _) HY.out ⟨x2.heap.size,0,Z⟩ 3 3 (by omega) rfl ?c1 ?c2 ?c3 ?c4 ?_)))
   case c1=> 
    intro j hj;rw[Go.WideShapes.add_plain,World.cell?_alloc_at _ _ _ _ (by simp[bL])];rcases(show j=0∨j=1∨j=2∨j=3∨j=4∨j=5∨j=6∨j=7∨j=8 by omega) with rfl|rfl|rfl|rfl|rfl|rfl|rfl|rfl|rfl
    ·unfold vR;rw[if_pos (by omega)];rfl
    ·unfold vR;rw[if_neg (by omega)];rfl
    ·unfold vR;rw[if_neg (by omega)];rfl
    ·unfold vR;rw[if_pos (by omega)];rfl
    ·unfold vR;rw[if_neg (by omega)];rfl
    ·unfold vR;rw[if_neg (by omega)];rfl
    ·unfold vR;rw[if_pos (by omega)];rfl
    ·unfold vR;rw[if_neg (by omega)];rfl
    ·unfold vR;rw[if_neg (by omega)];rfl
   case c2=>unfold maxLen;omega
   case c3=>omega
   case c4=>have:=HK2.out.lt;simp at this⊢;omega
   intro g3 cp3 x3 ho hg hb1 hb2 hb3 hma hall;clear s1 f1;clear m0 m1 m2;obtain⟨hsp,hfr⟩:=HK2.out.spot _ hg;have s1:=hsp 3;have f1:=hfr 3;simp at s1;have q1:wr.heap.size<x3.heap.size:=by have h1:=HK2.out.lt;have h2:=hg.size;simp at h1 h2;omega
   have hK3:=HK2.out.next _ ho hg 3 (by simp) (J (Y ⟨g3,0,Z⟩) (t+3) cp3);have hz3':(x2.setCell ⟨wr.heap.size,2,Z⟩ (J (Y ⟨g2,0,Z⟩) (t+2) cp2)).heap.size+1<=x3.heap.size:=by have:=hg.size;simpa using this
   have hA3:=AM.newC HK2.out hb1 hb2 (by rcases hb3 with h|h;exact .inl h;exact .inr (by simp[bL]at h⊢;omega)) hma 3 (J (Y ⟨g3,0,Z⟩) (t+3) cp3);have hA1:=HA1.out.nextC _ hz3' (by simp[bL];try omega) hall (by omega) 3 (J (Y ⟨g3,0,Z⟩) (t+3) cp3);clear HA1;have hA2:=HA2.out.nextC _ hz3' (by simp[bL];try omega) hall (by omega) 3 (J (Y ⟨g3,0,Z⟩) (t+3) cp3);clear HA2;clear hsp hfr ho hg hb1 hb2 hb3 hma hall;have HA1:Hid _:=hA1;clear hA1;have HA2:Hid _:=hA2;clear hA2;have HA3:Hid _:=hA3;clear hA3;have HK3:Hid _:=hK3;clear hK3
   go_wp2_with fail
   generalize x3.setCell ⟨wr.heap.size,3,Z⟩ (J (Y ⟨g3,0,Z⟩) (t+3) cp3)=y at*;clear s1 f1 hz1' hz2' hz3';obtain⟨i5,hi5,hy0,hy1,hy2⟩:=info_parts FJ;have b0:=HK3.out.box 0;have b1:=HK3.out.box 1;have b2:=HK3.out.box 2;have b3:=HK3.out.box 3;have b4:=HK3.out.box 4;simp at b0 b1 b2 b3 b4;have hgy0:=eX (eX (nY hg0) HG.out) HK3.out.gr;have hwy:=hgy0.size;have HBk:=aA (HB.out.shift hgy0.size (fun g h1 h2=>hgy0.block g h1 (fun hh=>h2 (.inr hh.symm))) (fun g _ hx=>.inl hx));have hRy:=(HBk.out.cell 3 (by omega)).trans (by rw[HV.out]);have hRf:=HBk.out.free 7;have OB:Hid (y.ownsRow base 159 5 (J av (es 3).length cv) (es 3).length ((es 3).flatMap bU.cells)):=by have:=HBk.out.own 3 (by omega);rw[HV.out]at this;exact this
   have hbase:=HBk.out.le;have hRlt:R<y.heap.size:=Nat.lt_of_lt_of_le HBk.out.lt hbase;have hXy:=HK3.out.lt;clear hrow
   go_region_law (refine gC rfl (.tmp 51) (.tmp 53) 85 rfl base 159 i5 (.agg #[J Z 0 0,J Z 0 0,J Z 0 0,J Z 0 0,I T 0]) 5 104 Tryz.underlying85 hi5 hy0 hy1 hy2 rfl (by decide) (J av (es 3).length cv) (es 3).length ((es 3).flatMap bU.cells) (by simp[Act.eval]) (by exact(World.ownsRow.alloc OB.out _).drew) ⟨y.heap.size,0,Z⟩ 1 1 [J la t lc,J (Y ⟨g1,0,Z⟩) (t+1) cp1,J (Y ⟨g2,0,Z⟩) (t+2) cp2,J (Y ⟨g3,0,Z⟩) (t+3) cp3,I T (es 3).length] (by omega) (by simp[Act.eval]) rfl (by intro j u hu;rw[Go.WideShapes.add_plain];refine(World.cell?_alloc_at _ _ _ _ rfl).trans ?_;simpa using hu) (by intro u hu;simp at hu;rcases hu with rfl|rfl|rfl|rfl|rfl<;>rfl) (by unfold maxLen;omega) (by omega) (by show _<=(World.alloc _ _).heap.size;simp;omega) ?_;intro v' w' ho' hg' hloc;obtain⟨va,vc,rfl⟩:=aO ho';have hRo:some R≠Value.ownBlock (J av (es 3).length cv):=(fun hh=>by have h1:=(OB.out.lt R hh.symm).1;have h2:=HBk.out.lt;omega);have hRb2:w'.heap[R]?=y.heap[R]?:=(hg'.block R (by show _<(World.alloc _ _).heap.size;simp;omega) hRo).trans (heap_alloc_old y _ hRlt);have hRw1:w'.cell? ⟨R,7,Z⟩=Y (J av (es 3).length cv):=((World.cell?_of_block (w:=y) (a:=⟨R,7,Z⟩) hRb2).trans hRy);have hRw2:w'.frozen? ⟨R,7,Z⟩=false:=((World.frozen?_of_block (w:=y) (a:=⟨R,7,Z⟩) hRb2).trans hRf))
   all_goals go_wp2
   all_goals refine bodyPost_end (v:=.tuple #[]) (by simp[results,Tryz.results119,go_sem]) rfl ?_
   all_goals
    have hgy:y.grownBy w' (Value.ownBlock (J av (es 3).length cv)):=⟨hg'.os,hg'.tape,hg'.output,Nat.le_trans (by show _<=(World.alloc _ _).heap.size;simp) hg'.size,fun k hk hne=>(hg'.block k (by show _<(World.alloc _ _).heap.size;simp;omega) hne).trans (heap_alloc_old y _ hk)⟩
    have hlocy:∃g,Value.ownBlock (J va ((es 3).length+1) vc)=Y g/\(Value.ownBlock (J av (es 3).length cv)=Y g∨y.heap.size<=g):=by
     obtain⟨g',h1,h2⟩:=hloc;refine⟨g',h1,?_⟩;rcases h2 with h2|⟨h2,_⟩
     ·exact .inl h2
     ·exact .inr (Nat.le_trans (by show _<=(World.alloc _ _).heap.size;simp) h2)
    have hextn:∀g,y.heap.size<=g->¬ext g:=fun g hg=>HXN.out g (by omega)
    have hbadg:∀g,base<=g->(Value.ownBlock (J la t lc)=Y g∨wr.heap.size<=g)->¬fC ext v g:=by
     intro g h1 h2 h3;rcases h3 with⟨q,hq,h3⟩|h3
     ·rcases h2 with h2|h2
      ·exact HB.out.ex q hq g h3 (.inr h2)
      ·have:=(HB.out.low hq h3).2;omega
     ·rcases h2 with h2|h2
      ·exact HXL.out g h2 h3
      ·exact HXN.out g (by omega) h3
    have am:∀g k,AM base wr (J la t lc) (vR (es 3).length) (k*3) y g->∀cp,k<=4194304->dU 3 (vR (es 3).length) y base (fC ext v) (J (Y ⟨g,0,Z⟩) k cp):=by
     intro g k hA cp hk;exact⟨_,_,_,rfl,hk,.inr ⟨g,rfl,hA.low,hA.lt,hbadg g hA.low hA.is,hA.ma⟩⟩
    have hsl:dU 3 (vR (es 3).length) y base (fC ext v) (J la t lc):=by
     refine⟨la,t,lc,rfl,by omega,?_⟩;obtain⟨la',lc',he,hrow'⟩:=dN HK3.out.own;cases he;rcases hrow' with h0|⟨g,h1,h2,h3,h4⟩
     ·exact .inl h0
     ·exact .inr ⟨g,h1,h2,h3,hbadg g h2 (.inl (by rw[h1];rfl)),fun j hj=>h4 j _ (HY.out j hj)⟩
    have hen:jC 3 y base (fC ext v) ⟨J la t lc,J (Y ⟨g1,0,Z⟩) (t+1) cp1,J (Y ⟨g2,0,Z⟩) (t+2) cp2,J (Y ⟨g3,0,Z⟩) (t+3) cp3,(es 3).length⟩:=⟨hsl,am g1 _ HA1.out cp1 (by omega),am g2 _ HA2.out cp2 (by omega),am g3 _ HA3.out cp3 (by omega)⟩;refine⟨rfl,?_⟩;refine⟨J va ((es 3).length+1) vc,⟨J la t lc,J (Y ⟨g1,0,Z⟩) (t+1) cp1,J (Y ⟨g2,0,Z⟩) (t+2) cp2,J (Y ⟨g3,0,Z⟩) (t+3) cp3,(es 3).length⟩,?_,?_,?_,?_⟩
    ·exact HBk.out.push 3 (by omega) _ _ rfl ho' (by rw[HV.out];exact hgy) (by rw[HV.out];exact hlocy) hen hextn hsm
    ·intro g hg;obtain⟨g',h1,h2⟩:=hlocy;rw[h1]at hg;obtain rfl:g'=g:=by simpa using hg
     rcases h2 with h2|h2
     ·exact .inl (by rw[HV.out];exact h2)
     ·exact .inr (by omega)
    ·have hgs:=iZ w' ⟨R,7,Z⟩ (J va ((es 3).length+1) vc);refine⟨hgs.os.trans (hgy.os.trans hgy0.os),hgs.tape.trans (hgy.tape.trans hgy0.tape),hgs.output.trans (hgy.output.trans hgy0.output),Nat.le_trans hwy (Nat.le_trans hgy.size hgs.size),fun k hk hA=>?_⟩;have hk3:=hgy.size;exact(hgs.block k (by omega) (fun hh=>hA (.inl (by simpa using hh)))).trans ((hgy.block k (by omega) (fun hh=>hA (.inr (.inl (by rw[HV.out];exact hh))))).trans (hgy0.block k hk (fun hh=>hA (.inr (.inr hh)))))
    ·intro i hi;rw[World.cell?_setCell_other _ _ _ _ (by intro hh;have:=congrArg Addr.off hh;simp at this;omega)];have hRl:some R≠Value.ownBlock (J la t lc):=fun hh=>by have:=(World.ownsRow.lt HL.out R hh.symm).1;omega
     exact(World.cell?_of_block (w:=y) (a:=⟨R,i,Z⟩) hRb2).trans (World.cell?_of_block (w:=w) (a:=⟨R,i,Z⟩) (hgy0.block R hRw hRl))
theorem uS(ext:Nat->Prop)(w:World)(base R:Nat)(v:Nat->Value)(es:Nat->List bU)(l:Value)(len:Nat)(xs:List Value)(hB:cD (fun g=>ext g∨l.ownBlock=Y g) w base R v es)(hl:w.ownsRow base 76 5 l len xs)(hlen:len<=1000000)(hxl:∀g,l.ownBlock=Y g->¬ext g)(hxn:∀g,w.heap.size<=g->¬ext g)(hsm:(es 4).length<4194304):
  Calls pG 120 #[P0 (Y ⟨R,4,Z⟩),l] w fun e w'=>e=.returned (.tuple #[])/\∃v' en,cD ext w' base R (dV v 4 v') (dV es 4 ((es 4)++[en]))/\(∀g,v'.ownBlock=Y g->(v 4).ownBlock=Y g∨w.heap.size<=g)/\aK (fun b=>b=R∨some b=(v 4).ownBlock∨some b=l.ownBlock) w w'/\∀i,i≠8->w'.cell? ⟨R,i,Z⟩=w.cell? ⟨R,i,Z⟩:=by
 obtain⟨i0,hi0,hz0,hz1,hz2⟩:=info_parts tA;obtain⟨la,lc,rfl,hrow⟩:=dN hl;obtain⟨av,cv,hvs,hrv⟩:=dN (hB.own 4 (by omega));have hRw:R<w.heap.size:=Nat.lt_of_lt_of_le hB.lt hB.le;have hRb:=hB.lt;have hbw:=hB.le;have hc4:=(hB.cell 4 (by omega)).trans (by rw[hvs]);have HB:Hid _:=hB;have HV:Hid _:=hvs;have HXL:Hid _:=hxl;have HXN:Hid _:=hxn;have HL:Hid _:=hl;clear hB hrv hvs hxl hxn;have hl0:(w.alloc (G #[I T (-1000 - ((es 4).length:Int)),I T 0,I T 0,I T 0,I T 0] 76)).ownsRow base 76 5 (J la len lc) len xs:=hl.alloc _;have hs0:(w.alloc (G #[I T (-1000 - ((es 4).length:Int)),I T 0,I T 0,I T 0,I T 0] 76)).heap.size=w.heap.size+1:=by simp
 have hg0:w.grownBy (w.alloc (G #[I T (-1000 - ((es 4).length:Int)),I T 0,I T 0,I T 0,I T 0] 76)) none:=World.grownBy_alloc w _ _;have hX0:∀i,(w.alloc (G #[I T (-1000 - ((es 4).length:Int)),I T 0,I T 0,I T 0,I T 0] 76)).cell? ⟨w.heap.size,i,Z⟩=#[I T (-1000 - ((es 4).length:Int)),I T 0,I T 0,I T 0,I T 0][i]?:=fun i=>World.cell?_alloc_at _ _ _ _ rfl;have hXl:Value.ownBlock (J la len lc)≠some w.heap.size:=fun hh=>by have:=(hl.lt _ hh).2;omega
 clear hl;go_enter Tryz.func120,Tryz.ntmps120;go_wp2;generalize (w.alloc (G #[I T (-1000 - ((es 4).length:Int)),I T 0,I T 0,I T 0,I T 0] 76))=W0 at*
 go_loopw [6] (fun ix wr=>∃(t:Nat) (ys:List Value),t<=len/\ix=I T t/\wr.ownsRow base 76 5 (J la len lc) len ys/\(∀j,j<t*5->ys[j]?=Y (vS (es 4).length j))/\W0.grownBy wr (Value.ownBlock (J la len lc))) (fun ix _=>len - (intOf ix).toNat)
 case atStart=>exact⟨0,xs,by omega,rfl,hl0,fun j hj=>by omega,rfl,rfl,rfl,Nat.le_refl _,fun _ _ _=>rfl⟩
 case round=>
  obtain⟨t,ys,ht,rfl,ho,hys,hgr⟩:=hrel;have HO:=aA ho;have HY:Hid _:=hys;have HG:Hid _:=hgr;have hyl:ys.length=len*5:=ho.1;have hgs:=hgr.size;have hXr:∀i,wr.cell? ⟨w.heap.size,i,Z⟩=#[I T (-1000 - ((es 4).length:Int)),I T 0,I T 0,I T 0,I T 0][i]?:=fun i=>(World.cell?_of_block (w:=W0) (a:=⟨w.heap.size,i,Z⟩) (hgr.block _ (by show w.heap.size<_;omega) (Ne.symm hXl))).trans (hX0 i);clear ho hys hgr hc4
  by_cases htl:t<len
  ·obtain⟨gl,rfl,hgl1,hgl2,_⟩:=hrow.resolve_left (by omega);have hct0:=HO.out.cellAt (t*5) (by omega);rw[List.getElem?_eq_getElem (by omega)]at hct0;have hft0:=HO.out.frozenAt (t*5);have hct1:=HO.out.cellAt (t*5+1) (by omega);rw[List.getElem?_eq_getElem (by omega)]at hct1;have hft1:=HO.out.frozenAt (t*5+1);have hct2:=HO.out.cellAt (t*5+2) (by omega);rw[List.getElem?_eq_getElem (by omega)]at hct2;have hft2:=HO.out.frozenAt (t*5+2);have hct3:=HO.out.cellAt (t*5+3) (by omega);rw[List.getElem?_eq_getElem (by omega)]at hct3;have hft3:=HO.out.frozenAt (t*5+3);have hct4:=HO.out.cellAt (t*5+4) (by omega);rw[List.getElem?_eq_getElem (by omega)]at hct4;have hft4:=HO.out.frozenAt (t*5+4);have htl2:(t:Int)<(len:Int):=by omega
   have m0:=hXr 0;have m1:=hXr 1;have m2:=hXr 2;have m3:=hXr 3;have m4:=hXr 4;simp at m0 m1 m2 m3 m4;go_wp2;obtain⟨ho0,hgg0⟩:=gX HO.out (t*5) (I T (-1000 - ((es 4).length:Int)));obtain⟨ho1,hgg1⟩:=gX ho0 (t*5+1) (I T 0);obtain⟨ho2,hgg2⟩:=gX ho1 (t*5+2) (I T 0);obtain⟨ho3,hgg3⟩:=gX ho2 (t*5+3) (I T 0);obtain⟨ho4,hgg4⟩:=gX ho3 (t*5+4) (I T 0);have ho2:=ho4;have hg2:=(eX hgg0 (eX hgg1 (eX hgg2 (eX hgg3 hgg4))))
   go_roundw
   case rel=> 
    refine⟨t+1,_,by omega,by go_num,ho2,fun j hj=>?_,?_⟩
    ·by_cases hjt:j<t*5
     ·rw[List.getElem?_set_ne (by omega),List.getElem?_set_ne (by omega),List.getElem?_set_ne (by omega),List.getElem?_set_ne (by omega),List.getElem?_set_ne (by omega)];exact HY.out j hjt
     ·rcases(show j=t*5∨j=t*5+1∨j=t*5+2∨j=t*5+3∨j=t*5+4 by omega) with rfl|rfl|rfl|rfl|rfl
      ·rw[List.getElem?_set_ne (by omega),List.getElem?_set_ne (by omega),List.getElem?_set_ne (by omega),List.getElem?_set_ne (by omega),List.getElem?_set_self (by(try simp);omega)];unfold vS;rw[if_pos (by omega)]
      ·rw[List.getElem?_set_ne (by omega),List.getElem?_set_ne (by omega),List.getElem?_set_ne (by omega),List.getElem?_set_self (by(try simp);omega)];unfold vS;rw[if_neg (by omega)]
      ·rw[List.getElem?_set_ne (by omega),List.getElem?_set_ne (by omega),List.getElem?_set_self (by(try simp);omega)];unfold vS;rw[if_neg (by omega)]
      ·rw[List.getElem?_set_ne (by omega),List.getElem?_set_self (by(try simp);omega)];unfold vS;rw[if_neg (by omega)]
      ·rw[List.getElem?_set_self (by(try simp);omega)];unfold vS;rw[if_neg (by omega)]
    ·exact eX HG.out hg2
   case measure=>simp[intOf];omega
  ·obtain rfl:t=len:=by omega
   have hK0:KC 5 76 base wr (J la t lc) t ys (wr.alloc (G #[J la t lc,J Z 0 0,J Z 0 0,J Z 0 0,I T (es 4).length] 162)) [J la t lc,J Z 0 0,J Z 0 0,J Z 0 0,I T (es 4).length]:=
    ⟨HO.out.alloc _,fun i=>(World.cell?_alloc_at _ _ _ _ rfl).trans (by simp),fun i=>by simp,World.grownBy_alloc wr _ _,by simp,fun hh=>by have:=(HO.out.lt _ hh).2;omega⟩
   have hbr:base<=wr.heap.size:=by omega
   have HK0:Hid _:=hK0;clear hK0;have hx1:∀i,(wr.alloc (G #[J la t lc,J Z 0 0,J Z 0 0,J Z 0 0,I T (es 4).length] 162)).cell? ⟨w.heap.size,i,Z⟩=#[I T (-1000 - ((es 4).length:Int)),I T 0,I T 0,I T 0,I T 0][i]?:=fun i=>(World.cell?_of_block (w:=wr) (a:=⟨w.heap.size,i,Z⟩) (HK0.out.old (by show w.heap.size<_;omega) hXl)).trans (hXr i);have m0:=hx1 0;have m1:=hx1 1;have m2:=hx1 2;have m3:=hx1 3;have m4:=hx1 4;simp at m0 m1 m2 m3 m4;clear hx1
   go_wp2_with(first|(at_builtin;go_loud (refine gR rfl _ _ 52 rfl base 76 i0 (.agg #[I T 0,I T 0,I T 0,I T 0,I T 0]) 5 40 (by omega) Tryz.underlying52 hi0 hz0 hz1 hz2 rfl (vS (es 4).length) (pE (es 4).length) _ t ys rfl (HK0.out.own.alloc _) HY.out ⟨wr.heap.size+1,0,Z⟩ 1 1 (by omega) rfl ?c1 ?c2 ?c3 ?c4 ?_)))
   case c1=> 
    intro j hj;rw[Go.WideShapes.add_plain,World.cell?_alloc_at _ _ _ _ (by simp[bL])];rcases(show j=0∨j=1∨j=2∨j=3∨j=4 by omega) with rfl|rfl|rfl|rfl|rfl
    ·unfold vS;rw[if_pos (by omega)];rfl
    ·unfold vS;rw[if_neg (by omega)];rfl
    ·unfold vS;rw[if_neg (by omega)];rfl
    ·unfold vS;rw[if_neg (by omega)];rfl
    ·unfold vS;rw[if_neg (by omega)];rfl
   case c2=>unfold maxLen;omega
   case c3=>omega
   case c4=>have:=HK0.out.lt;simp at this⊢;omega
   intro g1 cp1 x1 ho hg hb1 hb2 hb3 hma hall
   skip
   clear m0 m1 m2 m3 m4;obtain⟨hsp,hfr⟩:=HK0.out.spot _ hg;have s1:=hsp 1;have f1:=hfr 1;simp at s1;have q1:wr.heap.size<x1.heap.size:=by have h1:=HK0.out.lt;have h2:=hg.size;simp at h1 h2;omega
   have hK1:=HK0.out.next _ ho hg 1 (by simp) (J (Y ⟨g1,0,Z⟩) (t+1) cp1);have hz1':(wr.alloc (G #[J la t lc,J Z 0 0,J Z 0 0,J Z 0 0,I T (es 4).length] 162)).heap.size+1<=x1.heap.size:=by have:=hg.size;simpa using this
   have hA1:=AM.newC HK0.out hb1 hb2 (by rcases hb3 with h|h;exact .inl h;exact .inr (by simp[bL]at h⊢;omega)) hma 1 (J (Y ⟨g1,0,Z⟩) (t+1) cp1);clear hsp hfr ho hg hb1 hb2 hb3 hma hall;have HA1:Hid _:=hA1;clear hA1;have HK1:Hid _:=hK1;clear hK1;have hx2:∀i,(x1.setCell ⟨wr.heap.size,1,Z⟩ (J (Y ⟨g1,0,Z⟩) (t+1) cp1)).cell? ⟨w.heap.size,i,Z⟩=#[I T (-1000 - ((es 4).length:Int)),I T 0,I T 0,I T 0,I T 0][i]?:=fun i=>(World.cell?_of_block (w:=wr) (a:=⟨w.heap.size,i,Z⟩) (HK1.out.old (by show w.heap.size<_;omega) hXl)).trans (hXr i);have m0:=hx2 0;have m1:=hx2 1;have m2:=hx2 2;have m3:=hx2 3;have m4:=hx2 4;simp at m0 m1 m2 m3 m4;clear hx2
   go_wp2_with(first|(at_builtin;go_loud (refine gR rfl _ _ 52 rfl base 76 i0 (.agg #[I T 0,I T 0,I T 0,I T 0,I T 0]) 5 40 (by omega) Tryz.underlying52 hi0 hz0 hz1 hz2 rfl (vS (es 4).length) (pE (es 4).length) _ t ys rfl (HK1.out.own.alloc _) HY.out ⟨x1.heap.size,0,Z⟩ 2 2 (by omega) rfl ?c1 ?c2 ?c3 ?c4 ?_)))
   case c1=> 
    intro j hj;rw[Go.WideShapes.add_plain,World.cell?_alloc_at _ _ _ _ (by simp[bL])];rcases(show j=0∨j=1∨j=2∨j=3∨j=4∨j=5∨j=6∨j=7∨j=8∨j=9 by omega) with rfl|rfl|rfl|rfl|rfl|rfl|rfl|rfl|rfl|rfl
    ·unfold vS;rw[if_pos (by omega)];rfl
    ·unfold vS;rw[if_neg (by omega)];rfl
    ·unfold vS;rw[if_neg (by omega)];rfl
    ·unfold vS;rw[if_neg (by omega)];rfl
    ·unfold vS;rw[if_neg (by omega)];rfl
    ·unfold vS;rw[if_pos (by omega)];rfl
    ·unfold vS;rw[if_neg (by omega)];rfl
    ·unfold vS;rw[if_neg (by omega)];rfl
    ·unfold vS;rw[if_neg (by omega)];rfl
    ·unfold vS;rw[if_neg (by omega)];rfl
   case c2=>unfold maxLen;omega
   case c3=>omega
   case c4=>have:=HK1.out.lt;simp at this⊢;omega
   intro g2 cp2 x2 ho hg hb1 hb2 hb3 hma hall;clear s1 f1;clear m0 m1 m2 m3 m4;obtain⟨hsp,hfr⟩:=HK1.out.spot _ hg;have s1:=hsp 2;have f1:=hfr 2;simp at s1;have q1:wr.heap.size<x2.heap.size:=by have h1:=HK1.out.lt;have h2:=hg.size;simp at h1 h2;omega
   have hK2:=HK1.out.next _ ho hg 2 (by simp) (J (Y ⟨g2,0,Z⟩) (t+2) cp2);have hz2':(x1.setCell ⟨wr.heap.size,1,Z⟩ (J (Y ⟨g1,0,Z⟩) (t+1) cp1)).heap.size+1<=x2.heap.size:=by have:=hg.size;simpa using this
   have hA2:=AM.newC HK1.out hb1 hb2 (by rcases hb3 with h|h;exact .inl h;exact .inr (by simp[bL]at h⊢;omega)) hma 2 (J (Y ⟨g2,0,Z⟩) (t+2) cp2);have hA1:=HA1.out.nextC _ hz2' (by simp[bL];try omega) hall (by omega) 2 (J (Y ⟨g2,0,Z⟩) (t+2) cp2);clear HA1;clear hsp hfr ho hg hb1 hb2 hb3 hma hall;have HA1:Hid _:=hA1;clear hA1;have HA2:Hid _:=hA2;clear hA2;have HK2:Hid _:=hK2;clear hK2;have hx3:∀i,(x2.setCell ⟨wr.heap.size,2,Z⟩ (J (Y ⟨g2,0,Z⟩) (t+2) cp2)).cell? ⟨w.heap.size,i,Z⟩=#[I T (-1000 - ((es 4).length:Int)),I T 0,I T 0,I T 0,I T 0][i]?:=fun i=>(World.cell?_of_block (w:=wr) (a:=⟨w.heap.size,i,Z⟩) (HK2.out.old (by show w.heap.size<_;omega) hXl)).trans (hXr i);have m0:=hx3 0;have m1:=hx3 1;have m2:=hx3 2;have m3:=hx3 3;have m4:=hx3 4;simp at m0 m1 m2 m3 m4;clear hx3
   go_wp2_with(first|(at_builtin;go_loud (refine gR rfl _ _ 52 rfl base 76 i0 (.agg #[I T 0,I T 0,I T 0,I T 0,I T 0]) 5 40 (by omega) Tryz.underlying52 hi0 hz0 hz1 hz2 rfl (vS (es 4).length) (pE (es 4).length) _ t ys rfl (HK2.out.own.alloc _) HY.out ⟨x2.heap.size,0,Z⟩ 3 3 (by omega) rfl ?c1 ?c2 ?c3 ?c4 ?_)))
   case c1=> 
    intro j hj;rw[Go.WideShapes.add_plain,World.cell?_alloc_at _ _ _ _ (by simp[bL])];rcases(show j=0∨j=1∨j=2∨j=3∨j=4∨j=5∨j=6∨j=7∨j=8∨j=9∨j=10∨j=11∨j=12∨j=13∨j=14 by omega) with rfl|rfl|rfl|rfl|rfl|rfl|rfl|rfl|rfl|rfl|rfl|rfl|rfl|rfl|rfl
    ·unfold vS;rw[if_pos (by omega)];rfl
    ·unfold vS;rw[if_neg (by omega)];rfl
    ·unfold vS;rw[if_neg (by omega)];rfl
    ·unfold vS;rw[if_neg (by omega)];rfl
    ·unfold vS;rw[if_neg (by omega)];rfl
    ·unfold vS;rw[if_pos (by omega)];rfl
    ·unfold vS;rw[if_neg (by omega)];rfl
    ·unfold vS;rw[if_neg (by omega)];rfl
    ·unfold vS;rw[if_neg (by omega)];rfl
    ·unfold vS;rw[if_neg (by omega)];rfl
    ·unfold vS;rw[if_pos (by omega)];rfl
    ·unfold vS;rw[if_neg (by omega)];rfl
    ·unfold vS;rw[if_neg (by omega)];rfl
    ·unfold vS;rw[if_neg (by omega)];rfl
    ·unfold vS;rw[if_neg (by omega)];rfl
   case c2=>unfold maxLen;omega
   case c3=>omega
   case c4=>have:=HK2.out.lt;simp at this⊢;omega
   intro g3 cp3 x3 ho hg hb1 hb2 hb3 hma hall;clear s1 f1;clear m0 m1 m2 m3 m4;obtain⟨hsp,hfr⟩:=HK2.out.spot _ hg;have s1:=hsp 3;have f1:=hfr 3;simp at s1;have q1:wr.heap.size<x3.heap.size:=by have h1:=HK2.out.lt;have h2:=hg.size;simp at h1 h2;omega
   have hK3:=HK2.out.next _ ho hg 3 (by simp) (J (Y ⟨g3,0,Z⟩) (t+3) cp3);have hz3':(x2.setCell ⟨wr.heap.size,2,Z⟩ (J (Y ⟨g2,0,Z⟩) (t+2) cp2)).heap.size+1<=x3.heap.size:=by have:=hg.size;simpa using this
   have hA3:=AM.newC HK2.out hb1 hb2 (by rcases hb3 with h|h;exact .inl h;exact .inr (by simp[bL]at h⊢;omega)) hma 3 (J (Y ⟨g3,0,Z⟩) (t+3) cp3);have hA1:=HA1.out.nextC _ hz3' (by simp[bL];try omega) hall (by omega) 3 (J (Y ⟨g3,0,Z⟩) (t+3) cp3);clear HA1;have hA2:=HA2.out.nextC _ hz3' (by simp[bL];try omega) hall (by omega) 3 (J (Y ⟨g3,0,Z⟩) (t+3) cp3);clear HA2;clear hsp hfr ho hg hb1 hb2 hb3 hma hall;have HA1:Hid _:=hA1;clear hA1;have HA2:Hid _:=hA2;clear hA2;have HA3:Hid _:=hA3;clear hA3;have HK3:Hid _:=hK3;clear hK3
   go_wp2_with fail
   generalize x3.setCell ⟨wr.heap.size,3,Z⟩ (J (Y ⟨g3,0,Z⟩) (t+3) cp3)=y at*;clear s1 f1 hz1' hz2' hz3';obtain⟨i5,hi5,hy0,hy1,hy2⟩:=info_parts FK;have b0:=HK3.out.box 0;have b1:=HK3.out.box 1;have b2:=HK3.out.box 2;have b3:=HK3.out.box 3;have b4:=HK3.out.box 4;simp at b0 b1 b2 b3 b4;have hgy0:=eX (eX (nY hg0) HG.out) HK3.out.gr;have hwy:=hgy0.size;have HBk:=aA (HB.out.shift hgy0.size (fun g h1 h2=>hgy0.block g h1 (fun hh=>h2 (.inr hh.symm))) (fun g _ hx=>.inl hx));have hRy:=(HBk.out.cell 4 (by omega)).trans (by rw[HV.out]);have hRf:=HBk.out.free 8;have OB:Hid (y.ownsRow base 162 5 (J av (es 4).length cv) (es 4).length ((es 4).flatMap bU.cells)):=by have:=HBk.out.own 4 (by omega);rw[HV.out]at this;exact this
   have hbase:=HBk.out.le;have hRlt:R<y.heap.size:=Nat.lt_of_lt_of_le HBk.out.lt hbase;have hXy:=HK3.out.lt;clear hrow
   go_region_law (refine gC rfl (.tmp 51) (.tmp 53) 86 rfl base 162 i5 (.agg #[J Z 0 0,J Z 0 0,J Z 0 0,J Z 0 0,I T 0]) 5 104 Tryz.underlying86 hi5 hy0 hy1 hy2 rfl (by decide) (J av (es 4).length cv) (es 4).length ((es 4).flatMap bU.cells) (by simp[Act.eval]) (by exact(World.ownsRow.alloc OB.out _).drew) ⟨y.heap.size,0,Z⟩ 1 1 [J la t lc,J (Y ⟨g1,0,Z⟩) (t+1) cp1,J (Y ⟨g2,0,Z⟩) (t+2) cp2,J (Y ⟨g3,0,Z⟩) (t+3) cp3,I T (es 4).length] (by omega) (by simp[Act.eval]) rfl (by intro j u hu;rw[Go.WideShapes.add_plain];refine(World.cell?_alloc_at _ _ _ _ rfl).trans ?_;simpa using hu) (by intro u hu;simp at hu;rcases hu with rfl|rfl|rfl|rfl|rfl<;>rfl) (by unfold maxLen;omega) (by omega) (by show _<=(World.alloc _ _).heap.size;simp;omega) ?_;intro v' w' ho' hg' hloc;obtain⟨va,vc,rfl⟩:=aO ho';have hRo:some R≠Value.ownBlock (J av (es 4).length cv):=(fun hh=>by have h1:=(OB.out.lt R hh.symm).1;have h2:=HBk.out.lt;omega);have hRb2:w'.heap[R]?=y.heap[R]?:=(hg'.block R (by show _<(World.alloc _ _).heap.size;simp;omega) hRo).trans (heap_alloc_old y _ hRlt);have hRw1:w'.cell? ⟨R,8,Z⟩=Y (J av (es 4).length cv):=((World.cell?_of_block (w:=y) (a:=⟨R,8,Z⟩) hRb2).trans hRy);have hRw2:w'.frozen? ⟨R,8,Z⟩=false:=((World.frozen?_of_block (w:=y) (a:=⟨R,8,Z⟩) hRb2).trans hRf))
   all_goals go_wp2
   all_goals refine bodyPost_end (v:=.tuple #[]) (by simp[results,Tryz.results120,go_sem]) rfl ?_
   all_goals
    have hgy:y.grownBy w' (Value.ownBlock (J av (es 4).length cv)):=⟨hg'.os,hg'.tape,hg'.output,Nat.le_trans (by show _<=(World.alloc _ _).heap.size;simp) hg'.size,fun k hk hne=>(hg'.block k (by show _<(World.alloc _ _).heap.size;simp;omega) hne).trans (heap_alloc_old y _ hk)⟩
    have hlocy:∃g,Value.ownBlock (J va ((es 4).length+1) vc)=Y g/\(Value.ownBlock (J av (es 4).length cv)=Y g∨y.heap.size<=g):=by
     obtain⟨g',h1,h2⟩:=hloc;refine⟨g',h1,?_⟩;rcases h2 with h2|⟨h2,_⟩
     ·exact .inl h2
     ·exact .inr (Nat.le_trans (by show _<=(World.alloc _ _).heap.size;simp) h2)
    have hextn:∀g,y.heap.size<=g->¬ext g:=fun g hg=>HXN.out g (by omega)
    have hbadg:∀g,base<=g->(Value.ownBlock (J la t lc)=Y g∨wr.heap.size<=g)->¬fC ext v g:=by
     intro g h1 h2 h3;rcases h3 with⟨q,hq,h3⟩|h3
     ·rcases h2 with h2|h2
      ·exact HB.out.ex q hq g h3 (.inr h2)
      ·have:=(HB.out.low hq h3).2;omega
     ·rcases h2 with h2|h2
      ·exact HXL.out g h2 h3
      ·exact HXN.out g (by omega) h3
    have am:∀g k,AM base wr (J la t lc) (vS (es 4).length) (k*5) y g->∀cp,k<=4194304->dU 5 (vS (es 4).length) y base (fC ext v) (J (Y ⟨g,0,Z⟩) k cp):=by
     intro g k hA cp hk;exact⟨_,_,_,rfl,hk,.inr ⟨g,rfl,hA.low,hA.lt,hbadg g hA.low hA.is,hA.ma⟩⟩
    have hsl:dU 5 (vS (es 4).length) y base (fC ext v) (J la t lc):=by
     refine⟨la,t,lc,rfl,by omega,?_⟩;obtain⟨la',lc',he,hrow'⟩:=dN HK3.out.own;cases he;rcases hrow' with h0|⟨g,h1,h2,h3,h4⟩
     ·exact .inl h0
     ·exact .inr ⟨g,h1,h2,h3,hbadg g h2 (.inl (by rw[h1];rfl)),fun j hj=>h4 j _ (HY.out j hj)⟩
    have hen:jC 4 y base (fC ext v) ⟨J la t lc,J (Y ⟨g1,0,Z⟩) (t+1) cp1,J (Y ⟨g2,0,Z⟩) (t+2) cp2,J (Y ⟨g3,0,Z⟩) (t+3) cp3,(es 4).length⟩:=⟨hsl,am g1 _ HA1.out cp1 (by omega),am g2 _ HA2.out cp2 (by omega),am g3 _ HA3.out cp3 (by omega)⟩;refine⟨rfl,?_⟩;refine⟨J va ((es 4).length+1) vc,⟨J la t lc,J (Y ⟨g1,0,Z⟩) (t+1) cp1,J (Y ⟨g2,0,Z⟩) (t+2) cp2,J (Y ⟨g3,0,Z⟩) (t+3) cp3,(es 4).length⟩,?_,?_,?_,?_⟩
    ·exact HBk.out.push 4 (by omega) _ _ rfl ho' (by rw[HV.out];exact hgy) (by rw[HV.out];exact hlocy) hen hextn hsm
    ·intro g hg;obtain⟨g',h1,h2⟩:=hlocy;rw[h1]at hg;obtain rfl:g'=g:=by simpa using hg
     rcases h2 with h2|h2
     ·exact .inl (by rw[HV.out];exact h2)
     ·exact .inr (by omega)
    ·have hgs:=iZ w' ⟨R,8,Z⟩ (J va ((es 4).length+1) vc);refine⟨hgs.os.trans (hgy.os.trans hgy0.os),hgs.tape.trans (hgy.tape.trans hgy0.tape),hgs.output.trans (hgy.output.trans hgy0.output),Nat.le_trans hwy (Nat.le_trans hgy.size hgs.size),fun k hk hA=>?_⟩;have hk3:=hgy.size;exact(hgs.block k (by omega) (fun hh=>hA (.inl (by simpa using hh)))).trans ((hgy.block k (by omega) (fun hh=>hA (.inr (.inl (by rw[HV.out];exact hh))))).trans (hgy0.block k hk (fun hh=>hA (.inr (.inr hh)))))
    ·intro i hi;rw[World.cell?_setCell_other _ _ _ _ (by intro hh;have:=congrArg Addr.off hh;simp at this;omega)];have hRl:some R≠Value.ownBlock (J la t lc):=fun hh=>by have:=(World.ownsRow.lt HL.out R hh.symm).1;omega
     exact(World.cell?_of_block (w:=y) (a:=⟨R,i,Z⟩) hRb2).trans (World.cell?_of_block (w:=w) (a:=⟨R,i,Z⟩) (hgy0.block R hRw hRl))
end Go.Proofs.YtdcainmlcpafbaaGreatDoor
