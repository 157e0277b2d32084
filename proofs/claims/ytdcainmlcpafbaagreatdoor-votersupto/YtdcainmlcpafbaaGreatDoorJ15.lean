import Derived.Test.YtdcainmlcpafbaaGreatDoorJ13
set_option linter.all false
set_option maxHeartbeats 8000000
namespace Go.Proofs.YtdcainmlcpafbaaGreatDoor
open Go.RowKit
open Value renaming int->I,slice->J,pointer->P0
open Tryz renaming prog->pG
open IntKind renaming i64->T
open Option renaming none->Z,some->Y
open Obj renaming cells->G
open Value (bool)
section
set_option maxRecDepth 20000
structure aL(w:World)(low D H S:Nat)(va:Value)(fs:List FD)(L:Nat):Prop where
 hands:eB w D H S
 ds:DS 98 107 low w S va fs (-1)
 dS:D≠S
 hS:H≠S
 one:fs=[]∨∃f,fs=[f]/\f.n=dQ
 bd:∀f∈fs,f.d.length<=L
theorem aL.len{w:World}{low D H S:Nat}{va:Value}{fs:List FD}{L:Nat}(h:aL w low D H S va fs L):fs.length<=1:=by
 rcases h.one with h1|⟨f,h1,_⟩<;>rw[h1]<;>simp
theorem aL.no{w:World}{low D H S:Nat}{va:Value}{fs:List FD}{L:Nat}(h:aL w low D H S va fs L):fH fs dY=none:=by
 rcases h.one with h1|⟨f,h1,h2⟩
 ·rw[h1];rfl
 ·rw[h1];have h3:(dQ==dY)=false:=by decide
  simp[fH,h2,h3]
theorem FX{fs:List FD}(h:fs=[]∨∃f,fs=[f]/\f.n=dQ)(dt:List UInt8):(fD (eR fs dQ dt) dQ=[]∨∃f,fD (eR fs dQ dt) dQ=[f]/\f.n=dQ):=by
 rcases h with h1|⟨f,h1,h2⟩
 ·subst h1;refine .inr ⟨⟨dQ,dt,dt.length⟩,?_,rfl⟩;simp[eR,fD,eQ]
 ·subst h1;refine .inr ⟨⟨f.n,f.d++dt,(f.d++dt).length⟩,?_,h2⟩;simp[eR,fD,eQ,h2]
theorem EB{fs:List FD}(h:fs=[]∨∃f,fs=[f]/\f.n=dQ):aX fs dQ=[]:=by
 rcases h with h1|⟨f,h1,h2⟩
 ·subst h1;rfl
 ·subst h1;simp[aX,h2]
def eH(St:Nat)(vr:Value)(Mp S:Nat)(va:Value)(g:Nat):Prop:=g=St∨g=Mp∨vr.ownBlock=Y g∨g=S∨va.ownBlock=Y g
theorem uA{w:World}{low n:Nat}{vr:Value}{xs:List Value}(h:w.ownsRow low 66 3 vr n xs){g:Nat}(hg:vr.ownBlock=Y g):∃cur,w.heap[g]?=Y (.cells cur 66 (0,0)):=by
 rcases h.2 with⟨rfl,_⟩|⟨g',cap,cur,rfl,_,h3,_⟩
 ·simp[Value.ownBlock]at hg
 ·have:g'=g:=by simpa[Value.ownBlock] using hg
  subst this;exact⟨cur,h3⟩
theorem aF.disk{w w':World}{low St:Nat}{d:SD}{vr:Value}{Mp D H S:Nat}{va:Value}{fs:List FD}{L:Nat}(h:aF w low St d vr Mp D)(hk:aL w low D H S va fs L)(hkp:cR (fun b=>b=S∨some b=va.ownBlock) w w'):aF w' low St d vr Mp D:=by
 have key:∀g,g<w.heap.size->(∀cur,w.heap[g]?≠some (.cells cur 98 (0,0)))->(∀cur,w.heap[g]?≠some (.cells cur 107 (0,0)))->w'.heap[g]?=w.heap[g]?:=by
  intro g hg h1 h2;refine hkp.block g hg (fun hh=>?_);rcases hh with hh|hh
  ·subst hh;exact h1 _ hk.ds.st
  ·obtain⟨cur,h3⟩:=hk.ds.rowAt hh.symm;exact h2 cur h3
 refine⟨h.blk.same (key St h.blk.lt ?_ ?_),aH h.rcs (fun g hg=>key g (h.rcs.lt g hg).2 ?_ ?_),h.vot.same (key Mp h.vot.lt ?_ ?_)⟩
 ·intro cur hh;rw[h.blk.blk]at hh;simp at hh
 ·intro cur hh;rw[h.blk.blk]at hh;simp at hh
 ·obtain⟨c9,h9⟩:=uA h.rcs hg;intro cur hh;rw[h9]at hh;simp at hh
 ·obtain⟨c9,h9⟩:=uA h.rcs hg;intro cur hh;rw[h9]at hh;simp at hh
 ·obtain⟨es,clk,h9,_⟩:=h.vot.obj;intro cur hh;rw[h9]at hh;simp at hh
 ·obtain⟨es,clk,h9,_⟩:=h.vot.obj;intro cur hh;rw[h9]at hh;simp at hh
theorem EC{w w':World}{low:Nat}{D H S:Nat}{va:Value}{fs:List FD}{L B:Nat}{cs:Array Value}{ty:TypeId}(h:aB w B cs ty)(h1:ty≠98)(h2:ty≠107)(hk:aL w low D H S va fs L)(hkp:cR (fun b=>b=S∨some b=va.ownBlock) w w'):aB w' B cs ty:=by
 refine h.same (hkp.block B h.lt (fun hh=>?_));rcases hh with hh|hh
 ·subst hh;have h9:=h.blk.symm.trans hk.ds.st;simp at h9;exact h1 h9.2
 ·obtain⟨cur,h3⟩:=hk.ds.rowAt hh.symm;have h9:=h.blk.symm.trans h3;simp at h9;exact h2 h9.2
theorem aL.later{w w':World}{low D H S:Nat}{va:Value}{fs:List FD}{L:Nat}(h:aL w low D H S va fs L)(hb:Below w.heap.size w w'):aL w' low D H S va fs L:=
 ⟨h.hands.later (hb.block D (Array.getElem?_eq_some_iff.1 h.hands.d).1) (hb.block H (Array.getElem?_eq_some_iff.1 h.hands.h).1),h.ds.later hb,h.dS,h.hS,h.one,h.bd⟩
theorem aL.but{w w':World}{low D H S:Nat}{va:Value}{fs:List FD}{L B:Nat}{cs:Array Value}{ty:TypeId}(h:aL w low D H S va fs L)(hB:aB w B cs ty)(h1:ty≠100)(h2:ty≠102)(h3:ty≠98)(h4:ty≠107)(hb:aD B w w'):aL w' low D H S va fs L:=by
 have e:∀(g:Nat) (cur:Array Value) (t':TypeId),w.heap[g]?=Y (G cur t' (0,0))->ty≠t'->w'.heap[g]?=w.heap[g]?:=by
  intro g cur t' hg ht;refine hb.block g (fun hh=>?_);subst hh;have h9:=hB.blk.symm.trans hg;simp at h9;exact ht h9.2
 refine⟨h.hands.later (e D _ _ h.hands.d h1) (e H _ _ h.hands.h h2),⟨(e S _ _ h.ds.st h3).trans h.ds.st,aH h.ds.row (fun g hg=>?_)⟩,h.dS,h.hS,h.one,h.bd⟩;obtain⟨cur,h9⟩:=h.ds.rowAt hg;exact e g cur 107 h9 h4
theorem aJ.butT{w w':World}{B:Nat}(h:aJ w)(hb:aD B w w')(hB:2<=B):aJ w':=h.below (hb.below hB) (Nat.le_refl 2)
theorem aJ.drewT{w:World}(h:aJ w):aJ w.drew:=⟨h.fld,h.lim,h.two⟩
theorem bG.butI{w w':World}{B:Nat}{a:Option Addr}{zs:List Int}(h:bG w a zs)(hb:aD B w w')(hB:∀ad,a=Y ad->ad.block≠B):bG w' a zs:=by
 rcases h with h|⟨g,off,h1,h2,h3⟩
 ·exact .inl h
 ·exact .inr ⟨g,off,h1,by rw[hb.size];exact h2,fun j hj=>(hb.cell (p:=⟨g,off+j,Z⟩) (show g≠B from hB _ h1)).trans (h3 j hj)⟩
theorem bG.drewI{w:World}{a:Option Addr}{zs:List Int}(h:bG w a zs):bG w.drew a zs:=h
theorem eB.drewH{w:World}{D H S:Nat}(h:eB w D H S):eB w.drew D H S:=⟨h.d,h.h⟩
theorem DS.drewD{ty e:TypeId}{low:Nat}{w:World}{S:Nat}{v:Value}{fs:List FD}{left:Int}(h:DS ty e low w S v fs left):DS ty e low w.drew S v fs left:=⟨h.st,h.row.drew⟩
theorem rB(low St:Nat)(d:SD)(vr:Value)(Mp D:Nat)(w:World)(h:aF w low St d vr Mp D)(hlt:d.recs.length<=100000000)(hlv:d.vts.length<=100000000):
  Calls pG 255 #[P0 (Y ⟨St,0,Z⟩)] w fun r w'=>r=.returned (I T ((d.recs.length:Int)+2*(d.vts.length:Int)))/\∃n,w'=w.drewN n:=by
 obtain⟨ar,cr,hvr⟩:=aO h.rcs;subst hvr;obtain⟨es,clk,hobj,hes⟩:=h.vot.size;have c1:=h.blk.cell 1;have c2:=h.blk.cell 2;simp at c1 c2
 have hlen:∀ty n,(Builtin.len_ #[193] ty #[.map (Y Mp)]).run pG (w.drewN n)=.ok (I T (d.vts.length:Int)) (w.drewN n):=by
  intro ty n;have ho:=((below_drewN (Below.refl _ _) n).block Mp h.vot.lt).trans hobj;unfold Builtin.len_;simp only[List.getElem?_toArray,List.getElem?_cons_zero,Sem.run_bind,run_underlying Tryz.underlying193,Result.andThen_ok,lH ho,Sem.run_pure];rw[hes];rfl
 clear h hes hobj;go_enter Tryz.func255,Tryz.ntmps255
 go_wp2_with fail
 go_quiet (fail)
 go_wp2;go_ret
 exact⟨rfl,_,rfl⟩
theorem B2(low St:Nat)(d:SD)(vr:Value)(Mp D H S:Nat)(va:Value)(fs:List FD)(L:Nat)(k f e b wa p s q bl v:Int)(a:Option Addr)(zs:List Int)(c:Nat)(w:World)(h:aF w low St d vr Mp D)(hk:aL w low D H S va fs L)(ht:aJ w)(hz:bG w a zs)(hw2:2<=w.heap.size)(hlow:low<=w.heap.size)(hL:L<=1200000000)(hlt:d.recs.length<=1300000)(hlv:d.vts.length<=1300000)(hln:0<=d.lines/\d.lines<=100000000)(hSt2:2<=St)(hzS:∀ad,a=Y ad->ad.block≠St)(hlines:d.lines<64+2*((d.recs.length:Int)+2*(d.vts.length:Int))):
  Calls pG 236 #[P0 (Y ⟨St,0,Z⟩),.agg #[I T k,I T f,I T e,I T b,I T wa,I T p,I T s,I T q,I T bl,I T v,J a zs.length c]] w fun r w'=>r=.returned (.bool true)/\∃va' fs' ln,aF w' low St {d with lines:=ln} vr Mp D/\aL w' low D H S va' fs' (Nat.max (L+301) (301*(d.recs.length+2*d.vts.length+1)))/\0<=ln/\ln<=Nat.max (d.lines.toNat+1) (d.recs.length+2*d.vts.length+1)/\(∀g,va'.ownBlock=Y g->va.ownBlock=Y g∨w.heap.size<=g)/\aK (fun g=>g=St∨g=S∨va.ownBlock=Y g) w w':=by
 have hde:decide (d.lines<64+2*((d.recs.length:Int)+2*(d.vts.length:Int)))=true:=by simpa using hlines
 have hb0:=(Below.refl w.heap.size w).alloc (Nat.le_refl _) (G #[I T k,I T f,I T e,I T b,I T wa,I T p,I T s,I T q,I T bl,I T v,J a zs.length c] 136);have HM:=aA (aB.new w #[I T k,I T f,I T e,I T b,I T wa,I T p,I T s,I T q,I T bl,I T v,J a zs.length c] 136);have HB:=aA hb0;have HT:=aA (ht.below hb0 hw2);have HZ:=aA (hz.later hb0);have HS:=aA (h.later hb0);have HK:=aA (hk.later hb0);have hStl:=h.blk.lt;clear ht hz hb0 h hk;go_enter Tryz.func236,Tryz.ntmps236
 go_upto_region 1 with fail
 generalize (w.alloc (G #[I T k,I T f,I T e,I T b,I T wa,I T p,I T s,I T q,I T bl,I T v,J a zs.length c] 136))=W0 at*;have c9:=HS.out.blk.cell 9;have c10:=HS.out.blk.cell 10;have c11:=HS.out.blk.cell 11;simp at c9 c10 c11;have hSt:=HS.out.blk.lt;have hs0:=HB.out.size
 go_quiet ((go_at_call 255;exact Calls.quiet_of (rB low St d vr Mp D _ (HS.out.later (below_drewN (Below.refl _ _) _)) (by omega) (by omega))))
 have hd1:Below W0.heap.size W0 (W0.drewN nq):=below_drewN (Below.refl _ _) _;have HM1:=aA (HM.out.later hd1);have HB1:=aA (HB.out.trans (hd1.mono hs0));have HT1:=aA (HT.out.below hd1 (by omega));have HZ1:=aA (HZ.out.later hd1);have HS1:=aA (HS.out.later hd1);have HK1:=aA (HK.out.later hd1);generalize W0.drewN nq=W1 at*;clear hd1 c9 c10 c11 HM HB HT HZ HS HK hSt hs0;have c9:=HS1.out.blk.cell 9;have c10:=HS1.out.blk.cell 10;have c11:=HS1.out.blk.cell 11;simp at c9 c10 c11;have hf10:=HS1.out.blk.free 10;have hSt:=HS1.out.blk.lt;have hs1:=HB1.out.size;have HST:Hid (aB (W1.setCell ⟨St,10,Z⟩ (I T (d.lines+1))) St #[I T d.id,vr,Value.map (Y Mp),I T d.b0,I T d.b1,I T d.b2,I T d.b3,I T d.seen,I T d.last,P0 (Y ⟨D,0,Z⟩),I T (d.lines+1),bool true] 200):=by have h9:=HS1.out.blk.set 10 (I T (d.lines+1));unfold Hid;simpa using h9
 have HBU:Hid (aD St W1 (W1.setCell ⟨St,10,Z⟩ (I T (d.lines+1)))):=aD.setCell W1 ⟨St,10,Z⟩ _;have HS2:Hid (aF (W1.setCell ⟨St,10,Z⟩ (I T (d.lines+1))) low St {d with lines:=d.lines+1} vr Mp D):=⟨HST.out,aH HS1.out.rcs (fun g hg=>HBU.out.block g (fun hh=>aW HS1.out.rcs HS1.out.blk.blk (by decide) (by rw[←hh];exact hg))),HS1.out.vot.same (HBU.out.block Mp (HS1.out.vot.ne HS1.out.blk))⟩;have HK2:=aA (HK1.out.but HS1.out.blk (by decide) (by decide) (by decide) (by decide) HBU.out);have HM2:Hid (aB (W1.setCell ⟨St,10,Z⟩ (I T (d.lines+1))) w.heap.size #[I T k,I T f,I T e,I T b,I T wa,I T p,I T s,I T q,I T bl,I T v,J a zs.length c] 136):=HM1.out.setO (by omega) _ _;have HT2:=aA (HT1.out.butT HBU.out hSt2);have HZ2:=aA (HZ1.out.butI HBU.out hzS);have hsz2:(W1.setCell ⟨St,10,Z⟩ (I T (d.lines+1))).heap.size=W1.heap.size:=mP _ _ _ _
 go_upto_region 3 with fail
 generalize (W1.setCell ⟨St,10,Z⟩ (I T (d.lines+1)))=W2 at*;clear c9 c10 c11 HM1 HT1 HZ1 HS1 HK1 HST hf10 hSt;have c9:=HS2.out.blk.cell 9;simp at c9;obtain⟨m0,m1,m2,m3,m4,m5,m6,m7,m8,m9,m10⟩:=HM2.out.c11;have hw2z:2<=W2.heap.size:=by omega
 have hloz:low<=W2.heap.size:=by omega
 have hDl:D<W2.heap.size:=(Array.getElem?_eq_some_iff.1 HK2.out.hands.d).1;have hHl:H<W2.heap.size:=(Array.getElem?_eq_some_iff.1 HK2.out.hands.h).1;refine eN (S:=(fun w'=>w'.cell? ⟨St,9,Z⟩=Y (P0 (Y ⟨D,0,Z⟩))/\w'.cell? ⟨w.heap.size,0,Z⟩=Y (I T k)/\w'.cell? ⟨w.heap.size,1,Z⟩=Y (I T f)/\w'.cell? ⟨w.heap.size,2,Z⟩=Y (I T e)/\w'.cell? ⟨w.heap.size,3,Z⟩=Y (I T b)/\w'.cell? ⟨w.heap.size,4,Z⟩=Y (I T wa)/\w'.cell? ⟨w.heap.size,5,Z⟩=Y (I T p)/\w'.cell? ⟨w.heap.size,6,Z⟩=Y (I T s)/\w'.cell? ⟨w.heap.size,7,Z⟩=Y (I T q)/\w'.cell? ⟨w.heap.size,8,Z⟩=Y (I T bl)/\w'.cell? ⟨w.heap.size,9,Z⟩=Y (I T v)/\w'.cell? ⟨w.heap.size,10,Z⟩=Y (J a zs.length c))) fun _=>?_;refine tk 0 ?_;refine tk 1 ?_;refine tk 2 ?_;refine tk 3 ?_;refine tk 4 ?_;refine aG 5 fun K hK=>?_
 (try go_simp)
 go_at_call 256
 refine(AC low D H S va fs L k f e b wa p s q bl v a zs c W2.drew HT2.out.drewT (by exact hw2z) HZ2.out.drewI HK2.out.hands.drewH HK2.out.dS HK2.out.hS HK2.out.ds.drewD (by exact hloz) (Nat.le_trans HK2.out.len (by omega)) HK2.out.bd (by omega)).mono ?_;rintro r w4 ⟨rfl,dt,hdt,va4,hd4,hk4,ho4⟩;have HK4:Hid (cR (fun b=>b=S∨some b=va.ownBlock) W2 w4):=⟨hk4.os,hk4.tape,hk4.output,hk4.size,hk4.block⟩;have HM4:=aA (EC HM2.out (by decide) (by decide) HK2.out HK4.out);have HS4:=aA (HS2.out.disk HK2.out HK4.out);obtain⟨z0,z1,z2,z3,z4,z5,z6,z7,z8,z9,z10⟩:=HM4.out.c11;have y9:=HS4.out.blk.cell 9;simp at y9;refine k1 hK fun _=>?_;clear hK K;refine aG 6 fun K hK=>?_
 (try go_simp)
 refine k1 hK fun _=>?_;clear hK K;refine dn ?_;go_wp2;go_ret;refine⟨rfl,va4,_,d.lines+1,HS4.out,⟨HK2.out.hands.later (HK4.out.block D hDl (fun hh=>hh.elim HK2.out.dS (kY HK2.out.hands HK2.out.ds).1)) (HK4.out.block H hHl (fun hh=>hh.elim HK2.out.hS (kY HK2.out.hands HK2.out.ds).2)),hd4,HK2.out.dS,HK2.out.hS,FX HK2.out.one dt,?_⟩,by omega,?_,?_,?_⟩
 ·intro f hf;have h8:=(oZ (oY HK2.out.bd dQ dt).1 dQ).1 f hf;exact Nat.le_trans h8 (Nat.le_trans (by omega) (Nat.le_max_left _ _))
 ·have h8:d.lines.toNat+1<=Nat.max (d.lines.toNat+1) (d.recs.length+2*d.vts.length+1):=Nat.le_max_left _ _;omega
 ·intro g hg;rcases ho4 g hg with h8|h8
  ·exact .inl h8
  ·exact .inr (Nat.le_trans hs1 (by rw[←hsz2];exact h8))
 ·refine⟨HK4.out.os.trans (HBU.out.os.trans HB1.out.os),HK4.out.tape.trans (HBU.out.tape.trans HB1.out.tape),HK4.out.output.trans (HBU.out.output.trans HB1.out.output),Nat.le_trans hs1 (Nat.le_trans (by omega) HK4.out.size),fun g hg hA=>?_⟩;refine(HK4.out.block g (by omega) (fun hh=>hA (hh.elim (fun h8=>.inr (.inl h8)) (fun h8=>.inr (.inr h8.symm))))).trans ((HBU.out.block g (fun h8=>hA (.inl h8))).trans (HB1.out.block g hg))
theorem aP.butR{w w':World}{B:Nat}{a:Option Addr}{n c:Nat}{cs:List Value}(h:aP w (J a n c) n cs)(hb:aD B w w')(hB:∀g o,a=Y ⟨g,o,Z⟩->g≠B):aP w' (J a n c) n cs:=by
 rcases h with h|⟨g,cap,h1,h2,h3⟩
 ·exact .inl h
 ·cases h1;exact .inr ⟨g,_,rfl,by rw[hb.size];exact h2,fun j u hu=>(hb.cell (p:=⟨g,j,Z⟩) (hB g 0 rfl)).trans (h3 j u hu)⟩
theorem B3{w:World}{B:Nat}{cs:Array Value}{ty:TypeId}(h:aB w B cs ty):∀j u,cs.toList[j]?=Y u->w.cell? ((⟨B,0,Z⟩:Addr).add j)=Y u:=by
 intro j u hu;have hq:=h.cell j;have hu2:cs[j]?=Y u:=by simpa using hu
 rw[hu2]at hq;rw[←hq];unfold Addr.add
 by_cases hj0:j=0
 ·subst hj0;rfl
 ·rw[if_neg hj0];simp
theorem sD{w w':World}{a:Option Addr}{zs:List Int}{base n:Nat}{va:Value}{xs:List Value}(h:bG w a zs)(ht:∀ad,a=Y ad->∃cur,w.heap[ad.block]?=Y (.cells cur 3 (0,0)))(hs:w.heap.size<=w'.heap.size)(ho:w.ownsRow base 136 11 va n xs)(hk:∀g,g<w.heap.size->va.ownBlock≠some g->w'.heap[g]?=w.heap[g]?):bG w' a zs:=by
 rcases h with h|⟨g,off,h1,h2,h3⟩
 ·exact .inl h
 ·obtain⟨cur,hc⟩:=ht _ h1;have hne:=aW ho hc (by decide);exact .inr ⟨g,off,h1,Nat.lt_of_lt_of_le h2 hs,fun j hj=>(jE (hk g h2 hne) _).trans (h3 j hj)⟩
theorem tR{w:World}{g St:Nat}{cs:Array Value}(h:∃cur,w.heap[g]?=Y (.cells cur 3 (0,0)))(hS:aB w St cs 200):g≠St:=by
 obtain⟨cur,h1⟩:=h;intro hh;rw[hh,hS.blk]at h1;simp at h1
theorem sO{w:World}{base n c:Nat}{ad:Addr}{xs:List Value}(h:w.ownsRow base 136 11 (J (Y ad) n c) n xs):(J (Y ad) n c).ownBlock=Y ad.block:=by
 rcases h.2 with⟨h0,_⟩|⟨g,cap,cur,h1,_⟩
 ·cases h0
 ·cases h1;rfl
theorem ED(hSO:cU)(hBW:cV)(hBS:cS)(low St:Nat)(d:SD)(vr:Value)(Mp D H S:Nat)(va:Value)(fs:List FD)(L:Nat)(k f e b wa p s q bl v:Int)(a:Option Addr)(zs:List Int)(c:Nat)(w:World)(h:aF w low St d vr Mp D)(hk:aL w low D H S va fs L)(ht:aJ w)(hz:bG w a zs)(hw2:2<=w.heap.size)(hlow:low<=w.heap.size)(hL:L<=1200000000)(hlt:d.recs.length<=1300000)(hlv:d.vts.length<=1300000)(hln:0<=d.lines/\d.lines<=100000000)(hSt2:2<=St)(hzS:∀ad,a=Y ad->ad.block≠St)(hne:0<d.recs.length)(hre:∀r∈d.recs,0<=r.E/\r.E<=10000000000000)(hlines:¬d.lines<64+2*((d.recs.length:Int)+2*(d.vts.length:Int))):
  Calls pG 236 #[P0 (Y ⟨St,0,Z⟩),.agg #[I T k,I T f,I T e,I T b,I T wa,I T p,I T s,I T q,I T bl,I T v,J a zs.length c]] w fun r w'=>r=.returned (.bool true)/\∃va' fs' ln,aF w' low St {d with lines:=ln} vr Mp D/\aL w' low D H S va' fs' (Nat.max (L+301) (301*(d.recs.length+2*d.vts.length+1)))/\0<=ln/\ln<=Nat.max (d.lines.toNat+1) (d.recs.length+2*d.vts.length+1)/\(∀g,va'.ownBlock=Y g->va.ownBlock=Y g∨w.heap.size<=g)/\aK (fun g=>g=St∨g=S∨va.ownBlock=Y g) w w':=by
 have hde:decide (d.lines<64+2*((d.recs.length:Int)+2*(d.vts.length:Int)))=false:=by simpa using hlines
 obtain⟨i0,hi0,hz0,hz1,hz2⟩:=info_parts tH;have hb0:=(Below.refl w.heap.size w).alloc (Nat.le_refl _) (G #[I T k,I T f,I T e,I T b,I T wa,I T p,I T s,I T q,I T bl,I T v,J a zs.length c] 136);have HM:Hid (aB (w.alloc (G #[I T k,I T f,I T e,I T b,I T wa,I T p,I T s,I T q,I T bl,I T v,J a zs.length c] 136)) w.heap.size #[I T k,I T f,I T e,I T b,I T wa,I T p,I T s,I T q,I T bl,I T v,J a zs.length c] 136):=aB.new _ _ _;have HB:Hid (Below w.heap.size w (w.alloc (G #[I T k,I T f,I T e,I T b,I T wa,I T p,I T s,I T q,I T bl,I T v,J a zs.length c] 136))):=hb0;have HT0:Hid (aJ w):=ht;have HZ0:Hid (bG w a zs):=hz;have HS0:Hid (aF w low St d vr Mp D):=h;have HK0:Hid (aL w low D H S va fs L):=hk;have hStl:=h.blk.lt;clear ht hz hb0 h hk hlines;go_enter Tryz.func236,Tryz.ntmps236
 go_upto_region 1 with fail
 generalize (w.alloc (G #[I T k,I T f,I T e,I T b,I T wa,I T p,I T s,I T q,I T bl,I T v,J a zs.length c] 136))=W0 at*;have HS:Hid (aF W0 low St d vr Mp D):=HS0.out.later HB.out;have c9:=HS.out.blk.cell 9;have c10:=HS.out.blk.cell 10;have c11:=HS.out.blk.cell 11;simp at c9 c10 c11;have hSt:=HS.out.blk.lt;have hs0:=HB.out.size
 go_quiet ((go_at_call 255;exact Calls.quiet_of (rB low St d vr Mp D _ (HS.out.later (below_drewN (Below.refl _ _) _)) (by omega) (by omega))))
 have hd1:Below W0.heap.size W0 (W0.drewN nq):=below_drewN (Below.refl _ _) _;have HM1:Hid (aB (W0.drewN nq) w.heap.size #[I T k,I T f,I T e,I T b,I T wa,I T p,I T s,I T q,I T bl,I T v,J a zs.length c] 136):=HM.out.later hd1;have HB1:Hid (Below w.heap.size w (W0.drewN nq)):=HB.out.trans (hd1.mono hs0);generalize W0.drewN nq=W1 at*;clear hd1 c9 c10 c11 HM HB HS hSt hs0;have HS1:Hid (aF W1 low St d vr Mp D):=HS0.out.later HB1.out;have hs1:=HB1.out.size;have hs1l:=HM1.out.lt
 go_upto_region 4 with fail
 go_cut [5] (fun s5 wx=>∃(a2:Option Addr) (c2:Nat) (ms:List aU),s5=J a2 ms.length c2/\ms.length=d.recs.length+2*d.vts.length+1/\aP wx (J a2 ms.length c2) ms.length (ms.flatMap aU.cells)/\(∀ad,a2=Y ad->w.heap.size<=ad.block)/\(∀m∈ms,bG wx m.a m.zs/\∀ad,m.a=Y ad->ad.block≠St)/\Below w.heap.size w wx)
 case first=>
  have m0:=HM1.out.cell 0;have m1:=HM1.out.cell 1;have m2:=HM1.out.cell 2;have m3:=HM1.out.cell 3;have m4:=HM1.out.cell 4;have m5:=HM1.out.cell 5;have m6:=HM1.out.cell 6;have m7:=HM1.out.cell 7;have m8:=HM1.out.cell 8;have m9:=HM1.out.cell 9;have m10:=HM1.out.cell 10;simp at m0 m1 m2 m3 m4 m5 m6 m7 m8 m9 m10;refine eN (S:=(fun w'=>w'.cell? ⟨w.heap.size,0,Z⟩=Y (I T k)/\w'.cell? ⟨w.heap.size,1,Z⟩=Y (I T f)/\w'.cell? ⟨w.heap.size,2,Z⟩=Y (I T e)/\w'.cell? ⟨w.heap.size,3,Z⟩=Y (I T b)/\w'.cell? ⟨w.heap.size,4,Z⟩=Y (I T wa)/\w'.cell? ⟨w.heap.size,5,Z⟩=Y (I T p)/\w'.cell? ⟨w.heap.size,6,Z⟩=Y (I T s)/\w'.cell? ⟨w.heap.size,7,Z⟩=Y (I T q)/\w'.cell? ⟨w.heap.size,8,Z⟩=Y (I T bl)/\w'.cell? ⟨w.heap.size,9,Z⟩=Y (I T v)/\w'.cell? ⟨w.heap.size,10,Z⟩=Y (J a zs.length c))) fun _=>?_;refine tk 0 ?_;refine tk 1 ?_;refine tk 2 ?_;refine tk 4 ?_;refine iE [3,5] ?_;refine .cons rfl (fun K hK=>?_) ?_
  ·(try go_simp)
   go_at_call 257
   refine(rY hSO low St d vr Mp D W1.drew HS1.out.drew hne (by omega) (by omega) hre).mono ?_;rintro r w3 ⟨a3,c3,ks,za,zc,rfl,hpm,ho3,hv3,ht3,hb3⟩;have HM3:Hid (aB w3 w.heap.size _ 136):=HM1.out.drew.later hb3;have HB3:Hid (Below w.heap.size w w3):=HB1.out.drew.trans (hb3.mono hs1);have HO3:Hid (w3.ownsRow W1.heap.size 136 11 (J a3 (d.msgs ks za zc).length c3) (d.msgs ks za zc).length _):=ho3;have hb3w:W1.heap.size<=w3.heap.size:=hb3.size;have HSB:Hid (aB w3 St _ 200):=HS1.out.blk.drew.later hb3;have hln3:(d.msgs ks za zc).length=d.recs.length+2*d.vts.length:=by rw[oO,hpm.length_eq];simp;omega
   have HV3:Hid (∀m∈d.msgs ks za zc,bG w3 m.a m.zs):=hv3;have HT3:Hid (∀m∈d.msgs ks za zc,∀ad,m.a=Y ad->∃cur,w3.heap[ad.block]?=Y (.cells cur 3 (0,0))):=ht3;have HLN:Hid ((d.msgs ks za zc).length=d.recs.length+2*d.vts.length):=hln3;have hl3:(d.msgs ks za zc).length<=4000000:=by omega
   generalize d.msgs ks za zc=MS at*;clear ho3 hv3 ht3 hb3 hln3 hpm;have z0:=HM3.out.cell 0;have z1:=HM3.out.cell 1;have z2:=HM3.out.cell 2;have z3:=HM3.out.cell 3;have z4:=HM3.out.cell 4;have z5:=HM3.out.cell 5;have z6:=HM3.out.cell 6;have z7:=HM3.out.cell 7;have z8:=HM3.out.cell 8;have z9:=HM3.out.cell 9;have z10:=HM3.out.cell 10;simp at z0 z1 z2 z3 z4 z5 z6 z7 z8 z9 z10;refine k1 hK fun _=>?_;clear hK K;refine aG 5 fun K hK=>?_
   (try go_simp)
   refine k1 hK fun _=>?_;clear hK K;refine aG 6 fun K hK=>?_;refine gC rfl (.tmp 39) (.tmp 41) 22 rfl W1.heap.size 136 i0 (.agg #[I T 0,I T 0,I T 0,I T 0,I T 0,I T 0,I T 0,I T 0,I T 0,I T 0,J Z 0 0]) 11 104 Tryz.underlying22 hi0 hz0 hz1 hz2 rfl (by decide) (J a3 MS.length c3) MS.length _ (by simp[Act.eval]) (World.ownsRow.alloc HO3.out _) ⟨w3.heap.size,0,Z⟩ 1 1 (aU.cells (⟨k,f,e,b,wa,p,s,q,bl,v,a,c,zs⟩:aU)) (by omega) (by simp[Act.eval]) rfl (jG w3 w3.heap.size rfl (aU.cells (⟨k,f,e,b,wa,p,s,q,bl,v,a,c,zs⟩:aU)) 136) (lZ _) (by unfold maxLen;omega) (by omega) (by simp;omega) ?_;intro v5 w5 ho5 hg5 hloc5;obtain⟨xa,xc,rfl⟩:=aO ho5;have HK5:Hid (∀g,g<w3.heap.size->(J a3 MS.length c3).ownBlock≠some g->w5.heap[g]?=w3.heap[g]?):=fun g hg hn=>(hg5.block g (by simp;omega) (fun h9=>hn h9.symm)).trans (heap_alloc_old _ _ hg);have hw5:w3.heap.size<=w5.heap.size:=Nat.le_trans (by simp) hg5.size;have HO5:Hid (w5.ownsRow W1.heap.size 136 11 (J xa (MS.length+1) xc) (MS.length+1) (MS.flatMap aU.cells++aU.cells (⟨k,f,e,b,wa,p,s,q,bl,v,a,c,zs⟩:aU))):=ho5;have hv0:∀g,g<W1.heap.size->(J a3 MS.length c3).ownBlock≠some g:=fun g hg h9=>by have:=(HO3.out.lt g h9).1;omega
   have HB5:Hid (Below w.heap.size w w5):=Below.grown (HB3.out.alloc HB3.out.size _) hg5 (by simp;omega) (fun g hg=>by have:=(HO3.out.lt g hg).1;omega);have MB5:∀j,w5.cell? ⟨w.heap.size,j,Z⟩=w3.cell? ⟨w.heap.size,j,Z⟩:=fun j=>jE (HK5.out w.heap.size HM3.out.lt (hv0 _ hs1l)) j;have y0:=(MB5 0).trans z0;have y1:=(MB5 1).trans z1;have y2:=(MB5 2).trans z2;have y3:=(MB5 3).trans z3;have y4:=(MB5 4).trans z4;have y5:=(MB5 5).trans z5;have y6:=(MB5 6).trans z6;have y7:=(MB5 7).trans z7;have y8:=(MB5 8).trans z8;have y9:=(MB5 9).trans z9;have y10:=(MB5 10).trans z10;clear MB5 ho5 hg5 hloc5;refine k1 hK fun _=>?_;clear hK K;refine aG 7 fun K hK=>?_
   (try go_simp)
   refine k1 hK fun _=>?_;clear hK K;refine dn ?_
   go_wp2_with fail
   go_meet
   refine⟨xa,xc,MS++[(⟨k,f,e,b,wa,p,s,q,bl,v,a,c,zs⟩:aU)],?_,?_,?_,?_,?_,HB5.out⟩
   ·rw[List.length_append];rfl
   ·rw[List.length_append,HLN.out];rfl
   ·have h9:=aP.of_owns HO5.out;rw[List.flatMap_append,List.length_append]
    simpa using h9
   ·intro ad had;subst had;have h9:=(HO5.out.lt ad.block (sO HO5.out)).1;omega
   ·intro m hm;rcases List.mem_append.1 hm with hm|hm
    ·exact⟨sD (HV3.out m hm) (HT3.out m hm) hw5 HO3.out HK5.out,fun ad had=>tR (HT3.out m hm ad had) HSB.out⟩
    ·simp at hm;subst hm;exact⟨HZ0.out.later HB5.out,hzS⟩
  refine .cons rfl (fun K hK=>?_) .nil
  (try go_simp)
  refine k1 hK fun _=>?_;clear hK K;refine aG 3 fun K hK=>?_
  (try go_simp)
  go_at_call 257
  refine(rY hSO low St d vr Mp D (W1.alloc (G #[I T k,I T f,I T e,I T b,I T wa,I T p,I T s,I T q,I T bl,I T v,J a zs.length c] 136)).drew (HS1.out.later ((Below.refl _ _).alloc (Nat.le_refl _) _)).drew hne (by omega) (by omega) hre).mono ?_;rintro r w3 ⟨a3,c3,ks,za,zc,rfl,hpm,ho3,hv3,ht3,hb3⟩;have HM3:Hid (aB w3 w.heap.size _ 136):=(HM1.out.old _).drew.later hb3;have HB3:Hid (Below w.heap.size w w3):=(HB1.out.alloc hs1 _).drew.trans (hb3.mono (by show _<=(World.alloc _ _).heap.size;simp;omega));have HO3:Hid (w3.ownsRow W1.heap.size 136 11 (J a3 (d.msgs ks za zc).length c3) (d.msgs ks za zc).length _):=cM ho3 (by show _<=(World.alloc _ _).heap.size;simp);have HN3:Hid (aB w3 W1.heap.size #[I T k,I T f,I T e,I T b,I T wa,I T p,I T s,I T q,I T bl,I T v,J a zs.length c] 136):=(aB.new W1 _ _).drew.later hb3;have hb3w:W1.heap.size<=w3.heap.size:=Nat.le_trans (by show _<=(World.alloc _ _).heap.size;simp) hb3.size;have HSB:Hid (aB w3 St _ 200):=(HS1.out.blk.old _).drew.later hb3;have hln3:(d.msgs ks za zc).length=d.recs.length+2*d.vts.length:=by rw[oO,hpm.length_eq];simp;omega
  have HV3:Hid (∀m∈d.msgs ks za zc,bG w3 m.a m.zs):=hv3;have HT3:Hid (∀m∈d.msgs ks za zc,∀ad,m.a=Y ad->∃cur,w3.heap[ad.block]?=Y (.cells cur 3 (0,0))):=ht3;have HLN:Hid ((d.msgs ks za zc).length=d.recs.length+2*d.vts.length):=hln3;have hl3:(d.msgs ks za zc).length<=4000000:=by omega
  generalize d.msgs ks za zc=MS at*;clear ho3 hv3 ht3 hb3 hln3 hpm;have z0:=HM3.out.cell 0;have z1:=HM3.out.cell 1;have z2:=HM3.out.cell 2;have z3:=HM3.out.cell 3;have z4:=HM3.out.cell 4;have z5:=HM3.out.cell 5;have z6:=HM3.out.cell 6;have z7:=HM3.out.cell 7;have z8:=HM3.out.cell 8;have z9:=HM3.out.cell 9;have z10:=HM3.out.cell 10;simp at z0 z1 z2 z3 z4 z5 z6 z7 z8 z9 z10;refine k1 hK fun _=>?_;clear hK K;refine aG 6 fun K hK=>?_;refine gC rfl (.tmp 39) (.tmp 41) 22 rfl W1.heap.size 136 i0 (.agg #[I T 0,I T 0,I T 0,I T 0,I T 0,I T 0,I T 0,I T 0,I T 0,I T 0,J Z 0 0]) 11 104 Tryz.underlying22 hi0 hz0 hz1 hz2 rfl (by decide) (J a3 MS.length c3) MS.length _ (by simp[Act.eval]) HO3.out ⟨W1.heap.size,0,Z⟩ 1 1 (aU.cells (⟨k,f,e,b,wa,p,s,q,bl,v,a,c,zs⟩:aU)) (by omega) (by simp[Act.eval]) rfl (B3 HN3.out) (lZ _) (by unfold maxLen;omega) (by omega) hb3w ?_;intro v5 w5 ho5 hg5 hloc5;obtain⟨xa,xc,rfl⟩:=aO ho5;have HK5:Hid (∀g,g<w3.heap.size->(J a3 MS.length c3).ownBlock≠some g->w5.heap[g]?=w3.heap[g]?):=fun g hg hn=>hg5.block g hg (fun h9=>hn h9.symm);have hw5:w3.heap.size<=w5.heap.size:=hg5.size;have HO5:Hid (w5.ownsRow W1.heap.size 136 11 (J xa (MS.length+1) xc) (MS.length+1) (MS.flatMap aU.cells++aU.cells (⟨k,f,e,b,wa,p,s,q,bl,v,a,c,zs⟩:aU))):=ho5;have hv0:∀g,g<W1.heap.size->(J a3 MS.length c3).ownBlock≠some g:=fun g hg h9=>by have:=(HO3.out.lt g h9).1;omega
  have HB5:Hid (Below w.heap.size w w5):=Below.grown HB3.out hg5 HB3.out.size (fun g hg=>by have:=(HO3.out.lt g hg).1;omega);have MB5:∀j,w5.cell? ⟨w.heap.size,j,Z⟩=w3.cell? ⟨w.heap.size,j,Z⟩:=fun j=>jE (HK5.out w.heap.size HM3.out.lt (hv0 _ hs1l)) j;have y0:=(MB5 0).trans z0;have y1:=(MB5 1).trans z1;have y2:=(MB5 2).trans z2;have y3:=(MB5 3).trans z3;have y4:=(MB5 4).trans z4;have y5:=(MB5 5).trans z5;have y6:=(MB5 6).trans z6;have y7:=(MB5 7).trans z7;have y8:=(MB5 8).trans z8;have y9:=(MB5 9).trans z9;have y10:=(MB5 10).trans z10;clear MB5 ho5 hg5 hloc5;refine k1 hK fun _=>?_;clear hK K;refine aG 7 fun K hK=>?_
  (try go_simp)
  refine k1 hK fun _=>?_;clear hK K;refine dn ?_
  go_wp2_with fail
  go_meet
  refine⟨xa,xc,MS++[(⟨k,f,e,b,wa,p,s,q,bl,v,a,c,zs⟩:aU)],?_,?_,?_,?_,?_,HB5.out⟩
  ·rw[List.length_append];rfl
  ·rw[List.length_append,HLN.out];rfl
  ·have h9:=aP.of_owns HO5.out;rw[List.flatMap_append,List.length_append]
   simpa using h9
  ·intro ad had;subst had;have h9:=(HO5.out.lt ad.block (sO HO5.out)).1;omega
  ·intro m hm;rcases List.mem_append.1 hm with hm|hm
   ·exact⟨sD (HV3.out m hm) (HT3.out m hm) hw5 HO3.out HK5.out,fun ad had=>tR (HT3.out m hm ad had) HSB.out⟩
   ·simp at hm;subst hm;exact⟨HZ0.out.later HB5.out,hzS⟩
 case rest=>
  obtain⟨a2,c2,ms,rfl,hml,hrow,hab,hmi,hbx⟩:=hcut;have HS2:Hid (aF wc low St d vr Mp D):=HS0.out.later hbx;have HK2:Hid (aL wc low D H S va fs L):=HK0.out.later hbx;have HT2:Hid (aJ wc):=HT0.out.below hbx hw2;have HBX:Hid (Below w.heap.size w wc):=hbx;have HMI:Hid (∀m∈ms,bG wc m.a m.zs/\∀ad,m.a=Y ad->ad.block≠St):=hmi;have HROW:Hid (aP wc (J a2 ms.length c2) ms.length (ms.flatMap aU.cells)):=hrow;have HML:Hid (ms.length=d.recs.length+2*d.vts.length+1):=hml;have hml4:ms.length<=4000000:=by omega
  clear hmi hbx hrow hml;have c9:=HS2.out.blk.cell 9;have c10:=HS2.out.blk.cell 10;have c11:=HS2.out.blk.cell 11;simp at c9 c10 c11;have hf10:=HS2.out.blk.free 10;have hf11:=HS2.out.blk.free 11;have HST:Hid (aB ((wc.setCell ⟨St,10,Z⟩ (I T (ms.length:Int))).setCell ⟨St,11,Z⟩ (bool true)) St #[I T d.id,vr,Value.map (Y Mp),I T d.b0,I T d.b1,I T d.b2,I T d.b3,I T d.seen,I T d.last,P0 (Y ⟨D,0,Z⟩),I T (ms.length:Int),bool true] 200):=by have h9:=(HS2.out.blk.set 10 (I T (ms.length:Int))).set 11 (bool true);unfold Hid;simpa using h9
  have HBU:Hid (aD St wc ((wc.setCell ⟨St,10,Z⟩ (I T (ms.length:Int))).setCell ⟨St,11,Z⟩ (bool true))):=(aD.setCell wc ⟨St,10,Z⟩ _).trans (aD.setCell _ ⟨St,11,Z⟩ _);have HS3:Hid (aF ((wc.setCell ⟨St,10,Z⟩ (I T (ms.length:Int))).setCell ⟨St,11,Z⟩ (bool true)) low St {d with lines:=(ms.length:Int)} vr Mp D):=⟨HST.out,aH HS2.out.rcs (fun g hg=>HBU.out.block g (fun hh=>aW HS2.out.rcs HS2.out.blk.blk (by decide) (by rw[←hh];exact hg))),HS2.out.vot.same (HBU.out.block Mp (HS2.out.vot.ne HS2.out.blk))⟩;have HK3:Hid (aL ((wc.setCell ⟨St,10,Z⟩ (I T (ms.length:Int))).setCell ⟨St,11,Z⟩ (bool true)) low D H S va fs L):=HK2.out.but HS2.out.blk (by decide) (by decide) (by decide) (by decide) HBU.out;have HT3:Hid (aJ ((wc.setCell ⟨St,10,Z⟩ (I T (ms.length:Int))).setCell ⟨St,11,Z⟩ (bool true))):=HT2.out.butT HBU.out hSt2;have HI3:Hid (∀m∈ms,bG ((wc.setCell ⟨St,10,Z⟩ (I T (ms.length:Int))).setCell ⟨St,11,Z⟩ (bool true)) m.a m.zs):=fun m hm=>(HMI.out m hm).1.butI HBU.out (HMI.out m hm).2;have HR3:Hid (aP ((wc.setCell ⟨St,10,Z⟩ (I T (ms.length:Int))).setCell ⟨St,11,Z⟩ (bool true)) (J a2 ms.length c2) ms.length (ms.flatMap aU.cells)):=HROW.out.butR HBU.out (fun g o hh=>by have:=hab _ hh;simp at this;omega);have hsz3:((wc.setCell ⟨St,10,Z⟩ (I T (ms.length:Int))).setCell ⟨St,11,Z⟩ (bool true)).heap.size=wc.heap.size:=HBU.out.size;have hbxz:=HBX.out.size
  go_upto_region 6 with fail
  generalize ((wc.setCell ⟨St,10,Z⟩ (I T (ms.length:Int))).setCell ⟨St,11,Z⟩ (bool true))=W5 at*;clear c9 c10 c11 hf10 hf11 HST;have c9:=HS3.out.blk.cell 9;simp at c9
  go_wp2_with fail
  refine(xT hBW hBS low D H S va fs L ms a2 c2 W5 HT3.out (by omega) HR3.out HI3.out hml4 HK3.out.hands HK3.out.dS HK3.out.hS HK3.out.ds (by omega) (Nat.le_trans HK3.out.len (by omega)) HK3.out.bd hL HK3.out.no).mono ?_;rintro r w4 ⟨rfl,l,hll,va4,hd4,hk4,ho4⟩;rw[EB HK3.out.one]at hd4;have HS4:Hid (aF w4 low St {d with lines:=(ms.length:Int)} vr Mp D):=HS3.out.disk HK3.out hk4;have hDl:D<W5.heap.size:=(Array.getElem?_eq_some_iff.1 HK3.out.hands.d).1;have hHl:H<W5.heap.size:=(Array.getElem?_eq_some_iff.1 HK3.out.hands.h).1;go_wp2;go_ret;refine⟨rfl,va4,_,(ms.length:Int),HS4.out,⟨HK3.out.hands.later (hk4.block D hDl (fun hh=>hh.elim HK3.out.dS (kY HK3.out.hands HK3.out.ds).1)) (hk4.block H hHl (fun hh=>hh.elim HK3.out.hS (kY HK3.out.hands HK3.out.ds).2)),hd4,HK3.out.dS,HK3.out.hS,.inr ⟨_,rfl,rfl⟩,?_⟩,by omega,?_,?_,?_⟩
  ·intro f hf;simp at hf;subst hf;refine Nat.le_trans hll (Nat.le_trans (Nat.le_of_eq ?_) (Nat.le_max_right _ _));rw[HML.out]
  ·have h8:d.recs.length+2*d.vts.length+1<=Nat.max (d.lines.toNat+1) (d.recs.length+2*d.vts.length+1):=Nat.le_max_right _ _;have h9:=HML.out;omega
  ·intro g hg;rcases ho4 g hg with h8|h8
   ·exact .inl h8
   ·exact .inr (by omega)
  ·refine⟨hk4.os.trans (HBU.out.os.trans HBX.out.os),hk4.tape.trans (HBU.out.tape.trans HBX.out.tape),hk4.output.trans (HBU.out.output.trans HBX.out.output),by have:=hk4.size;omega,fun g hg hA=>?_⟩;refine(hk4.block g (by omega) (fun hh=>hA (hh.elim (fun h8=>.inr (.inl h8)) (fun h8=>.inr (.inr h8.symm))))).trans ((HBU.out.block g (fun h8=>hA (.inl h8))).trans (HBX.out.block g hg))
theorem nD:(Tryz.prog.info? 136).map (·.size)=Y 11:=by kernel_rfl
theorem vL(low Nd St:Nat)(d:SD)(vr:Value)(Mp D:Nat)(id nodes nb:Int)(act:Bool)(k f:Int)(b wa p s q bl v:Int)(ms:Value)(w:World)(hn:aI w Nd id nodes nb St act)(h:aF w low St d vr Mp D)(hne:0<d.recs.length)(hlt:d.recs.length<=100000000)(e:Int)(he:(d.recs.length:Int) - 1<=e):
  Calls pG 248 #[P0 (Y ⟨Nd,0,Z⟩),.agg #[I T k,I T f,I T e,I T b,I T wa,I T p,I T s,I T q,I T bl,I T v,ms]] w fun r w'=>r=.returned (.agg #[I T 0,I T 0,I T 0,I T 0,I T 0,I T 0,I T 0,I T 0,I T 0,I T 0,J Z 0 0])/\Below w.heap.size w w':=by
 have hde:decide (e<(d.recs.length:Int) - 1)=false:=by simp;omega
 have hb0:=((Below.refl w.heap.size w).alloc (Nat.le_refl _) (G #[I T k,I T f,I T e,I T b,I T wa,I T p,I T s,I T q,I T bl,I T v,ms] 136)).alloc (by simp) (G #[I T 0,I T 0,I T 0,I T 0,I T 0,I T 0,I T 0,I T 0,I T 0,I T 0,J Z 0 0] 136);have HM:Hid (aB ((w.alloc (G #[I T k,I T f,I T e,I T b,I T wa,I T p,I T s,I T q,I T bl,I T v,ms] 136)).alloc (G #[I T 0,I T 0,I T 0,I T 0,I T 0,I T 0,I T 0,I T 0,I T 0,I T 0,J Z 0 0] 136)) w.heap.size #[I T k,I T f,I T e,I T b,I T wa,I T p,I T s,I T q,I T bl,I T v,ms] 136):=(aB.new _ _ _).old _;have HR:Hid (aB ((w.alloc (G #[I T k,I T f,I T e,I T b,I T wa,I T p,I T s,I T q,I T bl,I T v,ms] 136)).alloc (G #[I T 0,I T 0,I T 0,I T 0,I T 0,I T 0,I T 0,I T 0,I T 0,I T 0,J Z 0 0] 136)) (w.heap.size+1) #[I T 0,I T 0,I T 0,I T 0,I T 0,I T 0,I T 0,I T 0,I T 0,I T 0,J Z 0 0] 136):=by have h9:=aB.new (w.alloc (G #[I T k,I T f,I T e,I T b,I T wa,I T p,I T s,I T q,I T bl,I T v,ms] 136)) #[I T 0,I T 0,I T 0,I T 0,I T 0,I T 0,I T 0,I T 0,I T 0,I T 0,J Z 0 0] 136;unfold Hid;simpa using h9
 have HB:=aA hb0;have HN:=aA (hn.later hb0);have HS:=aA (h.later hb0);clear hb0 hn h;go_enter Tryz.func248,Tryz.ntmps248
 go_upto_region 1 with fail
 generalize ((w.alloc (G #[I T k,I T f,I T e,I T b,I T wa,I T p,I T s,I T q,I T bl,I T v,ms] 136)).alloc (G #[I T 0,I T 0,I T 0,I T 0,I T 0,I T 0,I T 0,I T 0,I T 0,I T 0,J Z 0 0] 136))=W0 at*;have c3:=HN.out.blk.cell 3;simp at c3;obtain⟨m0,m1,m2,m3,m4,m5,m6,m7,m8,m9,m10⟩:=HM.out.c11;have hNd:=HN.out.blk.lt;have hMl:=HM.out.lt;have hRl:=HR.out.lt;have hs0:=HB.out.size
 go_quiet (first|(go_at_call 179;exact Calls.quiet_of_same (iJ low St d vr Mp D _ (HS.out.later (below_drewN (Below.refl _ _) _)) hne hlt)))
 have hd1:Below W0.heap.size W0 (W0.drewN nq):=below_drewN (Below.refl _ _) _;have HR1:=aA (HR.out.later hd1);have HB1:=aA (HB.out.trans (hd1.mono hs0));generalize W0.drewN nq=W1 at*;have hc1:=kN (P:=pG) (t:=136) (i:=0) (vs:=#[I T 0,I T 0,I T 0,I T 0,I T 0,I T 0,I T 0,I T 0,I T 0,I T 0,J Z 0 0]) HR1.out nD (by simp) (by simp) (by intro u hu;simp at hu;rcases hu with rfl|rfl<;>rfl);obtain⟨q0,q1,q2,q3,q4,q5,q6,q7,q8,q9,q10⟩:=HR1.out.c11
 go_wp2_with(refine jT rfl 136 _ _ rfl _ _ rfl rfl hc1 ?_)
 exact bodyPost_ret (v:=.agg #[I T 0,I T 0,I T 0,I T 0,I T 0,I T 0,I T 0,I T 0,I T 0,I T 0,J Z 0 0]) (by simp[results,Tryz.results248,go_sem,q0,q1,q2,q3,q4,q5,q6,q7,q8,q9,q10]) rfl ⟨rfl,HB1.out⟩
theorem wE(low Nd St:Nat)(d:SD)(vr:Value)(Mp D:Nat)(id nodes nb:Int)(act:Bool)(k f:Int)(b wa p s q bl v:Int)(ms:Value)(w:World)(hn:aI w Nd id nodes nb St act)(h:aF w low St d vr Mp D)(hne:0<d.recs.length)(hlt:d.recs.length<=100000000)(E:Nat)(hE:E+1<d.recs.length):
  Calls pG 248 #[P0 (Y ⟨Nd,0,Z⟩),.agg #[I T k,I T f,I T (E:Int),I T b,I T wa,I T p,I T s,I T q,I T bl,I T v,ms]] w fun r w'=>r=.returned (.agg #[I T 6,I T 0,I T (E:Int),I T 0,I T 0,I T (d.recs.getD (E+1) ⟨0,0,0⟩).P,I T (d.recs.getD (E+1) ⟨0,0,0⟩).S,I T 0,I T 0,I T 0,J Z 0 0])/\Below w.heap.size w w':=by
 have hde:decide ((E:Int)<(d.recs.length:Int) - 1)=true:=by simp;omega
 have hb0:=((Below.refl w.heap.size w).alloc (Nat.le_refl _) (G #[I T k,I T f,I T (E:Int),I T b,I T wa,I T p,I T s,I T q,I T bl,I T v,ms] 136)).alloc (by simp) (G #[I T 0,I T 0,I T 0,I T 0,I T 0,I T 0,I T 0,I T 0,I T 0,I T 0,J Z 0 0] 136);have HM:Hid (aB ((w.alloc (G #[I T k,I T f,I T (E:Int),I T b,I T wa,I T p,I T s,I T q,I T bl,I T v,ms] 136)).alloc (G #[I T 0,I T 0,I T 0,I T 0,I T 0,I T 0,I T 0,I T 0,I T 0,I T 0,J Z 0 0] 136)) w.heap.size #[I T k,I T f,I T (E:Int),I T b,I T wa,I T p,I T s,I T q,I T bl,I T v,ms] 136):=(aB.new _ _ _).old _;have HR:Hid (aB ((w.alloc (G #[I T k,I T f,I T (E:Int),I T b,I T wa,I T p,I T s,I T q,I T bl,I T v,ms] 136)).alloc (G #[I T 0,I T 0,I T 0,I T 0,I T 0,I T 0,I T 0,I T 0,I T 0,I T 0,J Z 0 0] 136)) (w.heap.size+1) #[I T 0,I T 0,I T 0,I T 0,I T 0,I T 0,I T 0,I T 0,I T 0,I T 0,J Z 0 0] 136):=by have h9:=aB.new (w.alloc (G #[I T k,I T f,I T (E:Int),I T b,I T wa,I T p,I T s,I T q,I T bl,I T v,ms] 136)) #[I T 0,I T 0,I T 0,I T 0,I T 0,I T 0,I T 0,I T 0,I T 0,I T 0,J Z 0 0] 136;unfold Hid;simpa using h9
 have HB:=aA hb0;have HN:=aA (hn.later hb0);have HS:=aA (h.later hb0);clear hb0 hn h;go_enter Tryz.func248,Tryz.ntmps248
 go_upto_region 1 with fail
 generalize ((w.alloc (G #[I T k,I T f,I T (E:Int),I T b,I T wa,I T p,I T s,I T q,I T bl,I T v,ms] 136)).alloc (G #[I T 0,I T 0,I T 0,I T 0,I T 0,I T 0,I T 0,I T 0,I T 0,I T 0,J Z 0 0] 136))=W0 at*;have c3:=HN.out.blk.cell 3;simp at c3;obtain⟨m0,m1,m2,m3,m4,m5,m6,m7,m8,m9,m10⟩:=HM.out.c11;have hNd:=HN.out.blk.lt;have hMl:=HM.out.lt;have hRl:=HR.out.lt;have hs0:=HB.out.size
 go_quiet (first|(go_at_call 179;exact Calls.quiet_of_same (iJ low St d vr Mp D _ (HS.out.later (below_drewN (Below.refl _ _) _)) hne hlt)))
 have hd1:Below W0.heap.size W0 (W0.drewN nq):=below_drewN (Below.refl _ _) _;have HR1:=aA (HR.out.later hd1);have HM1:=aA (HM.out.later hd1);have HN1:=aA (HN.out.later hd1);have HS1:=aA (HS.out.later hd1);have HB1:=aA (HB.out.trans (hd1.mono hs0));generalize W0.drewN nq=W1 at*;clear hd1 m0 m1 m2 m3 m4 m5 m6 m7 m8 m9 m10 c3 HR HM HN HS HB;obtain⟨m0,m1,m2,m3,m4,m5,m6,m7,m8,m9,m10⟩:=HM1.out.c11
 go_wp2_with fail
 refine(pZ low Nd St d vr Mp D id nodes nb act E W1 HN1.out HS1.out hE hlt).mono ?_;rintro r w2 ⟨rfl,hb2⟩;have HR2:=aA (HR1.out.later hb2);have HB2:=aA (HB1.out.trans (hb2.mono HB1.out.size));clear hb2;generalize hrr:(d.recs.getD (E+1) ⟨0,0,0⟩)=rr at*;have HRR:=aA hrr.symm;clear hrr;obtain⟨r0,r1,r2,r3,r4,r5,r6,r7,r8,r9,r10⟩:=HR2.out.c11;have hf0:=HR2.out.free 0;have hf1:=HR2.out.free 1;have hf2:=HR2.out.free 2;have hf3:=HR2.out.free 3;have hf4:=HR2.out.free 4;have hf5:=HR2.out.free 5;have hf6:=HR2.out.free 6;have hf7:=HR2.out.free 7;have hf8:=HR2.out.free 8;have hf9:=HR2.out.free 9;have hf10:=HR2.out.free 10;go_wp2;have HBF:=aA (lM (w.heap.size+1) HB2.out (Nat.le_succ _) (I T 6) (I T 0) (I T (E:Int)) (I T 0) (I T 0) (I T rr.P) (I T rr.S) (I T 0) (I T 0) (I T 0) (J Z 0 0));have HRF:=aA (HR2.out.s11 (I T 6) (I T 0) (I T (E:Int)) (I T 0) (I T 0) (I T rr.P) (I T rr.S) (I T 0) (I T 0) (I T 0) (J Z 0 0));generalize World.setCell _ _ _=W9 at*;obtain⟨q0,q1,q2,q3,q4,q5,q6,q7,q8,q9,q10⟩:=HRF.out.c11;exact bodyPost_ret (v:=.agg #[I T 6,I T 0,I T (E:Int),I T 0,I T 0,I T rr.P,I T rr.S,I T 0,I T 0,I T 0,J Z 0 0]) (by simp[results,Tryz.results248,go_sem,q0,q1,q2,q3,q4,q5,q6,q7,q8,q9,q10]) rfl ⟨by rw[HRR.out],HBF.out⟩
end
def SD.wblk(d:SD)(bl v:Int):SD:=if bl=0 then{d with b0:=v} else if bl=1 then{d with b1:=v} else if bl=2 then{d with b2:=v} else{d with b3:=v}
def SD.step(d:SD)(k e b p s q bl v:Int)(zs:List Int):SD:=
 if k=1 then{d with vts:=fB d.vts e ((aE d.vts e).after 1 b p s)}
 else if k=3 then{d with vts:=fB d.vts e ((aE d.vts e).after 3 b p s)}
 else if k=6 then d.learn (e+1) p s
 else if k=7 then{d.wblk bl v with seen:=e,last:=q}
 else{d with seen:=e,last:=q,b0:=zs.getD 0 d.b0,b1:=zs.getD 1 d.b1,b2:=zs.getD 2 d.b2,b3:=zs.getD 3 d.b3}
def gG(k bl:Int)(n:Nat):Prop:=k=1∨k=3∨k=6∨(k=7/\0<=bl/\bl<=3)∨(k=9/\1<=n/\n<=4)
theorem aK.wide{A B:Nat->Prop}{w w':World}(h:aK A w w')(hAB:∀g,A g->B g):aK B w w':=⟨h.os,h.tape,h.output,h.size,fun k hk hB=>h.block k hk (fun hA=>hB (hAB k hA))⟩
theorem gA{w:World}{low St:Nat}{d:SD}{vr:Value}{Mp D H S:Nat}{va:Value}{fs:List FD}{L B:Nat}{cs:Array Value}{ty:TypeId}(h:aF w low St d vr Mp D)(hk:aL w low D H S va fs L)(hB:aB w B cs ty)(h1:ty≠200)(h2:ty≠66)(h3:ty≠98)(h4:ty≠107):¬eH St vr Mp S va B:=by
 rintro(hh|hh|hh|hh|hh)
 ·exact hB.ne h.blk h1 hh
 ·exact h.vot.ne hB hh.symm
 ·exact aW h.rcs hB.blk h2 hh
 ·subst hh;have h9:=hB.blk.symm.trans hk.ds.st;simp at h9;exact h3 h9.2
 ·exact aW hk.ds.row hB.blk h4 hh
theorem aL.store{w w':World}{low St:Nat}{d:SD}{vr:Value}{Mp D H S:Nat}{va:Value}{fs:List FD}{L:Nat}(h:aF w low St d vr Mp D)(hk:aL w low D H S va fs L)(hp:aK (fun g=>g=St∨g=Mp∨vr.ownBlock=Y g) w w'):aL w' low D H S va fs L:=by
 have e:∀(g:Nat) (cur:Array Value) (t':TypeId),w.heap[g]?=Y (G cur t' (0,0))->t'≠200->t'≠66->w'.heap[g]?=w.heap[g]?:=by
  intro g cur t' hg h1 h2;refine hp.block g (Array.getElem?_eq_some_iff.1 hg).1 ?_;rintro(hh|hh|hh)
  ·subst hh;have h9:=hg.symm.trans h.blk.blk;simp at h9;exact h1 h9.2
  ·subst hh;obtain⟨es,clk,h9,_⟩:=h.vot.obj;rw[h9]at hg;simp at hg
  ·exact aW h.rcs hg h2 hh
 refine⟨hk.hands.later (e D _ _ hk.hands.d (by decide) (by decide)) (e H _ _ hk.hands.h (by decide) (by decide)),⟨(e S _ _ hk.ds.st (by decide) (by decide)).trans hk.ds.st,aH hk.ds.row (fun g hg=>?_)⟩,hk.dS,hk.hS,hk.one,hk.bd⟩;obtain⟨cur,h9⟩:=hk.ds.rowAt hg;exact e g cur 107 h9 (by decide) (by decide)
theorem B4(low St:Nat)(d:SD)(vr:Value)(Mp D:Nat)(k f e b wa p s q bl v:Int)(a:Option Addr)(zs:List Int)(c:Nat)(w:World)(h:aF w low St d vr Mp D)(hz:bG w a zs)(hzS:∀ad,a=Y ad->ad.block≠St)(hid:0<=d.id/\d.id<5)(hlow:low<=w.heap.size)(hlt:d.recs.length<=1300000)(he:0<=e/\e<=1000000000000)(hfit:gG k bl zs.length):
  Calls pG 220 #[P0 (Y ⟨St,0,Z⟩),.agg #[I T k,I T f,I T e,I T b,I T wa,I T p,I T s,I T q,I T bl,I T v,J a zs.length c]] w fun r w'=>r=.returned (.tuple #[])/\∃vr',aF w' low St (d.step k e b p s q bl v zs) vr' Mp D/\aK (fun g=>g=St∨g=Mp∨vr.ownBlock=Y g) w w'/\(∀g,vr'.ownBlock=Y g->vr.ownBlock=Y g∨w.heap.size<=g):=by
 rcases hfit with rfl|rfl|rfl|⟨rfl,h1,h2⟩|⟨rfl,h1,h2⟩
 ·refine(zT low St d vr Mp D f e b wa p s q bl v _ w h).mono ?_;rintro r w2 ⟨rfl,hs,hk⟩;exact⟨rfl,vr,hs,hk.wide (fun g hg=>.inr (.inl hg)),fun g hg=>.inl hg⟩
 ·refine(zU low St d vr Mp D f e b wa p s q bl v _ w h).mono ?_;rintro r w2 ⟨rfl,hs,hk⟩;exact⟨rfl,vr,hs,hk.wide (fun g hg=>.inr (.inl hg)),fun g hg=>.inl hg⟩
 ·exact zV low St d vr Mp D f e b wa p s q bl v _ w h hid hlow (by omega) he
 ·have hb:bl=0∨bl=1∨bl=2∨bl=3:=by omega
  rcases hb with rfl|rfl|rfl|rfl
  ·refine(D0 low St d vr Mp D f e b wa p s q v _ w h).mono ?_;rintro r w2 ⟨rfl,hs,hk⟩;exact⟨rfl,vr,hs,hk.wide (fun g hg=>.inl hg),fun g hg=>.inl hg⟩
  ·refine(D1 low St d vr Mp D f e b wa p s q v _ w h).mono ?_;rintro r w2 ⟨rfl,hs,hk⟩;exact⟨rfl,vr,hs,hk.wide (fun g hg=>.inl hg),fun g hg=>.inl hg⟩
  ·refine(D2 low St d vr Mp D f e b wa p s q v _ w h).mono ?_;rintro r w2 ⟨rfl,hs,hk⟩;exact⟨rfl,vr,hs,hk.wide (fun g hg=>.inl hg),fun g hg=>.inl hg⟩
  ·refine(D3 low St d vr Mp D f e b wa p s q v _ w h).mono ?_;rintro r w2 ⟨rfl,hs,hk⟩;exact⟨rfl,vr,hs,hk.wide (fun g hg=>.inl hg),fun g hg=>.inl hg⟩
 ·rcases hz with h0|⟨g,off,rfl,hg,hc⟩
  ·subst h0;simp at h1
  ·have hgS:g≠St:=hzS _ rfl
   match zs,h1,h2,hc with
   | [z0],_,_,hc=>
    refine(D7 low St d vr Mp D f e b wa p s q bl v g off c z0 w h hg hgS (hc 0 (by simp))).mono ?_;rintro r w2 ⟨rfl,hs,hk⟩;exact⟨rfl,vr,hs,hk.wide (fun g hg=>.inl hg),fun g hg=>.inl hg⟩
   | [z0,z1],_,_,hc=>
    refine(D8 low St d vr Mp D f e b wa p s q bl v g off c z0 z1 w h hg hgS (hc 0 (by simp)) (hc 1 (by simp))).mono ?_;rintro r w2 ⟨rfl,hs,hk⟩;exact⟨rfl,vr,hs,hk.wide (fun g hg=>.inl hg),fun g hg=>.inl hg⟩
   | [z0,z1,z2],_,_,hc=>
    refine(D9 low St d vr Mp D f e b wa p s q bl v g off c z0 z1 z2 w h hg hgS (hc 0 (by simp)) (hc 1 (by simp)) (hc 2 (by simp))).mono ?_;rintro r w2 ⟨rfl,hs,hk⟩;exact⟨rfl,vr,hs,hk.wide (fun g hg=>.inl hg),fun g hg=>.inl hg⟩
   | [z0,z1,z2,z3],_,_,hc=>
    refine(EA low St d vr Mp D f e b wa p s q bl v g off c z0 z1 z2 z3 w h hg hgS (hc 0 (by simp)) (hc 1 (by simp)) (hc 2 (by simp)) (hc 3 (by simp))).mono ?_;rintro r w2 ⟨rfl,hs,hk⟩;exact⟨rfl,vr,hs,hk.wide (fun g hg=>.inl hg),fun g hg=>.inl hg⟩
section
set_option maxRecDepth 20000
theorem bG.keptI{w w':World}{A:Nat->Prop}{a:Option Addr}{zs:List Int}(h:bG w a zs)(hk:aK A w w')(hA:∀ad,a=Y ad->¬A ad.block):bG w' a zs:=by
 rcases h with h|⟨g,off,h1,h2,h3⟩
 ·exact .inl h
 ·exact .inr ⟨g,off,h1,Nat.lt_of_lt_of_le h2 hk.size,fun j hj=>(jE (hk.block g h2 (hA _ h1)) _).trans (h3 j hj)⟩
theorem B5(hSO:cU)(hBW:cV)(hBS:cS)(low St:Nat)(d:SD)(vr:Value)(Mp D H S:Nat)(va:Value)(fs:List FD)(L:Nat)(k f e b wa p s q bl v:Int)(a:Option Addr)(zs:List Int)(c:Nat)(w:World)(h:aF w low St d vr Mp D)(hk:aL w low D H S va fs L)(ht:aJ w)(hz:bG w a zs)(hw2:2<=w.heap.size)(hlow:low<=w.heap.size)(hL:L<=1200000000)(hlt:d.recs.length<=1300000)(hlv:d.vts.length<=1300000)(hln:0<=d.lines/\d.lines<=100000000)(hSt2:2<=St)(hzS:∀ad,a=Y ad->ad.block≠St)(hne:0<d.recs.length)(hre:∀r∈d.recs,0<=r.E/\r.E<=10000000000000):
  Calls pG 236 #[P0 (Y ⟨St,0,Z⟩),.agg #[I T k,I T f,I T e,I T b,I T wa,I T p,I T s,I T q,I T bl,I T v,J a zs.length c]] w fun r w'=>r=.returned (.bool true)/\∃va' fs' ln,aF w' low St {d with lines:=ln} vr Mp D/\aL w' low D H S va' fs' (Nat.max (L+301) (301*(d.recs.length+2*d.vts.length+1)))/\0<=ln/\ln<=Nat.max (d.lines.toNat+1) (d.recs.length+2*d.vts.length+1)/\(∀g,va'.ownBlock=Y g->va.ownBlock=Y g∨w.heap.size<=g)/\aK (fun g=>g=St∨g=S∨va.ownBlock=Y g) w w':=by
 by_cases hl:d.lines<64+2*((d.recs.length:Int)+2*(d.vts.length:Int))
 ·exact B2 low St d vr Mp D H S va fs L k f e b wa p s q bl v a zs c w h hk ht hz hw2 hlow hL hlt hlv hln hSt2 hzS hl
 ·exact ED hSO hBW hBS low St d vr Mp D H S va fs L k f e b wa p s q bl v a zs c w h hk ht hz hw2 hlow hL hlt hlv hln hSt2 hzS hne hre hl
theorem EE(hSO:cU)(hBW:cV)(hBS:cS)(low St:Nat)(d:SD)(vr:Value)(Mp D H S:Nat)(va:Value)(fs:List FD)(L:Nat)(k f e b wa p s q bl v:Int)(a:Option Addr)(zs:List Int)(c:Nat)(w:World)(h:aF w low St d vr Mp D)(hk:aL w low D H S va fs L)(ht:aJ w)(hz:bG w a zs)(hw2:2<=w.heap.size)(hlow:low<=w.heap.size)(hL:L<=1200000000)(hlt:d.recs.length<=1300000)(hlv:d.vts.length<=1300000)(hln:0<=d.lines/\d.lines<=100000000)(hSt2:2<=St)(hzS:∀ad,a=Y ad->ad.block≠St)(hne:0<d.recs.length)(hre:∀r∈d.recs,0<=r.E/\r.E<=10000000000000)(hid:0<=d.id/\d.id<5)(he:0<=e/\e<=1000000000000)(hfit:gG k bl zs.length)(hzf:∀ad,a=Y ad->¬eH St vr Mp S va ad.block):
  Calls pG 191 #[P0 (Y ⟨St,0,Z⟩),.agg #[I T k,I T f,I T e,I T b,I T wa,I T p,I T s,I T q,I T bl,I T v,J a zs.length c]] w fun r w'=>r=.returned (.bool true)/\∃vr' va' fs' ln,aF w' low St (({d with lines:=ln}:SD).step k e b p s q bl v zs) vr' Mp D/\aL w' low D H S va' fs' (Nat.max (L+301) (301*(d.recs.length+2*d.vts.length+1)))/\0<=ln/\ln<=Nat.max (d.lines.toNat+1) (d.recs.length+2*d.vts.length+1)/\(∀g,va'.ownBlock=Y g->va.ownBlock=Y g∨w.heap.size<=g)/\(∀g,vr'.ownBlock=Y g->vr.ownBlock=Y g∨w.heap.size<=g)/\aK (eH St vr Mp S va) w w':=by
 have hb0:=(Below.refl w.heap.size w).alloc (Nat.le_refl _) (G #[I T k,I T f,I T e,I T b,I T wa,I T p,I T s,I T q,I T bl,I T v,J a zs.length c] 136);have HM:Hid (aB (w.alloc (G #[I T k,I T f,I T e,I T b,I T wa,I T p,I T s,I T q,I T bl,I T v,J a zs.length c] 136)) w.heap.size #[I T k,I T f,I T e,I T b,I T wa,I T p,I T s,I T q,I T bl,I T v,J a zs.length c] 136):=aB.new _ _ _;have HB:Hid (Below w.heap.size w (w.alloc (G #[I T k,I T f,I T e,I T b,I T wa,I T p,I T s,I T q,I T bl,I T v,J a zs.length c] 136))):=hb0;have HT:Hid (aJ (w.alloc (G #[I T k,I T f,I T e,I T b,I T wa,I T p,I T s,I T q,I T bl,I T v,J a zs.length c] 136))):=ht.below hb0 hw2;have HZ:Hid (bG (w.alloc (G #[I T k,I T f,I T e,I T b,I T wa,I T p,I T s,I T q,I T bl,I T v,J a zs.length c] 136)) a zs):=hz.later hb0;have HZw:Hid (bG w a zs):=hz;have HSw:Hid (aF w low St d vr Mp D):=h;have HDw:Hid (aL w low D H S va fs L):=hk;have HZF:Hid (∀ad,a=Y ad->¬eH St vr Mp S va ad.block):=hzf;clear ht hz hb0 h hk hzf;go_enter Tryz.func191,Tryz.ntmps191
 go_upto_region 1 with fail
 generalize (w.alloc (G #[I T k,I T f,I T e,I T b,I T wa,I T p,I T s,I T q,I T bl,I T v,J a zs.length c] 136))=W0 at*;have hs0:=HB.out.size;have m0:=HM.out.cell 0;have m1:=HM.out.cell 1;have m2:=HM.out.cell 2;have m3:=HM.out.cell 3;have m4:=HM.out.cell 4;have m5:=HM.out.cell 5;have m6:=HM.out.cell 6;have m7:=HM.out.cell 7;have m8:=HM.out.cell 8;have m9:=HM.out.cell 9;have m10:=HM.out.cell 10;simp at m0 m1 m2 m3 m4 m5 m6 m7 m8 m9 m10
 go_wp2_with fail
 refine(B5 hSO hBW hBS low St d vr Mp D H S va fs L k f e b wa p s q bl v a zs c W0 (HSw.out.later HB.out) (HDw.out.later HB.out) HT.out HZ.out (by omega) (by omega) hL hlt hlv hln hSt2 hzS hne hre).mono ?_;rintro r w1 ⟨rfl,va1,fs1,ln,hs1,hd1,hln0,hln1,hv1,hk1⟩;have HS1:Hid (aF w1 low St {d with lines:=ln} vr Mp D):=hs1;have HD1:Hid (aL w1 low D H S va1 fs1 (Nat.max (L+301) (301*(d.recs.length+2*d.vts.length+1)))):=hd1;have HV1:Hid (∀g,va1.ownBlock=Y g->va.ownBlock=Y g∨w.heap.size<=g):=fun g hg=>(hv1 g hg).imp id (fun h9=>by omega);have HK0:Hid (aK (fun g=>g=St∨g=S∨va.ownBlock=Y g) W0 w1):=hk1;have HK1:Hid (aK (fun g=>g=St∨g=S∨va.ownBlock=Y g) w w1):=(aK.of_below (A:=fun _=>False) HB.out).trans hk1 (fun _ hh=>hh.elim) (fun _ _ hh=>hh);have hz1:=HK1.out.size;have hlo1:low<=w1.heap.size:=by omega
 have hsub:∀g,(g=St∨g=S∨va.ownBlock=Y g)->eH St vr Mp S va g:=fun g hh=>hh.elim .inl (fun h8=>.inr (.inr (.inr h8)));have HM1:Hid (aB w1 w.heap.size #[I T k,I T f,I T e,I T b,I T wa,I T p,I T s,I T q,I T bl,I T v,J a zs.length c] 136):=HM.out.same (HK0.out.block _ HM.out.lt (fun hh=>gA (HSw.out.later HB.out) (HDw.out.later HB.out) HM.out (by decide) (by decide) (by decide) (by decide) (hsub _ hh)));have HZ1:Hid (bG w1 a zs):=HZw.out.keptI HK1.out (fun ad had hh=>HZF.out ad had (hsub _ hh));clear hs1 hd1 hv1 hk1 m0 m1 m2 m3 m4 m5 m6 m7 m8 m9 m10;have m0:=HM1.out.cell 0;have m1:=HM1.out.cell 1;have m2:=HM1.out.cell 2;have m3:=HM1.out.cell 3;have m4:=HM1.out.cell 4;have m5:=HM1.out.cell 5;have m6:=HM1.out.cell 6;have m7:=HM1.out.cell 7;have m8:=HM1.out.cell 8;have m9:=HM1.out.cell 9;have m10:=HM1.out.cell 10;simp at m0 m1 m2 m3 m4 m5 m6 m7 m8 m9 m10
 go_upto_region 3 with fail
 refine eN (S:=(fun w'=>w'.cell? ⟨w.heap.size,0,Z⟩=Y (I T k)/\w'.cell? ⟨w.heap.size,1,Z⟩=Y (I T f)/\w'.cell? ⟨w.heap.size,2,Z⟩=Y (I T e)/\w'.cell? ⟨w.heap.size,3,Z⟩=Y (I T b)/\w'.cell? ⟨w.heap.size,4,Z⟩=Y (I T wa)/\w'.cell? ⟨w.heap.size,5,Z⟩=Y (I T p)/\w'.cell? ⟨w.heap.size,6,Z⟩=Y (I T s)/\w'.cell? ⟨w.heap.size,7,Z⟩=Y (I T q)/\w'.cell? ⟨w.heap.size,8,Z⟩=Y (I T bl)/\w'.cell? ⟨w.heap.size,9,Z⟩=Y (I T v)/\w'.cell? ⟨w.heap.size,10,Z⟩=Y (J a zs.length c))) fun _=>?_;refine tk 0 ?_;refine tk 1 ?_;refine tk 2 ?_;refine tk 3 ?_;refine aG 4 fun K hK=>?_
 (try go_simp)
 go_at_call 220
 refine(B4 low St {d with lines:=ln} vr Mp D k f e b wa p s q bl v a zs c w1.drew HS1.out.drew HZ1.out.drewI hzS hid (by exact hlo1) hlt he hfit).mono ?_;rintro r w2 ⟨rfl,vr2,hs2,hk2,hl2⟩;have HS2:Hid (aF w2 low St _ vr2 Mp D):=hs2;have HK2:Hid (aK (fun g=>g=St∨g=Mp∨vr.ownBlock=Y g) w1 w2):=⟨hk2.os,hk2.tape,hk2.output,hk2.size,hk2.block⟩;have HL2:Hid (∀g,vr2.ownBlock=Y g->vr.ownBlock=Y g∨w1.heap.size<=g):=hl2;have HM2:Hid (aB w2 w.heap.size _ 136):=HM1.out.same (HK2.out.block _ HM1.out.lt (fun hh=>gA HS1.out HD1.out HM1.out (by decide) (by decide) (by decide) (by decide) (hh.elim .inl (fun h8=>.inr (h8.elim .inl (fun h7=>.inr (.inl h7)))))));clear hs2 hk2 hl2;have y0:=HM2.out.cell 0;have y1:=HM2.out.cell 1;have y2:=HM2.out.cell 2;have y3:=HM2.out.cell 3;have y4:=HM2.out.cell 4;have y5:=HM2.out.cell 5;have y6:=HM2.out.cell 6;have y7:=HM2.out.cell 7;have y8:=HM2.out.cell 8;have y9:=HM2.out.cell 9;have y10:=HM2.out.cell 10;simp at y0 y1 y2 y3 y4 y5 y6 y7 y8 y9 y10;refine k1 hK fun _=>?_;clear hK K;refine dn ?_;go_wp2;go_ret;refine⟨rfl,vr2,va1,fs1,ln,HS2.out,aL.store HS1.out HD1.out HK2.out,hln0,hln1,HV1.out,?_,?_⟩
 ·intro g hg;exact(HL2.out g hg).imp id (fun h9=>by omega)
 ·refine⟨HK2.out.os.trans HK1.out.os,HK2.out.tape.trans HK1.out.tape,HK2.out.output.trans HK1.out.output,by have:=HK2.out.size;omega,fun g hg hA=>?_⟩;exact(HK2.out.block g (by omega) (fun hh=>hA (hh.elim .inl (fun h8=>.inr (h8.elim .inl (fun h7=>.inr (.inl h7))))))).trans (HK1.out.block g hg (fun hh=>hA (hh.elim .inl (fun h8=>.inr (.inr (.inr h8))))))
theorem aL.drewK{w:World}{low D H S:Nat}{va:Value}{fs:List FD}{L:Nat}(h:aL w low D H S va fs L):aL w.drew low D H S va fs L:=⟨h.hands.drewH,h.ds.drewD,h.dS,h.hS,h.one,h.bd⟩
theorem B6(hSO:cU)(hBW:cV)(hBS:cS)(Nd:Nat)(id nodes nb:Int)(act:Bool)(low St:Nat)(d:SD)(vr:Value)(Mp D H S:Nat)(va:Value)(fs:List FD)(L:Nat)(k f e b wa p s q bl v:Int)(a:Option Addr)(zs:List Int)(c:Nat)(w:World)(h:aF w low St d vr Mp D)(hk:aL w low D H S va fs L)(ht:aJ w)(hz:bG w a zs)(hw2:2<=w.heap.size)(hlow:low<=w.heap.size)(hL:L<=1200000000)(hlt:d.recs.length<=1300000)(hlv:d.vts.length<=1300000)(hln:0<=d.lines/\d.lines<=100000000)(hSt2:2<=St)(hzS:∀ad,a=Y ad->ad.block≠St)(hne:0<d.recs.length)(hre:∀r∈d.recs,0<=r.E/\r.E<=10000000000000)(hid:0<=d.id/\d.id<5)(he:0<=e/\e<=1000000000000)(hfit:gG k bl zs.length)(hzf:∀ad,a=Y ad->¬eH St vr Mp S va ad.block)(hn:aI w Nd id nodes nb St act):
  Calls pG 139 #[P0 (Y ⟨Nd,0,Z⟩),.agg #[I T k,I T f,I T e,I T b,I T wa,I T p,I T s,I T q,I T bl,I T v,J a zs.length c]] w fun r w'=>r=.returned (.bool true)/\aI w' Nd id nodes nb St act/\∃vr' va' fs' ln,aF w' low St (({d with lines:=ln}:SD).step k e b p s q bl v zs) vr' Mp D/\aL w' low D H S va' fs' (Nat.max (L+301) (301*(d.recs.length+2*d.vts.length+1)))/\0<=ln/\ln<=Nat.max (d.lines.toNat+1) (d.recs.length+2*d.vts.length+1)/\(∀g,va'.ownBlock=Y g->va.ownBlock=Y g∨w.heap.size<=g)/\(∀g,vr'.ownBlock=Y g->vr.ownBlock=Y g∨w.heap.size<=g)/\aK (eH St vr Mp S va) w w':=by
 have hb0:=(Below.refl w.heap.size w).alloc (Nat.le_refl _) (G #[I T k,I T f,I T e,I T b,I T wa,I T p,I T s,I T q,I T bl,I T v,J a zs.length c] 136);have HM:Hid (aB (w.alloc (G #[I T k,I T f,I T e,I T b,I T wa,I T p,I T s,I T q,I T bl,I T v,J a zs.length c] 136)) w.heap.size #[I T k,I T f,I T e,I T b,I T wa,I T p,I T s,I T q,I T bl,I T v,J a zs.length c] 136):=aB.new _ _ _;have HB:Hid (Below w.heap.size w (w.alloc (G #[I T k,I T f,I T e,I T b,I T wa,I T p,I T s,I T q,I T bl,I T v,J a zs.length c] 136))):=hb0;have HT:Hid (aJ (w.alloc (G #[I T k,I T f,I T e,I T b,I T wa,I T p,I T s,I T q,I T bl,I T v,J a zs.length c] 136))):=ht.below hb0 hw2;have HZ:Hid (bG (w.alloc (G #[I T k,I T f,I T e,I T b,I T wa,I T p,I T s,I T q,I T bl,I T v,J a zs.length c] 136)) a zs):=hz.later hb0;have HSW:Hid (aF (w.alloc (G #[I T k,I T f,I T e,I T b,I T wa,I T p,I T s,I T q,I T bl,I T v,J a zs.length c] 136)) low St d vr Mp D):=h.later hb0;have HDW:Hid (aL (w.alloc (G #[I T k,I T f,I T e,I T b,I T wa,I T p,I T s,I T q,I T bl,I T v,J a zs.length c] 136)) low D H S va fs L):=hk.later hb0;have HN:Hid (aI (w.alloc (G #[I T k,I T f,I T e,I T b,I T wa,I T p,I T s,I T q,I T bl,I T v,J a zs.length c] 136)) Nd id nodes nb St act):=hn.later hb0;clear ht hz hb0 h hk hn;go_enter Tryz.func139,Tryz.ntmps139
 go_upto_region 1 with fail
 generalize (w.alloc (G #[I T k,I T f,I T e,I T b,I T wa,I T p,I T s,I T q,I T bl,I T v,J a zs.length c] 136))=W0 at*;have hs0:=HB.out.size;have hw20:2<=W0.heap.size:=by omega
 have hlo0:low<=W0.heap.size:=by omega
 have m0:=HM.out.cell 0;have m1:=HM.out.cell 1;have m2:=HM.out.cell 2;have m3:=HM.out.cell 3;have m4:=HM.out.cell 4;have m5:=HM.out.cell 5;have m6:=HM.out.cell 6;have m7:=HM.out.cell 7;have m8:=HM.out.cell 8;have m9:=HM.out.cell 9;have m10:=HM.out.cell 10;simp at m0 m1 m2 m3 m4 m5 m6 m7 m8 m9 m10;have n3:=HN.out.blk.cell 3;simp at n3;refine eN (S:=(fun w'=>w'.cell? ⟨Nd,3,Z⟩=Y (P0 (Y ⟨St,0,Z⟩))/\w'.cell? ⟨w.heap.size,0,Z⟩=Y (I T k)/\w'.cell? ⟨w.heap.size,1,Z⟩=Y (I T f)/\w'.cell? ⟨w.heap.size,2,Z⟩=Y (I T e)/\w'.cell? ⟨w.heap.size,3,Z⟩=Y (I T b)/\w'.cell? ⟨w.heap.size,4,Z⟩=Y (I T wa)/\w'.cell? ⟨w.heap.size,5,Z⟩=Y (I T p)/\w'.cell? ⟨w.heap.size,6,Z⟩=Y (I T s)/\w'.cell? ⟨w.heap.size,7,Z⟩=Y (I T q)/\w'.cell? ⟨w.heap.size,8,Z⟩=Y (I T bl)/\w'.cell? ⟨w.heap.size,9,Z⟩=Y (I T v)/\w'.cell? ⟨w.heap.size,10,Z⟩=Y (J a zs.length c))) fun _=>?_;refine tk 0 ?_;refine tk 1 ?_;refine tk 2 ?_;refine tk 3 ?_;refine tk 4 ?_;refine aG 5 fun K hK=>?_
 (try go_simp)
 go_at_call 191
 refine(EE hSO hBW hBS low St d vr Mp D H S va fs L k f e b wa p s q bl v a zs c W0.drew HSW.out.drew HDW.out.drewK HT.out.drewT HZ.out.drewI (by exact hw20) (by exact hlo0) hL hlt hlv hln hSt2 hzS hne hre hid he hfit hzf).mono ?_;rintro r w1 ⟨rfl,vr1,va1,fs1,ln,hs1,hd1,hln0,hln1,hv1,hr1,hk1⟩;have HK1:Hid (aK (eH St vr Mp S va) W0 w1):=⟨hk1.os,hk1.tape,hk1.output,hk1.size,hk1.block⟩;have HS1:Hid (aF w1 low St _ vr1 Mp D):=hs1;have HD1:Hid (aL w1 low D H S va1 fs1 _):=hd1;have HM1:Hid (aB w1 w.heap.size _ 136):=HM.out.same (HK1.out.block _ HM.out.lt (gA HSW.out HDW.out HM.out (by decide) (by decide) (by decide) (by decide)));have HN1:Hid (aI w1 Nd id nodes nb St act):=⟨HN.out.blk.same (HK1.out.block _ HN.out.blk.lt (gA HSW.out HDW.out HN.out.blk (by decide) (by decide) (by decide) (by decide)))⟩;have HV1:Hid (∀g,va1.ownBlock=Y g->va.ownBlock=Y g∨W0.heap.size<=g):=hv1;have HR1:Hid (∀g,vr1.ownBlock=Y g->vr.ownBlock=Y g∨W0.heap.size<=g):=hr1;clear hs1 hd1 hv1 hr1 hk1;have y0:=HM1.out.cell 0;have y1:=HM1.out.cell 1;have y2:=HM1.out.cell 2;have y3:=HM1.out.cell 3;have y4:=HM1.out.cell 4;have y5:=HM1.out.cell 5;have y6:=HM1.out.cell 6;have y7:=HM1.out.cell 7;have y8:=HM1.out.cell 8;have y9:=HM1.out.cell 9;have y10:=HM1.out.cell 10;simp at y0 y1 y2 y3 y4 y5 y6 y7 y8 y9 y10;have n3:=HN1.out.blk.cell 3;have n4:=HN1.out.blk.cell 4;simp at n3 n4;refine k1 hK fun _=>?_;clear hK K;refine aG 6 fun K hK=>?_
 (try go_simp)
 refine k1 hK fun _=>?_;clear hK K;refine dn ?_;go_wp2;go_ret;refine⟨rfl,HN1.out,vr1,va1,fs1,ln,HS1.out,HD1.out,hln0,hln1,fun g hg=>(HV1.out g hg).imp (fun h9=>h9) (fun h9=>by omega),fun g hg=>(HR1.out g hg).imp (fun h9=>h9) (fun h9=>by omega),?_⟩;exact(aK.of_below (A:=fun _=>False) HB.out).trans HK1.out (fun _ hh=>hh.elim) (fun _ _ hh=>hh)
end
def bT(w w':World)(low Nd:Nat)(id nodes nb:Int)(act:Bool)(St:Nat)(vr:Value)(Mp D H S:Nat)(va:Value)(L:Nat)(P:SD->Prop):Prop:=
 ∃vr' va' fs' d',P d'/\aI w' Nd id nodes nb St act/\aF w' low St d' vr' Mp D/\aL w' low D H S va' fs' L/\(∀g,va'.ownBlock=Y g->va.ownBlock=Y g∨w.heap.size<=g)/\(∀g,vr'.ownBlock=Y g->vr.ownBlock=Y g∨w.heap.size<=g)/\aK (fun g=>g=Nd∨eH St vr Mp S va g) w w'
def dD(L:Nat)(d:SD):Nat:=Nat.max (L+301) (301*(d.recs.length+2*d.vts.length+1))
def dR(d:SD)(ln:Int):Prop:=0<=ln/\ln<=Nat.max (d.lines.toNat+1) (d.recs.length+2*d.vts.length+1)
theorem aL.mono{w:World}{low D H S:Nat}{va:Value}{fs:List FD}{L L':Nat}(h:aL w low D H S va fs L)(hL:L<=L'):aL w low D H S va fs L':=⟨h.hands,h.ds,h.dS,h.hS,h.one,fun f hf=>Nat.le_trans (h.bd f hf) hL⟩
section
variable {w w0 w1 w2 : World} {low Nd : Nat} {id nodes nb : Int} {act : Bool} {St : Nat} {vr : Value} {Mp D H S : Nat} {va : Value} {L : Nat} {P : SD → Prop}
theorem bT.still{d:SD}{fs:List FD}(hn:aI w Nd id nodes nb St act)(h:aF w low St d vr Mp D)(hk:aL w low D H S va fs L)(hb:Below w.heap.size w w1){L':Nat}(hL:L<=L')(hP:P d):bT w w1 low Nd id nodes nb act St vr Mp D H S va L' P:=
 ⟨vr,va,fs,d,hP,hn.later hb,h.later hb,(hk.later hb).mono hL,fun g hg=>.inl hg,fun g hg=>.inl hg,aK.of_below hb⟩
theorem bT.pre(h:bT w0 w1 low Nd id nodes nb act St vr Mp D H S va L P)(hb:Below w.heap.size w w0):bT w w1 low Nd id nodes nb act St vr Mp D H S va L P:=by
 obtain⟨vr',va',fs',d',h1,h2,h3,h4,h5,h6,h7⟩:=h;exact⟨vr',va',fs',d',h1,h2,h3,h4,fun g hg=>(h5 g hg).imp (fun h9=>h9) (fun h9=>Nat.le_trans hb.size h9),fun g hg=>(h6 g hg).imp (fun h9=>h9) (fun h9=>Nat.le_trans hb.size h9),(aK.of_below (A:=fun _=>False) hb).trans h7 (fun _ hh=>hh.elim) (fun _ _ hh=>hh)⟩
theorem bT.later(h:bT w w1 low Nd id nodes nb act St vr Mp D H S va L P)(hb:Below w1.heap.size w1 w2):bT w w2 low Nd id nodes nb act St vr Mp D H S va L P:=by
 obtain⟨vr',va',fs',d',h1,h2,h3,h4,h5,h6,h7⟩:=h;exact⟨vr',va',fs',d',h1,h2.later hb,h3.later hb,h4.later hb,h5,h6,h7.trans (aK.of_below (A:=fun _=>False) hb) (fun _ hh=>hh) (fun _ _ hh=>hh.elim)⟩
theorem bT.but{B:Nat}{cs:Array Value}{ty:TypeId}(h:bT w w1 low Nd id nodes nb act St vr Mp D H S va L P)(hB:aB w1 B cs ty)(hlo:w.heap.size<=B)(t1:ty≠192)(t2:ty≠200)(t3:ty≠66)(t4:ty≠100)(t5:ty≠102)(t6:ty≠98)(t7:ty≠107)(hb:aD B w1 w2):bT w w2 low Nd id nodes nb act St vr Mp D H S va L P:=by
 obtain⟨vr',va',fs',d',h1,h2,h3,h4,h5,h6,h7⟩:=h;refine⟨vr',va',fs',d',h1,⟨h2.blk.same (hb.block Nd (h2.blk.ne hB (Ne.symm t1)))⟩,⟨h3.blk.same (hb.block St (h3.blk.ne hB (Ne.symm t2))),aH h3.rcs (fun g hg=>hb.block g (fun hh=>aW h3.rcs hB.blk t3 (by rw[←hh];exact hg))),h3.vot.same (hb.block Mp (h3.vot.ne hB))⟩,h4.but hB t4 t5 t6 t7 hb,h5,h6,?_⟩;exact⟨hb.os.trans h7.os,hb.tape.trans h7.tape,hb.output.trans h7.output,by rw[hb.size];exact h7.size,fun k hk hA=>(hb.block k (by omega)).trans (h7.block k hk hA)⟩
end
theorem lS(hSO:cU)(hBW:cV)(hBS:cS)(Nd:Nat)(id nodes nb:Int)(act:Bool)(low St:Nat)(d:SD)(vr:Value)(Mp D H S:Nat)(va:Value)(fs:List FD)(L:Nat)(k f e b wa p s q bl v:Int)(a:Option Addr)(zs:List Int)(c:Nat)(w:World)(h:aF w low St d vr Mp D)(hk:aL w low D H S va fs L)(ht:aJ w)(hz:bG w a zs)(hw2:2<=w.heap.size)(hlow:low<=w.heap.size)(hL:L<=1200000000)(hlt:d.recs.length<=1300000)(hlv:d.vts.length<=1300000)(hln:0<=d.lines/\d.lines<=100000000)(hSt2:2<=St)(hzS:∀ad,a=Y ad->ad.block≠St)(hne:0<d.recs.length)(hre:∀r∈d.recs,0<=r.E/\r.E<=10000000000000)(hid:0<=d.id/\d.id<5)(he:0<=e/\e<=1000000000000)(hfit:gG k bl zs.length)(hzf:∀ad,a=Y ad->¬eH St vr Mp S va ad.block)(hn:aI w Nd id nodes nb St act):
  Calls pG 139 #[P0 (Y ⟨Nd,0,Z⟩),.agg #[I T k,I T f,I T e,I T b,I T wa,I T p,I T s,I T q,I T bl,I T v,J a zs.length c]] w fun r w'=>r=.returned (.bool true)/\bT w w' low Nd id nodes nb act St vr Mp D H S va (dD L d) (fun d'=>∃ln,dR d ln/\d'=({d with lines:=ln}:SD).step k e b p s q bl v zs):=by
 refine(B6 hSO hBW hBS Nd id nodes nb act low St d vr Mp D H S va fs L k f e b wa p s q bl v a zs c w h hk ht hz hw2 hlow hL hlt hlv hln hSt2 hzS hne hre hid he hfit hzf hn).mono ?_;rintro r w' ⟨rfl,h1,vr',va',fs',ln,h2,h3,h4,h5,h6,h7,h8⟩;exact⟨rfl,vr',va',fs',_,⟨ln,⟨h4,h5⟩,rfl⟩,h1,h2,h3,h6,h7,h8.wide (fun g hg=>.inr hg)⟩
section
set_option maxRecDepth 20000
theorem sP(low Nd St:Nat)(d:SD)(vr:Value)(Mp D:Nat)(id nodes nb:Int)(act:Bool)(k f b wa p s q bl v:Int)(a:Option Addr)(zs:List Int)(c:Nat)(w:World)(hn:aI w Nd id nodes nb St act)(h:aF w low St d vr Mp D)(hne:0<d.recs.length)(hlt:d.recs.length<=1300000)(E:Nat)(hE:E+1<d.recs.length):
  Calls pG 196 #[P0 (Y ⟨Nd,0,Z⟩),.agg #[I T k,I T f,I T (E:Int),I T b,I T wa,I T p,I T s,I T q,I T bl,I T v,J a zs.length c]] w fun r w'=>r=.returned (.agg #[I T 6,I T 0,I T (E:Int),I T 0,I T 0,I T (d.recs.getD (E+1) ⟨0,0,0⟩).P,I T (d.recs.getD (E+1) ⟨0,0,0⟩).S,I T 0,I T 0,I T 0,J Z 0 0])/\Below w.heap.size w w':=by
 have hde:decide ((E:Int)<(d.recs.length:Int) - 1)=true:=by simp;omega
 have hb0:=((Below.refl w.heap.size w).alloc (Nat.le_refl _) (G #[I T k,I T f,I T (E:Int),I T b,I T wa,I T p,I T s,I T q,I T bl,I T v,J a zs.length c] 136)).alloc (by simp) (G #[I T 0,I T 0,I T 0,I T 0,I T 0,I T 0,I T 0,I T 0,I T 0,I T 0,J Z 0 0] 136);have HM:Hid (aB ((w.alloc (G #[I T k,I T f,I T (E:Int),I T b,I T wa,I T p,I T s,I T q,I T bl,I T v,J a zs.length c] 136)).alloc (G #[I T 0,I T 0,I T 0,I T 0,I T 0,I T 0,I T 0,I T 0,I T 0,I T 0,J Z 0 0] 136)) w.heap.size #[I T k,I T f,I T (E:Int),I T b,I T wa,I T p,I T s,I T q,I T bl,I T v,J a zs.length c] 136):=(aB.new _ _ _).old _;have HR:Hid (aB ((w.alloc (G #[I T k,I T f,I T (E:Int),I T b,I T wa,I T p,I T s,I T q,I T bl,I T v,J a zs.length c] 136)).alloc (G #[I T 0,I T 0,I T 0,I T 0,I T 0,I T 0,I T 0,I T 0,I T 0,I T 0,J Z 0 0] 136)) (w.heap.size+1) #[I T 0,I T 0,I T 0,I T 0,I T 0,I T 0,I T 0,I T 0,I T 0,I T 0,J Z 0 0] 136):=by have h9:=aB.new (w.alloc (G #[I T k,I T f,I T (E:Int),I T b,I T wa,I T p,I T s,I T q,I T bl,I T v,J a zs.length c] 136)) #[I T 0,I T 0,I T 0,I T 0,I T 0,I T 0,I T 0,I T 0,I T 0,I T 0,J Z 0 0] 136;unfold Hid;simpa using h9
 have HB:=aA hb0;have HN:=aA (hn.later hb0);have HS:=aA (h.later hb0);have HN0:=aA hn;have HS0:=aA h;clear hb0 hn h;go_enter Tryz.func196,Tryz.ntmps196
 go_upto_region 1 with fail
 generalize ((w.alloc (G #[I T k,I T f,I T (E:Int),I T b,I T wa,I T p,I T s,I T q,I T bl,I T v,J a zs.length c] 136)).alloc (G #[I T 0,I T 0,I T 0,I T 0,I T 0,I T 0,I T 0,I T 0,I T 0,I T 0,J Z 0 0] 136))=W0 at*;have c3:=HN.out.blk.cell 3;simp at c3;obtain⟨m0,m1,m2,m3,m4,m5,m6,m7,m8,m9,m10⟩:=HM.out.c11;have hNd:=HN.out.blk.lt;have hMl:=HM.out.lt;have hRl:=HR.out.lt;have hs0:=HB.out.size
 go_quiet (first|(go_at_call 179;exact Calls.quiet_of_same (iJ low St d vr Mp D _ (HS.out.later (below_drewN (Below.refl _ _) _)) hne (by omega))))
 have hd1:Below W0.heap.size W0 (W0.drewN nq):=below_drewN (Below.refl _ _) _;have HR1:=aA (HR.out.later hd1);have HM1:=aA (HM.out.later hd1);have HN1:=aA (HN.out.later hd1);have HS1:=aA (HS.out.later hd1);have HB1:=aA (HB.out.trans (hd1.mono hs0));generalize W0.drewN nq=W1 at*;clear hd1 m0 m1 m2 m3 m4 m5 m6 m7 m8 m9 m10 c3 HR HM HN HS HB hNd hMl hRl hs0;obtain⟨m0,m1,m2,m3,m4,m5,m6,m7,m8,m9,m10⟩:=HM1.out.c11
 go_wp2_with fail
 refine(pZ low Nd St d vr Mp D id nodes nb act E W1 HN1.out HS1.out hE (by omega)).mono ?_;rintro r w2 ⟨rfl,hb2⟩;have HR2:=aA (HR1.out.later hb2);have HB2:=aA (HB1.out.trans (hb2.mono HB1.out.size));clear hb2 m0 m1 m2 m3 m4 m5 m6 m7 m8 m9 m10 HM1 HR1;generalize hrr:(d.recs.getD (E+1) ⟨0,0,0⟩)=rr at*;have HRR:=aA hrr.symm;clear hrr;obtain⟨r0,r1,r2,r3,r4,r5,r6,r7,r8,r9,r10⟩:=HR2.out.c11;have hf0:=HR2.out.free 0;have hf1:=HR2.out.free 1;have hf2:=HR2.out.free 2;have hf3:=HR2.out.free 3;have hf4:=HR2.out.free 4;have hf5:=HR2.out.free 5;have hf6:=HR2.out.free 6;have hf7:=HR2.out.free 7;have hf8:=HR2.out.free 8;have hf9:=HR2.out.free 9;have hf10:=HR2.out.free 10;have HBF:=aA (lM (w.heap.size+1) HB2.out (Nat.le_succ _) (I T 6) (I T 0) (I T (E:Int)) (I T 0) (I T 0) (I T rr.P) (I T rr.S) (I T 0) (I T 0) (I T 0) (J Z 0 0));have HRF:=aA (HR2.out.s11 (I T 6) (I T 0) (I T (E:Int)) (I T 0) (I T 0) (I T rr.P) (I T rr.S) (I T 0) (I T 0) (I T 0) (J Z 0 0));go_wp2;generalize World.setCell _ _ _=W9 at*;obtain⟨q0,q1,q2,q3,q4,q5,q6,q7,q8,q9,q10⟩:=HRF.out.c11;exact bodyPost_ret (v:=.agg #[I T 6,I T 0,I T (E:Int),I T 0,I T 0,I T rr.P,I T rr.S,I T 0,I T 0,I T 0,J Z 0 0]) (by simp[results,Tryz.results196,go_sem,q0,q1,q2,q3,q4,q5,q6,q7,q8,q9,q10]) rfl ⟨by rw[HRR.out],HBF.out⟩
theorem sQ(low Nd St:Nat)(d:SD)(vr:Value)(Mp D:Nat)(id nodes nb:Int)(act:Bool)(k f e b wa p s q bl v:Int)(a:Option Addr)(zs:List Int)(c:Nat)(w:World)(hn:aI w Nd id nodes nb St act)(h:aF w low St d vr Mp D)(hne:0<d.recs.length)(hlt:d.recs.length<=1300000)(he:(d.recs.length:Int) - 1<=e)(hb:b<(aE d.vts e).pr):
  Calls pG 196 #[P0 (Y ⟨Nd,0,Z⟩),.agg #[I T k,I T f,I T e,I T b,I T wa,I T p,I T s,I T q,I T bl,I T v,J a zs.length c]] w fun r w'=>r=.returned (.agg #[I T 5,I T 0,I T e,I T b,I T (aE d.vts e).pr,I T 0,I T 0,I T 0,I T 0,I T 0,J Z 0 0])/\Below w.heap.size w w':=by
 have hde:decide (e<(d.recs.length:Int) - 1)=false:=by simp;omega
 have hb0:=((Below.refl w.heap.size w).alloc (Nat.le_refl _) (G #[I T k,I T f,I T e,I T b,I T wa,I T p,I T s,I T q,I T bl,I T v,J a zs.length c] 136)).alloc (by simp) (G #[I T 0,I T 0,I T 0,I T 0,I T 0,I T 0,I T 0,I T 0,I T 0,I T 0,J Z 0 0] 136);have HM:Hid (aB ((w.alloc (G #[I T k,I T f,I T e,I T b,I T wa,I T p,I T s,I T q,I T bl,I T v,J a zs.length c] 136)).alloc (G #[I T 0,I T 0,I T 0,I T 0,I T 0,I T 0,I T 0,I T 0,I T 0,I T 0,J Z 0 0] 136)) w.heap.size #[I T k,I T f,I T e,I T b,I T wa,I T p,I T s,I T q,I T bl,I T v,J a zs.length c] 136):=(aB.new _ _ _).old _;have HR:Hid (aB ((w.alloc (G #[I T k,I T f,I T e,I T b,I T wa,I T p,I T s,I T q,I T bl,I T v,J a zs.length c] 136)).alloc (G #[I T 0,I T 0,I T 0,I T 0,I T 0,I T 0,I T 0,I T 0,I T 0,I T 0,J Z 0 0] 136)) (w.heap.size+1) #[I T 0,I T 0,I T 0,I T 0,I T 0,I T 0,I T 0,I T 0,I T 0,I T 0,J Z 0 0] 136):=by have h9:=aB.new (w.alloc (G #[I T k,I T f,I T e,I T b,I T wa,I T p,I T s,I T q,I T bl,I T v,J a zs.length c] 136)) #[I T 0,I T 0,I T 0,I T 0,I T 0,I T 0,I T 0,I T 0,I T 0,I T 0,J Z 0 0] 136;unfold Hid;simpa using h9
 have HB:=aA hb0;have HN:=aA (hn.later hb0);have HS:=aA (h.later hb0);have HN0:=aA hn;have HS0:=aA h;clear hb0 hn h;go_enter Tryz.func196,Tryz.ntmps196
 go_upto_region 1 with fail
 generalize ((w.alloc (G #[I T k,I T f,I T e,I T b,I T wa,I T p,I T s,I T q,I T bl,I T v,J a zs.length c] 136)).alloc (G #[I T 0,I T 0,I T 0,I T 0,I T 0,I T 0,I T 0,I T 0,I T 0,I T 0,J Z 0 0] 136))=W0 at*;have c3:=HN.out.blk.cell 3;simp at c3;obtain⟨m0,m1,m2,m3,m4,m5,m6,m7,m8,m9,m10⟩:=HM.out.c11;have hNd:=HN.out.blk.lt;have hMl:=HM.out.lt;have hRl:=HR.out.lt;have hs0:=HB.out.size
 go_quiet (first|(go_at_call 179;exact Calls.quiet_of_same (iJ low St d vr Mp D _ (HS.out.later (below_drewN (Below.refl _ _) _)) hne (by omega))))
 have hd1:Below W0.heap.size W0 (W0.drewN nq):=below_drewN (Below.refl _ _) _;have HR1:=aA (HR.out.later hd1);have HM1:=aA (HM.out.later hd1);have HN1:=aA (HN.out.later hd1);have HS1:=aA (HS.out.later hd1);have HB1:=aA (HB.out.trans (hd1.mono hs0));generalize W0.drewN nq=W1 at*;clear hd1 m0 m1 m2 m3 m4 m5 m6 m7 m8 m9 m10 c3 HR HM HN HS HB hNd hMl hRl hs0;have hs1:=HB1.out.size;have hSt1:=HS1.out.blk.lt;have hNd1:=HN1.out.blk.lt;have hMl1:=HM1.out.lt;have hRl1:=HR1.out.lt;have c3:=HN1.out.blk.cell 3;simp at c3;obtain⟨m0,m1,m2,m3,m4,m5,m6,m7,m8,m9,m10⟩:=HM1.out.c11
 go_upto_region 3 with fail
 go_cut [5] (fun s5 wx=>∃X,s5=P0 (Y ⟨X,0,Z⟩)/\W1.heap.size<=X/\aB wx X #[I T (aE d.vts e).pr,I T (aE d.vts e).ac,I T (aE d.vts e).pm,I T (aE d.vts e).st] 284/\Below W1.heap.size W1 wx)
 case first=>
  refine kL (S:=(fun w'=>w'.cell? ⟨Nd,3,Z⟩=Y (P0 (Y ⟨St,0,Z⟩))/\w'.cell? ⟨w.heap.size,2,Z⟩=Y (I T e))) fun _=>?_;refine tk 0 ?_;refine tk 1 ?_;refine tk 2 ?_;refine tk 3 ?_;refine tk 4 ?_;refine tk 5 ?_;refine tk 6 ?_;refine tk 7 ?_;refine iE [8,9] ?_;refine .cons rfl (fun K hK=>?_) ?_
  ·(try go_simp)
   go_at_call 186
   refine(kR low St d vr Mp D e W1.drew HS1.out.drew).mono ?_;rintro r wq ⟨rfl,hbq⟩;have HNQ:=aA (HN1.out.drew.later hbq);have HMQ:=aA (HM1.out.drew.later hbq);have z3:=HNQ.out.blk.cell 3;simp at z3;have y2:=HMQ.out.cell 2;simp at y2;unfold dC;refine k2 hK fun _=>?_;clear hK K;refine aG 9 fun K hK=>?_;go_simp;refine k2 hK fun _=>?_;clear hK K;refine aG 10 fun K hK=>?_;go_simp;refine k2 hK fun _=>?_;clear hK K;refine dn ?_
   go_wp2_with fail
   go_meet
   refine⟨wq.heap.size,rfl,?_,?_,?_⟩
   ·exact Nat.le_trans (by exact Nat.le_refl W1.heap.size) hbq.size
   ·exact aB.new _ _ _
   ·exact((Below.refl W1.heap.size W1).drew.trans hbq).alloc (by exact hbq.size) _
  refine .cons rfl (fun K hK=>?_) .nil;go_simp;refine k2 hK fun _=>?_;clear hK K;refine aG 8 fun K hK=>?_
  (try go_simp)
  go_at_call 186
  refine(kR low St d vr Mp D e (W1.alloc (G #[I T 0,I T 0,I T 0,I T 0] 284)).drew (HS1.out.later ((Below.refl _ _).alloc (Nat.le_refl _) _)).drew).mono ?_;rintro r wq ⟨rfl,hbq⟩;have HNQ:=aA (((HN1.out.later ((Below.refl _ _).alloc (Nat.le_refl _) _)).drew).later hbq);have HMQ:=aA (((HM1.out.old _).drew).later hbq);have HVQ:=((aB.new W1 #[I T 0,I T 0,I T 0,I T 0] 284).drew).later hbq;have g0:=HVQ.cell 0;have g1:=HVQ.cell 1;have g2:=HVQ.cell 2;have g3:=HVQ.cell 3;simp at g0 g1 g2 g3;have hf0:=HVQ.free 0;have hf1:=HVQ.free 1;have hf2:=HVQ.free 2;have hf3:=HVQ.free 3;have z3:=HNQ.out.blk.cell 3;simp at z3;have y2:=HMQ.out.cell 2;simp at y2;unfold dC;refine k2 hK fun _=>?_;clear hK K;refine aG 10 fun K hK=>?_;go_simp;refine k2 hK fun _=>?_;clear hK K;refine dn ?_
  go_wp2_with fail
  go_meet
  refine⟨W1.heap.size,rfl,Nat.le_refl _,?_,?_⟩
  ·have h9:=(((HVQ.set 0 (I T (aE d.vts e).pr)).set 1 (I T (aE d.vts e).ac)).set 2 (I T (aE d.vts e).pm)).set 3 (I T (aE d.vts e).st)
   simpa using h9
  ·have hq:=(((Below.refl W1.heap.size W1).alloc (Nat.le_refl _) _).drew).trans (hbq.mono (by show _<=(World.alloc _ _).heap.size;simp));exact bX (bX (bX (bX hq (Nat.le_refl _) _ _) (Nat.le_refl _) _ _) (Nat.le_refl _) _ _) (Nat.le_refl _) _ _
 case rest=>
  obtain⟨X,rfl,hX,hxb,hbx⟩:=hcut;have HX:=aA hxb;have HR2:=aA (HR1.out.later hbx);have HM2:=aA (HM1.out.later hbx);have HN2:=aA (HN1.out.later hbx);have HS2:=aA (HS1.out.later hbx);have HB2:=aA (HB1.out.trans (hbx.mono hs1));have hs2:=hbx.size;clear hxb hbx HR1 HM1 HN1 HS1 HB1 c3 m0 m1 m2 m3 m4 m5 m6 m7 m8 m9 m10;have HXE:Hid ((aE d.vts e)=(aE d.vts e)):=rfl;generalize hxv:(aE d.vts e)=xv at*;have HXV:=aA hxv.symm;clear hxv HXE;have x0:=HX.out.cell 0;have x1:=HX.out.cell 1;have x2:=HX.out.cell 2;have x3:=HX.out.cell 3;simp at x0 x1 x2 x3;obtain⟨m0,m1,m2,m3,m4,m5,m6,m7,m8,m9,m10⟩:=HM2.out.c11;obtain⟨r0,r1,r2,r3,r4,r5,r6,r7,r8,r9,r10⟩:=HR2.out.c11;have hf0:=HR2.out.free 0;have hf1:=HR2.out.free 1;have hf2:=HR2.out.free 2;have hf3:=HR2.out.free 3;have hf4:=HR2.out.free 4;have hf5:=HR2.out.free 5;have hf6:=HR2.out.free 6;have hf7:=HR2.out.free 7;have hf8:=HR2.out.free 8;have hf9:=HR2.out.free 9;have hf10:=HR2.out.free 10;have HBF:=aA (lM (w.heap.size+1) HB2.out (Nat.le_succ _) (I T 5) (I T 0) (I T e) (I T b) (I T xv.pr) (I T 0) (I T 0) (I T 0) (I T 0) (I T 0) (J Z 0 0));have HRF:=aA (HR2.out.s11 (I T 5) (I T 0) (I T e) (I T b) (I T xv.pr) (I T 0) (I T 0) (I T 0) (I T 0) (I T 0) (J Z 0 0));go_wp2;generalize World.setCell _ _ _=W9 at*;obtain⟨q0,q1,q2,q3,q4,q5,q6,q7,q8,q9,q10⟩:=HRF.out.c11;exact bodyPost_ret (v:=.agg #[I T 5,I T 0,I T e,I T b,I T xv.pr,I T 0,I T 0,I T 0,I T 0,I T 0,J Z 0 0]) (by simp[results,Tryz.results196,go_sem,q0,q1,q2,q3,q4,q5,q6,q7,q8,q9,q10]) rfl ⟨by rw[←HXV.out],HBF.out⟩
end
end Go.Proofs.YtdcainmlcpafbaaGreatDoor
