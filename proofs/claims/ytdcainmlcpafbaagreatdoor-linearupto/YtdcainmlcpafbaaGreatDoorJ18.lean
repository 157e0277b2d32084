import Derived.Test.YtdcainmlcpafbaaGreatDoorJ17
set_option linter.all false
set_option maxHeartbeats 8000000
set_option maxRecDepth 20000
namespace Go.Proofs.YtdcainmlcpafbaaGreatDoor
open Go.RowKit
open Value renaming slice->J,pointer->P0
open Tryz
open Tryz renaming prog->pG
open IntKind renaming i64->T
open Option renaming none->Z,some->Y
open Obj renaming cells->G
open Value (bool)
def mC.pre{P:Pl}{x:NB}{d:SD}{fs:List FD}{left:Int}{t:Nat}{C:Nat->Prop}{lo:List Ky}{rs:List dJ}{r:Ending}{w w1 w':World}(h:mC P x d fs left t C lo rs r w1 w')(c:dP C C w w1):mC P x d fs left t C lo rs r w w':=by
 rcases h with⟨f,a,b⟩|⟨B,l,a,b,e⟩;·exact .fail f a (b.chain c)
 ·exact .ok B l a (b.mono c.kept.size) (e.chain c)
def gT(x:NB)(k f e b wa p s q bl v:Int):NB:=bif decide (x.fo.wa<wa) then({x with fo:=⟨k,f,e,b,wa,p,s,q,bl,v⟩}:NB) else x
def pK(P:Pl)(x:NB)(d:SD)(fs:List FD)(left:Int)(t:Nat)(C:Nat->Prop)(la lo:List Ky)(rs:List dJ)(k f e b wa p s q bl v:Int)(r:Ending)(w w':World):Prop:=(((gQ x d e b 2&&!decide (iQ k f e b q∈la))=false)/\(r=.returned (J Z 0 0))/\(dO w' P x d fs left (eA t) C (iR x d la k f e b q 2) lo rs)/\(dP C C w w'))∨((kJ x d la k f e b q 2=false)/\((gQ x d e b 2&&!decide (iQ k f e b q∈la))=true)/\(r=.returned (J Z 0 0))/\(dO w' P (gT x k f e b wa p s q bl v) d fs left (eA t) C (iR x d la k f e b q 2) lo rs)/\(dP C C w w'))∨((kJ x d la k f e b q 2=true)/\(mC P (gT x k f e b wa p s q bl v) d fs left t C lo rs r w w'))
def pK.no{P:Pl}{x:NB}{d:SD}{fs:List FD}{left:Int}{t:Nat}{C:Nat->Prop}{la lo:List Ky}{rs:List dJ}{k f e b wa p s q bl v:Int}{r:Ending}{w w':World}(h:(gQ x d e b 2&&!decide (iQ k f e b q∈la))=false)(c:r=.returned (J Z 0 0))(a:dO w' P x d fs left (eA t) C (iR x d la k f e b q 2) lo rs)(g:dP C C w w'):pK P x d fs left t C la lo rs k f e b wa p s q bl v r w w':=.inl ⟨h,c,a,g⟩
def pK.few{P:Pl}{x:NB}{d:SD}{fs:List FD}{left:Int}{t:Nat}{C:Nat->Prop}{la lo:List Ky}{rs:List dJ}{k f e b wa p s q bl v:Int}{r:Ending}{w w':World}(h:kJ x d la k f e b q 2=false)(c:(gQ x d e b 2&&!decide (iQ k f e b q∈la))=true)(g:r=.returned (J Z 0 0))(a:dO w' P (gT x k f e b wa p s q bl v) d fs left (eA t) C (iR x d la k f e b q 2) lo rs)(i:dP C C w w'):pK P x d fs left t C la lo rs k f e b wa p s q bl v r w w':=.inr (.inl ⟨h,c,g,a,i⟩)
def pK.go{P:Pl}{x:NB}{d:SD}{fs:List FD}{left:Int}{t:Nat}{C:Nat->Prop}{la lo:List Ky}{rs:List dJ}{k f e b wa p s q bl v:Int}{r:Ending}{w w':World}(h:kJ x d la k f e b q 2=true)(a:mC P (gT x k f e b wa p s q bl v) d fs left t C lo rs r w w'):pK P x d fs left t C la lo rs k f e b wa p s q bl v r w w':=.inr (.inr (⟨h,a⟩))
def FW(hSO:fA)(hBW:fC)(hBS:fD)(P:Pl)(x:NB)(d:SD)(fs:List FD)(left:Int)(t:Nat)(C:Nat->Prop)(la lo:List Ky)(rs:List dJ)(k f e b wa p s q bl v:Int)(w:World)(h:dO w P x d fs left (eA t) C la lo rs)(hB:BG t d)(ht:t<=1000000)(ae:x.down=false)(a0:2<=x.nodes/\x.nodes<=5)(ap:0<=x.id/\x.id<x.nodes)(av:e_ x.ba)(ak:0<=(dU (gT x k f e b wa p s q bl v)).gP/\(dU (gT x k f e b wa p s q bl v)).gP<=5)(ai:0<=(dU (gT x k f e b wa p s q bl v)).gS/\(dU (gT x k f e b wa p s q bl v)).gS<=31)(aA:la.length<=999999)(B:Nat)(hm:gQ x d e b 2=true->x.an=some B):Calls pG 197 #[P0 (Y ⟨P.Nd,0,Z⟩),.agg (mA k f e b wa p s q bl v (J Z 0 0))] w λr w'=>pK P x d fs left t C la lo rs k f e b wa p s q bl v r w w':=by
 have V:=a_ w (G (mA k f e b wa p s q bl v (J Z 0 0)) 136);have HM:=dA (dC.new w (mA k f e b wa p s q bl v (J Z 0 0)) 136);have HB:=dA V;have HC:=dA (AA P x d fs left (eA t) t C la lo rs k f e b wa p s q bl v none 0 0 2 B (w.alloc (G (mA k f e b wa p s q bl v (J Z 0 0)) 136)) (h.later V) hB ht hm (.inl rfl));have Q:=λ(y:NB) (hy:gT x k f e b wa p s q bl v=y) w1 (ag:List Ky) (h:dO w1 P y d fs left (eA t) C ag lo rs)=>GO hSO hBW hBS P y d fs left t C ag lo rs w1 h hB ht (by subst hy;unfold gT;cases decide (x.fo.wa<wa)<;>exact ae) (by subst hy;unfold gT;cases decide (x.fo.wa<wa)<;>exact a0) (by subst hy;unfold gT;cases decide (x.fo.wa<wa)<;>exact ap) (by subst hy;unfold gT;cases decide (x.fo.wa<wa)<;>exact av) (by subst hy;exact ak) (by subst hy;exact ai);replace Q:=dA Q;have ad:=dA hm;have ab:Hid (dP C C w (w.alloc (G (mA k f e b wa p s q bl v (J Z 0 0)) 136))):=.of_below V;have az:Hid (¬C w.heap.size):=h.fresh r_;obtain⟨b1,e1⟩:∃y,(gQ x d e b 2&&!decide (iQ k f e b q∈la))=y:=⟨_,rfl⟩;obtain⟨b2,e2⟩:∃y,decide (x.nodes<2*((iR x d la k f e b q 2).length:Int))=y:=⟨_,rfl⟩;have O:Hid (kJ x d la k f e b q 2=(b1&&b2)):=by unfold Hid kJ;rw[e1,e2]
 have a5:=dA e1;have aq:=dA e1;have ah:=dA e2;have ac:(iR x d la k f e b q 2).length<=1000000:=by
  unfold iR i7;cases gQ x d e b 2;·simp;omega
  ·simp only[cond_true];split;·omega
   ·simp;omega
 clear h hB ae hm V e1 e2 ak ai;go_enter func197,ntmps197;go_upto_region 1 with fail;generalize World.alloc _ _=W0 at*;have ar:=HM.cell;go_wp2_with fail;refine HC.mono ?_;rintro r w1 ⟨rfl,aj,a7⟩;have E:Hid (dO w1 P x d fs left (eA t) C (iR x d la k f e b q 2) lo rs):=aj;have a2:Hid (dP C C w w1):=ab.trans a7;have X:=dA (a7.blk HM az);have H:(gQ x d e b 2&&!decide ((k,e,max b q,f)∈la))=b1:=aq.out;rw[H];clear aj a7 HC ab ar;cases b1;·clear H;go_wp2;go_ret;exact .no a5 rfl E a2
 have af:gQ x d e b 2=true:=by rw[Bool.and_eq_true]at H;exact H.1
 have z:=dA (ad.out af);clear H af ad;obtain⟨bw,aa⟩:∃y,decide (x.fo.wa<wa)=y:=⟨_,rfl⟩;have N:=dA aa;clear aa;go_upto_region 3 with fail;go_cut [17] (λs17 wx=>s17=.bool bw/\Below w1.heap.size w1 wx);case first=>refine eY (S:=(λw'=>dC w' w.heap.size (mA k f e b wa p s q bl v (J Z 0 0)) 136/\dC w' P.Nd x.arr 192)) (λ_=>?_) (hS:=⟨X.drew,E.blk.drew⟩);refine dB 0 ?_;refine dB 1 ?_ (hy:=by intro w a3;have g:=a3.1.cell 4;simp at g;go_simp;(try with_reducible rfl));refine dB 2 ?_;refine dB 3 ?_;refine dB 4 ?_;refine dB 5 ?_;refine dB 6 ?_;refine dB 7 ?_ (hy:=by intro w a3;have g:=a3.2.cell 17;simp at g;go_simp;(try with_reducible rfl));refine dF 8 λK hK=>?_;(try go_simp);rw[N.out];refine k1 hK (λ_=>?_) ⟨X.drew,E.blk.drew⟩;clear hK K;refine dn ?_;go_wp2_with fail;go_meet;exact⟨rfl,b_.drew⟩
 case rest=>
 obtain⟨rfl,U⟩:=hcut;obtain⟨w2,am⟩:∃y,y=wc:=⟨_,rfl⟩;subst am;have j:=dA (E.later U);have a6:=dA (a2.later U);have a4:=dA (X.later U);clear U E a2 X;cases bw
 ·have m:Hid (gT x k f e b wa p s q bl v=x):=by unfold Hid gT;rw[N.out];rfl
  clear N a4;obtain⟨D,ao⟩:∃y,y=w2:=⟨_,rfl⟩;subst ao;have L:fZ D B (iR x d la k f e b q 2):=by
   rcases j.an with⟨g,_⟩|⟨B2,g,h8⟩;·rw[show(x:NB).an=x.an from rfl,z.out]at g;cases g
   ·rw[show(x:NB).an=x.an from rfl,z.out]at g;cases g;exact h8
  have y1:=j.blk.cell 1;have i:=j.blk.cell 24;simp at y1 i;rw[z.out]at i;have M:=dA (xO P.Nd B x.nodes _ D y1 i L a0 ac);clear L y1 i;go_wp2_with fail;refine M.mono ?_;rintro r w4 ⟨rfl,nq,rfl⟩;have u:Below D.heap.size D (D.drewN nq):=below_drewN b_ _;have A:=dA (j.later u);have F:=dA (a6.later u);clear u M;generalize World.drewN _ _=W4 at*;rw[ah.out];cases b2;·go_wp2;go_ret;refine .few (by rw[O.out];rfl) a5 rfl ?_ F;rw[m.out];exact A
  go_wp2_with fail;refine(Q.out x (by rw[m.out]) W4 _ A).mono ?_;rintro r w6 o;have HQ:=dA o;have a8:∃l,r=.returned l/\∃a n c,l=J a n c:=by
   rcases o with⟨h1,h2,h3⟩|⟨B,l,h2,h3,h4⟩;·exact⟨_,h2,_,_,_,rfl⟩
   ·obtain⟨a9,n9,c9,g⟩:=h3.shape;exact⟨l,h2,a9,n9,c9,g⟩
  obtain⟨l,rfl,a9,n9,c9,rfl⟩:=a8;clear o;go_wp2;go_ret;refine .go (by rw[O.out];rfl) ?_;rw[m.out];exact HQ.pre F
 have m:Hid (gT x k f e b wa p s q bl v=({x with fo:=⟨k,f,e,b,wa,p,s,q,bl,v⟩}:NB)):=by unfold Hid gT;rw[N.out];rfl
 have R:=dA j.blk;have ay:=a4.cell;have aw:=R.cell;have au:=R.free;have a1:dI P.Nd w2 (((((((((((w2.setCell ⟨P.Nd,13,Z⟩ (I k)).setCell ⟨P.Nd,14,Z⟩ (I f)).setCell ⟨P.Nd,15,Z⟩ (I e)).setCell ⟨P.Nd,16,Z⟩ (I b)).setCell ⟨P.Nd,17,Z⟩ (I wa)).setCell ⟨P.Nd,18,Z⟩ (I p)).setCell ⟨P.Nd,19,Z⟩ (I s)).setCell ⟨P.Nd,20,Z⟩ (I q)).setCell ⟨P.Nd,21,Z⟩ (I bl)).setCell ⟨P.Nd,22,Z⟩ (I v)).setCell ⟨P.Nd,23,Z⟩ (J Z 0 0)):=((((((((((((dI.self P.Nd w2).set 13 (I k)).set 14 (I f)).set 15 (I e)).set 16 (I b)).set 17 (I wa)).set 18 (I p)).set 19 (I s)).set 20 (I q)).set 21 (I bl)).set 22 (I v)).set 23 (J Z 0 0));have ax:Hid (dC (((((((((((w2.setCell ⟨P.Nd,13,Z⟩ (I k)).setCell ⟨P.Nd,14,Z⟩ (I f)).setCell ⟨P.Nd,15,Z⟩ (I e)).setCell ⟨P.Nd,16,Z⟩ (I b)).setCell ⟨P.Nd,17,Z⟩ (I wa)).setCell ⟨P.Nd,18,Z⟩ (I p)).setCell ⟨P.Nd,19,Z⟩ (I s)).setCell ⟨P.Nd,20,Z⟩ (I q)).setCell ⟨P.Nd,21,Z⟩ (I bl)).setCell ⟨P.Nd,22,Z⟩ (I v)).setCell ⟨P.Nd,23,Z⟩ (J Z 0 0)) P.Nd ({x with fo:=⟨k,f,e,b,wa,p,s,q,bl,v⟩}:NB).arr 192):=by have g:=(((((((((((R.set 13 (I k)).set 14 (I f)).set 15 (I e)).set 16 (I b)).set 17 (I wa)).set 18 (I p)).set 19 (I s)).set 20 (I q)).set 21 (I bl)).set 22 (I v)).set 23 (J Z 0 0));unfold Hid;simpa using g
 have W:=dA (j.node (x':=({x with fo:=⟨k,f,e,b,wa,p,s,q,bl,v⟩}:NB)) a1 ax rfl rfl rfl rfl);have al:=dA (a6.trans (.node a1 j.nC));clear a1 N;go_upto_region 5 with fail;generalize World.setCell _ _ _=D at*;clear R j a6 a4 au aw ay;have L:fZ D B (iR x d la k f e b q 2):=by
  rcases W.an with⟨g,_⟩|⟨B2,g,h8⟩;·rw[show(({x with fo:=⟨k,f,e,b,wa,p,s,q,bl,v⟩}:NB):NB).an=x.an from rfl,z.out]at g;cases g
  ·rw[show(({x with fo:=⟨k,f,e,b,wa,p,s,q,bl,v⟩}:NB):NB).an=x.an from rfl,z.out]at g;cases g;exact h8
 have y1:=W.blk.cell 1;have i:=W.blk.cell 24;simp at y1 i;rw[z.out]at i;have M:=dA (xO P.Nd B x.nodes _ D y1 i L a0 ac);clear L y1 i;go_wp2_with fail;refine M.mono ?_;rintro r w4 ⟨rfl,nq,rfl⟩;have u:Below D.heap.size D (D.drewN nq):=below_drewN b_ _;have A:=dA (W.later u);have F:=dA (al.later u);clear u M;generalize World.drewN _ _=W4 at*;rw[ah.out];cases b2;·go_wp2;go_ret;refine .few (by rw[O.out];rfl) a5 rfl ?_ F;rw[m.out];exact A
 go_wp2_with fail;refine(Q.out ({x with fo:=⟨k,f,e,b,wa,p,s,q,bl,v⟩}:NB) (by rw[m.out]) W4 _ A).mono ?_;rintro r w6 o;have HQ:=dA o;have a8:∃l,r=.returned l/\∃a n c,l=J a n c:=by
  rcases o with⟨h1,h2,h3⟩|⟨B,l,h2,h3,h4⟩;·exact⟨_,h2,_,_,_,rfl⟩
  ·obtain⟨a9,n9,c9,g⟩:=h3.shape;exact⟨l,h2,a9,n9,c9,g⟩
 obtain⟨l,rfl,a9,n9,c9,rfl⟩:=a8;clear o;go_wp2;go_ret;refine .go (by rw[O.out];rfl) ?_;rw[m.out];exact HQ.pre F
def nI(x:NB)(d:SD)(e b wa:Int):NB:=bif e==d.ep&&(b==x.ba&&decide (0<b)) then({x with rf:=if x.rf<wa then wa else x.rf}:NB) else x
def GP(P:Pl)(x:NB)(d:SD)(fs:List FD)(left:Int)(L t:Nat)(C:Nat->Prop)(la lo:List Ky)(rs:List dJ)(k f e b wa p s q bl v:Int)(a:Option Addr)(B c:Nat)(w:World)(h:dO w P x d fs left L C la lo rs)(X:BG t d)(ht:t<=1000000):Calls pG 199 #[P0 (Y ⟨P.Nd,0,Z⟩),.agg (mA k f e b wa p s q bl v (J a B c))] w λr w'=>r=.returned (.tuple #[])/\dO w' P (nI x d e b wa) d fs left L C la lo rs/\dP C C w w':=by
 obtain⟨A,hA,K,n⟩:=h.nod;obtain⟨vr,va,h1,h2,h3⟩:=hA.ex;have E:=X.ne;have a1:=X.recs;have g:=a_ w (G (mA k f e b wa p s q bl v (J a B c)) 136);have F:=dA (dC.new w (mA k f e b wa p s q bl v (J a B c)) 136);have HB:=dA g;have HF:=dA (h.later g);have z:=dA (CU P.Nd x P.low d vr P.Mp P.D k f e b wa p s q bl v a B c _ (h1.later g) E oG (h.blk.later g));have a2:Hid (w.heap.size≠P.Nd):=λhh=>by have:=h.blk.lt;omega
 obtain⟨b2,H⟩:∃y,(e==d.ep&&(b==x.ba&&decide (0<b)))=y:=⟨_,rfl⟩;have S:=dA H;have m:Hid (nI x d e b wa=bif b2 then({x with rf:=if x.rf<wa then wa else x.rf}:NB) else x):=by unfold Hid nI;rw[H]
 clear h hA h1 h2 h3 X g K n H;go_enter func199,ntmps199;go_upto_region 1 with fail;generalize World.alloc _ _=W0 at*;have O:=HB.size;obtain⟨m0,m1,m2,m3,M,m5,m6,m7,m8,m9,R⟩:=F.c11;go_wp2_with fail;refine z.mono ?_;rintro r w1 ⟨rfl,j⟩;rw[S.out];have i:=dA (HF.later j);have W:=dA (F.later j);have u:Hid (dP C C w w1):=.of_below (HB.trans (j.mono O));clear j HF F m0 m1 m2 m3 M m5 m6 m7 m8 m9 R z;cases b2;·go_wp2;refine bodyPost_end (v:=.tuple #[]) (by simp[results,results199,go_sem]) rfl ?_;refine⟨rfl,?_,u⟩;rw[m.out];exact i
 have l:=dA i.blk;have V:=l.cell 12;simp at V;have a0:=l.free 12;have M:=W.cell 4;simp at M;have o:Hid (dI P.Nd w1 (w1.setCell ⟨P.Nd,12,Z⟩ (I (if x.rf<wa then wa else x.rf)))):=dI.setCell w1 ⟨P.Nd,12,Z⟩ _;have N:Hid (dC (w1.setCell ⟨P.Nd,12,Z⟩ (I (if x.rf<wa then wa else x.rf))) P.Nd ({x with rf:=if x.rf<wa then wa else x.rf}:NB).arr 192):=by have h9:=l.set 12 (I (if x.rf<wa then wa else x.rf));unfold Hid;simpa using h9
 have U:=dA (i.node (x':=({x with rf:=if x.rf<wa then wa else x.rf}:NB)) o N rfl rfl rfl rfl);have Q:=dA (u.trans (.node o i.nC));go_upto_region 2 with fail;go_region;generalize World.setCell _ _ _=W2 at*;generalize (if x.rf<wa then wa else x.rf)=mx at*;go_wp2;refine bodyPost_end (v:=.tuple #[]) (by simp[results,results199,go_sem]) rfl ?_;refine⟨rfl,?_,Q.later (b_.drew)⟩;rw[m.out];exact U.later (b_.drew)
def iD(S id e q:Int)(lo:List Ky):Nat->Int
 |0=>bits BinOp.andNot IntKind.i64 S (2^id.toNat)
 |t+1=>bif decide (((8:Int),e,max 0 q,(t:Int))∈lo) then bits BinOp.andNot IntKind.i64 (iD S id e q lo t) (2^t) else iD S id e q lo t
def zN(P:Pl)(x:NB)(d:SD)(fs:List FD)(left:Int)(L t0:Nat)(C:Nat->Prop)(la lo:List Ky)(rs:List dJ)(B:Nat)(w:World)(h:dO w P x d fs left L C la lo rs)(hB:BG t0 d)(ht:t0<=1000000)(aB:2<=x.nodes/\x.nodes<=5)(aE:0<=x.id/\x.id<x.nodes)(z:x.oa=some B):Calls pG 180 #[P0 (Y ⟨P.Nd,0,Z⟩)] w λr w'=>r=.returned (I (iD d.dh.S x.id x.ow.e x.ow.q lo x.nodes.toNat))/\Below w.heap.size w w':=by
 obtain⟨A,hA,ap,a3⟩:=h.nod;obtain⟨vr,va,h1,h2,h3⟩:=hA.ex;have ai:=hB.ne;have aC:=hB.recs;have HS:=dA h1;have HN:=dA h.blk;have aa:fZ w B lo:=by
  rcases h.oa with⟨i,_⟩|⟨B2,i,h8⟩;·rw[z]at i;cases i
  ·rw[z]at i;cases i;exact h8
 have ao:=dA aa;have az:=dA z;clear h hA h1 h2 h3 hB ap a3 aa z;have ay:∀w',Sem.run pG (Instr.field 66 (Value.agg #[I d.dh.E,I d.dh.P,I d.dh.S]) 2) w'=.ok (I d.dh.S) w':=λ_=>rfl;generalize U:iD d.dh.S x.id x.ow.e x.ow.q lo=mf;have H:Hid (mf=iD d.dh.S x.id x.ow.e x.ow.q lo):=U.symm;have ab:mf 0=bits BinOp.andNot IntKind.i64 d.dh.S (2^x.id.toNat):=by rw[H.out];rfl
 have ar:Hid (∀t,mf (t+1)=bif decide (((8:Int),x.ow.e,max 0 x.ow.q,(t:Int))∈lo) then bits BinOp.andNot IntKind.i64 (mf t) (2^t) else mf t):=λt=>by rw[H.out];rfl
 have am:=dA ab;clear U ab H;have n:x.id=0∨x.id=1∨x.id=2∨x.id=3∨x.id=4:=oG;go_enter func180,ntmps180;go_upto_region 1 with fail;go_cut [3] (λs3 wx=>s3=I (mf 0)/\Below w.heap.size w wx);case first=>
  rcases n with n|n|n|n|n;all_goals
   have a8:=dA n
   clear n
   refine eY (S:=(λw'=>dC w' P.Nd x.arr 192)) (λ_=>?_) (hS:=HN.drew)
   refine dB 0 ?_;refine dB 3 ?_;refine dB 4 ?_;refine dB 5 ?_;refine dB 6 ?_ (hy:=by intro w g;have i:=g.cell 0;simp at i;rw[a8.out]at i;go_simp;(try with_reducible rfl));refine dB 7 ?_
   refine dF 1 λK j=>?_
   (try go_simp)
   go_at_call 133
   refine(uF P.low x.St P.Nd d vr P.Mp P.D w.drew (HN.drew.cell 3) HN.drew.lt HS.drew ai oG).mono ?_
   rintro r w1 ⟨rfl,ah⟩
   have F:Hid (Below w.heap.size w w1):=b_.drew.trans ah
   have a:=dA (HN.later F)
   clear ah
   refine k1 j (λ_=>?_) a
   clear j K
   refine dF 2 λK j=>?_
   (try go_simp)
   refine k1 j (λ_=>?_) a
   clear j K
   refine dF 8 λK j=>?_
   (try go_simp)
   refine k1 j (λ_=>?_) a
   clear j K
   refine dF 9 λK j=>?_
   (try go_simp)
   refine k1 j (λ_=>?_) a
   clear j K
   refine dn ?_
   go_wp2_with fail
   go_meet
   exact⟨by rw[am.out,a8.out];rfl,F⟩
 case rest=>
 obtain⟨rfl,c⟩:=hcut;obtain⟨W1,aj⟩:∃y,y=wc:=⟨_,rfl⟩;subst aj;have F:=dA c;have a:=dA (HN.later c);have a1:=dA (ao.later c);have ak:=c.size;clear c n ay;have a4:=a.cell 26;have a0:=a.cell 27;have af:=a.cell 28;have ae:=a.cell 29;have W:=a.cell 30;have Q:=a.cell 31;have a9:=a.cell 32;have a2:=a.cell 33;have a6:=a.cell 34;have a5:=a.cell 35;have ac:=a.cell 36;have n1:=a.cell 1;simp at n1 a4 a0 af ae W Q a9 a2 a6 a5 ac;have u:Below W1.heap.size W1 (W1.alloc (G (mA x.ow.k x.ow.f x.ow.e x.ow.b x.ow.wa x.ow.p x.ow.s x.ow.q x.ow.bl x.ow.v (J Z 0 0)) 136)):=a_ _ _;have av:Hid (dC (W1.alloc (G (mA x.ow.k x.ow.f x.ow.e x.ow.b x.ow.wa x.ow.p x.ow.s x.ow.q x.ow.bl x.ow.v (J Z 0 0)) 136)) W1.heap.size (mA x.ow.k x.ow.f x.ow.e x.ow.b x.ow.wa x.ow.p x.ow.s x.ow.q x.ow.bl x.ow.v (J Z 0 0)) 136):=dC.new _ _ _;have au:=dA (a.later u);have a7:=dA (a1.later u);have ag:Hid (Below w.heap.size w (W1.alloc (G (mA x.ow.k x.ow.f x.ow.e x.ow.b x.ow.wa x.ow.p x.ow.s x.ow.q x.ow.bl x.ow.v (J Z 0 0)) 136))):=F.trans (u.mono ak);have aq:=(u.cell (p:=⟨P.Nd,1,Z⟩) a.lt).trans n1;clear u;go_upto_region 4 with fail;generalize World.alloc _ _=W2 at*;clear n1 aq a4 a0 af ae W Q a9 a2 a6 a5 ac;have an:=ag.size;go_loopw [3,24] (λs3 s24 wr=>∃t:Nat,(t:Int)<=x.nodes/\s24=I (t:Int)/\s3=I (mf t)/\Below W2.heap.size W2 wr) (λs3 s24 wr=>x.nodes.toNat - (intOf s24).toNat);case atStart=>exact⟨0,oG,rfl,rfl,Below.refl _ _⟩
 case round=>
  obtain⟨t,aD,rfl,rfl,o⟩:=hrel;have O:=dA o;have ad:=dA (au.later o);have R:=dA (av.later o);have V:=dA (a7.later o);clear o;by_cases aF:(t:Int)<x.nodes
  ·obtain⟨bb,M⟩:∃y,decide (((8:Int),x.ow.e,max 0 x.ow.q,(t:Int))∈lo)=y:=⟨_,rfl⟩;have ax:=dA M;have l:Hid (mf (t+1)=bif bb then bits BinOp.andNot IntKind.i64 (mf t) (2^t) else mf t):=by unfold Hid;rw[ar.out t,M]
   clear M;go_upto_region 6 with fail;go_cut [38] (λs38 wx=>s38=.bool bb/\Below wr.heap.size wr wx);case first=>refine eY (S:=(λw'=>dC w' P.Nd x.arr 192/\dC w' W1.heap.size (mA x.ow.k x.ow.f x.ow.e x.ow.b x.ow.wa x.ow.p x.ow.s x.ow.q x.ow.bl x.ow.v (J Z 0 0)) 136)) (λ_=>?_) (hS:=⟨ad.drew,R.drew⟩);refine dB 0 ?_;refine dB 1 ?_;refine dB 2 ?_;refine dB 3 ?_;refine dB 4 ?_ (hy:=by intro w g;have i:=g.1.cell 37;simp at i;rw[az.out]at i;go_simp;(try with_reducible rfl));refine dB 5 ?_;refine dB 6 ?_;refine dB 7 ?_ (hy:=by intro w g;have i:=g.2.cell 2;simp at i;go_simp;(try with_reducible rfl));refine dB 8 ?_;refine dB 9 ?_ (hy:=by intro w g;have i:=g.2.cell 7;simp at i;go_simp;(try with_reducible rfl));refine dB 10 ?_;refine dF 11 λK j=>?_;(try go_simp);go_at_call 232;refine(BK B lo 8 (t:Int) x.ow.e 0 0 0 0 x.ow.q 0 0 none 0 0 wr.drew ⟨V.obj⟩).mono ?_;rintro r w4 ⟨rfl,aA⟩;have aw:decide (((8:Int),x.ow.e,max 0 x.ow.q,(t:Int))∈lo)=bb:=ax.out;rw[aw];have N:Hid (Below wr.heap.size wr w4):=b_.drew.trans aA;refine k1 j (λ_=>?_) ⟨ad.later N,R.later N⟩;clear j K;refine dn ?_;go_wp2_with fail;go_meet;exact⟨rfl,N⟩
   case rest=>
   obtain⟨rfl,c⟩:=hcut;have m:Hid (Below W2.heap.size W2 wc):=O.trans (c.mono O.size);clear c;cases bb
   ·go_wp2_with fail;go_roundw;case rel=>exact⟨t+1,oG,rfl,by rw[l.out];rfl,m⟩
    case measure=>simp[intOf];omega
   have n:t=0∨t=1∨t=2∨t=3∨t=4:=oG;rcases n with rfl|rfl|rfl|rfl|rfl;all_goals
    go_wp2_with fail
    go_roundw
    case rel=>first|exact⟨1,oG,rfl,congrArg I l.symm,m⟩|exact⟨2,oG,rfl,congrArg I l.symm,m⟩|exact⟨3,oG,rfl,congrArg I l.symm,m⟩|exact⟨4,oG,rfl,congrArg I l.symm,m⟩|exact⟨5,oG,rfl,congrArg I l.symm,m⟩
    case measure=>simp[intOf];omega
  obtain X:x.nodes.toNat=t:=oG;have al:=dA X;clear X;go_wp2;go_ret;rw[al.out];exact⟨rfl,ag.trans (O.mono an)⟩
def AQ(s:Int)(t:Nat)(hs:0<=s/\s<=31)(a:t<5):0<=bits BinOp.andNot IntKind.i64 s (2^t)/\bits BinOp.andNot IntKind.i64 s (2^t)<=31:=by obtain⟨m,rfl⟩:=Int.eq_ofNat_of_zero_le hs.1;have b:∀m:Nat,m<32->∀t:Nat,t<5->0<=bits BinOp.andNot IntKind.i64 (m:Int) (2^t)/\bits BinOp.andNot IntKind.i64 (m:Int) (2^t)<=31:=dG;exact b m oG t a
def BM(S id e q:Int)(lo:List Ky)(hS:0<=S/\S<=31)(a:0<=id/\id<5):∀t,t<=5->0<=iD S id e q lo t/\iD S id e q lo t<=31
 |0,_=>AQ S _ hS oG
 |t+1,h=>by
  have ih:=BM S id e q lo hS a t oG;unfold iD;cases decide (((8:Int),e,max 0 q,(t:Int))∈lo);·exact ih
  ·exact AQ _ t ih oG
def AR(P:Pl)(x:NB)(d:SD)(fs:List FD)(left:Int)(L z:Nat)(C:Nat->Prop)(la lo:List Ky)(rs:List dJ)(B:Nat)(w:World)(h:dO w P x d fs left L C la lo rs)(U:BG z d)(V:z<=1000000)(j:2<=x.nodes/\x.nodes<=5)(H:0<=x.id/\x.id<x.nodes)(A:x.oa=some B)(hS:0<=d.dh.S/\d.dh.S<=31)(R:fH x.ow.k x.id [0,x.ow.e,x.ow.b,x.ow.wa,x.ow.p,x.ow.s,x.ow.q,x.ow.bl,x.ow.v,0]=true):Calls pG 132 #[P0 (Y ⟨P.Nd,0,Z⟩)] w λr w'=>∃l,r=.returned l/\dY w' w.heap.size l (fT (iD d.dh.S x.id x.ow.e x.ow.q lo x.nodes.toNat) (gO x.ow.k x.id x.ow.e x.ow.b x.ow.wa x.ow.p x.ow.s x.ow.q x.ow.bl x.ow.v []) x.nodes.toNat)/\Below w.heap.size w w':=by have O:=dA h.blk;have HT:=dA h.tabs;have F:=dA (zN P x d fs left L z C la lo rs B w.drew (h.later b_.drew) U V j H A);have t:=BM d.dh.S x.id x.ow.e x.ow.q lo hS oG x.nodes.toNat oG;have u:=dA R;have y:=h.tabs.two;generalize iD d.dh.S x.id x.ow.e x.ow.q lo x.nodes.toNat=mi at*;clear h U R;go_enter func132,ntmps132;go_upto_region 1 with fail;refine eY (S:=(λw'=>dC w' P.Nd x.arr 192)) (λ_=>?_) (hS:=O.drew);refine dB 0 ?_;refine dB 1 ?_;refine dB 3 ?_;refine dB 4 ?_;refine dB 5 ?_;refine dB 6 ?_;refine i8 7 P.Nd 26 [I x.ow.k,I x.ow.f,I x.ow.e,I x.ow.b,I x.ow.wa,I x.ow.p,I x.ow.s,I x.ow.q,I x.ow.bl,I x.ow.v,J Z 0 0] ?_ (λw M=>M.range rfl);refine dF 2 λK g=>?_;(try go_simp);go_at_call 180;refine F.mono ?_;rintro r w1 ⟨rfl,o⟩;have c:Hid (Below w.heap.size w w1):=b_.drew.trans o;have a:=dA (O.later c);have n:=c.size;clear o;refine k1 g (λ_=>?_) a;clear g K;refine dF 8 λK g=>?_;(try go_simp);go_at_call 140;have Q:=a.cell 0;have N:=a.cell 1;simp at Q N;refine(oV P.Nd x.id x.nodes mi x.ow.k x.ow.f x.ow.e x.ow.b x.ow.wa x.ow.p x.ow.s x.ow.q x.ow.bl x.ow.v none [] 0 w1 Q N a.lt (HT.below c y) (.inl rfl) ⟨oG,j.2⟩ t u).mono ?_;rintro r w2 ⟨l,rfl,D,i⟩;obtain⟨W,X,a0,rfl⟩:=D.shape;have m:=dA (a.later i);have HL:=dA (D.mono n);have E:Hid (Below w.heap.size w w2):=c.trans (i.mono n);clear D i;refine k1 g (λ_=>?_) m;clear g K;refine dF 9 λK g=>?_;(try go_simp);refine k1 g (λ_=>?_) m;clear g K;refine dn ?_;go_wp2;go_ret;exact⟨_,rfl,HL,E⟩
def DY(Nd:Nat)(x:NB)(bl:Int)(w:World)(a:dC w Nd x.arr 192):Calls pG 193 #[P0 (Y ⟨Nd,0,Z⟩),I bl] w λr w'=>r=.returned (.bool (decide (0<=bl)&&decide (bl<x.nb)))/\w'=w:=by
 have f:=a.cell 2;simp at f;obtain⟨b,d⟩:∃y,decide (0<=bl)=y:=⟨_,rfl⟩;obtain⟨e,c⟩:∃y,decide (bl<x.nb)=y:=⟨_,rfl⟩;rw[d,c];clear a;cases b<;>cases e;all_goals
  go_enter func193,ntmps193
  go_wp2
  go_ret
  exact⟨rfl,rfl⟩
def BN(low St:Nat)(d:SD)(vr:Value)(Mp D:Nat)(w:World)(h:eE w low St d vr Mp D):Calls pG 190 #[P0 (Y ⟨St,0,Z⟩)] w λr w'=>r=.returned (.agg #[I d.b0,I d.b1,I d.b2,I d.b3])/\Below w.heap.size w w':=by have b:=a_ w (G #[I 0,I 0,I 0,I 0] 194);have q:=dA b;have o:=dA (dC.new w #[I 0,I 0,I 0,I 0] 194);have p:=dA (h.later b);clear h b;go_enter func190,ntmps190;go_upto_region 1 with fail;generalize World.alloc _ _=W1 at*;have c:W1.rangeAt St 3 [I d.b0,I d.b1,I d.b2,I d.b3]:=p.blk.range rfl;have e:=dA c;clear c;have g:=lO (P:=pG) (t:=194) (i:=0) (vs:=#[I d.b0,I d.b1,I d.b2,I d.b3]) o kG sG (by intro u k;simp at k;rcases k with rfl|rfl|rfl|rfl<;>rfl) #[I d.b0,I d.b1,I d.b2,I d.b3] sG;have a:=dA (o.row (ds:=#[I d.b0,I d.b1,I d.b2,I d.b3]));have f:Hid (Below w.heap.size w (W1.setRow w.heap.size #[I d.b0,I d.b1,I d.b2,I d.b3])):=q.trans ((lH W1 w.heap.size _).below r_);go_wp2_with(first|(refine wpList_load_mid rfl 194 _ rfl St 3 rfl [I d.b0,I d.b1,I d.b2,I d.b3] _ e underlying194 rfl kG ?_)|(refine qQ rfl 194 _ _ rfl _ _ rfl rfl g ?_));go_wp2;generalize World.setRow _ _ _=s at*;have j:=a.cell 0;have l:=a.cell 1;have n:=a.cell 2;have m:=a.cell 3;simp at j l n m;exact bodyPost_ret (v:=.agg #[I d.b0,I d.b1,I d.b2,I d.b3]) (by simp[results,results190,go_sem,j,l,n,m]) rfl ⟨rfl,f⟩
def AS(P:Pl)(x:NB)(d:SD)(fs:List FD)(left:Int)(L t0:Nat)(C:Nat->Prop)(la lo:List Ky)(rs:List dJ)(w:World)(h:dO w P x d fs left L C la lo rs)(hB:BG t0 d)(ht:t0<=1000000)(c:1<=x.nb/\x.nb<=4):Calls pG 138 #[P0 (Y ⟨P.Nd,0,Z⟩)] w λr w'=>∃l,r=.returned (.agg (mA 9 0 d.ep 0 0 0 0 d.last 0 0 (J (Y ⟨l,0,Z⟩) x.nb.toNat 4)))/\w.heap.size<l/\dC w' l #[I d.b0,I d.b1,I d.b2,I d.b3] 194/\Below w.heap.size w w':=by
 obtain⟨A,hA,O,t⟩:=h.nod;obtain⟨vr,va,X,h2,h3⟩:=hA.ex;have F:=hB.ne;have a8:=hB.recs;have g:=a_ w (G mz 136);have V:=dA g;have HR:=dA (dC.new w mz 136);have HS:=dA (X.later g);have M:=dA (h.blk.later g);have ag:=h.blk.lt;have z:=dA (BN P.low x.St d vr P.Mp P.D _ (X.later g));clear h hA X h2 h3 hB O t g;have ai:∀w',Sem.run pG (Instr.field 196 (Value.agg #[I d.seen,I d.last]) 1) w'=.ok (I d.last) w':=λ_=>rfl;go_enter func138,ntmps138;go_upto_region 1 with fail;generalize World.alloc _ _=W0 at*;have U:=V.size;have a6:=HR.lt;have n3:=M.cell 3;simp at n3;go_wp2_with fail;refine z.mono ?_;rintro r w1 ⟨rfl,k⟩;have HY:=dC.new w1 #[I d.b0,I d.b1,I d.b2,I d.b3] 194;have i:Below W0.heap.size W0 (w1.alloc (G #[I d.b0,I d.b1,I d.b2,I d.b3] 194)):=k.alloc k.size _;have R:=dA HY;have p:=dA (M.later i);have a0:=dA (HR.later i);have y:=dA (HS.later i);have B:Hid (Below w.heap.size w (w1.alloc (G #[I d.b0,I d.b1,I d.b2,I d.b3] 194))):=V.trans (i.mono U);have a1:w.heap.size<w1.heap.size:=by have:=k.size;omega
 clear k i HY n3 M HR HS V z;go_upto_region 2 with fail;generalize World.alloc _ _=W2 at*;generalize w1.heap.size=l at*;have N:=B.size;have u:x.nb=1∨x.nb=2∨x.nb=3∨x.nb=4:=oG;clear c;rcases u with c|c|c|c;all_goals
  have s:=dA c
  clear c
  go_upto_region 2 with fail
  refine eY (S:=(λw'=>dC w' P.Nd x.arr 192)) (λ_=>?_) (hS:=p.drew)
  refine dB 0 ?_;refine dB 1 ?_;refine dB 2 ?_;refine dB 3 ?_ (hy:=by intro w f;have q:=f.cell 3;simp at q;go_simp;(try with_reducible rfl));refine dB 4 ?_;refine dB 5 ?_;refine dB 7 ?_;refine dB 8 ?_;refine dB 9 ?_;refine dB 10 ?_ (hy:=by intro w f;have q:=f.cell 3;simp at q;go_simp;(try with_reducible rfl));refine dB 11 ?_;refine dB 12 ?_;refine dB 15 ?_;refine dB 16 ?_;refine dB 17 ?_;refine dB 18 ?_ (hy:=by intro w f;have q:=f.cell 2;simp at q;rw[s.out]at q;go_simp;(try with_reducible rfl));refine dB 19 ?_
  refine dF 6 λK e=>?_
  (try go_simp)
  go_at_call 179
  refine(lQ P.low x.St d vr P.Mp P.D _ y.drew F oG).mono ?_
  rintro r wv ⟨rfl,rfl⟩
  refine k1 e (λ_=>?_) p.drew
  clear e K
  refine dF 13 λK e=>?_
  (try go_simp)
  go_at_call 189
  refine(oR P.low x.St d vr P.Mp P.D W2.drew y.drew).mono ?_
  rintro r w3 ⟨rfl,E⟩
  have b:Below W2.heap.size W2 w3:=b_.drew.trans E
  have j:=dA (p.later b);have a:=dA (a0.later b);have a2:=dA (R.later b);have H:Hid (Below w.heap.size w w3):=B.trans (b.mono N)
  clear E b
  refine k1 e (λ_=>?_) j
  clear e K
  refine dF 14 λK e=>?_
  (try go_simp)
  refine k1 e (λ_=>?_) j
  clear e K
  refine dF 20 λK e=>?_
  (try go_simp)
  refine k1 e (λ_=>?_) j
  clear e K
  refine dF 21 λK e=>?_
  obtain⟨r0,r1,r2,r3,r4,r5,r6,r7,r8,r9,aa⟩:=a.c11
  have ae:=a.free 0;have ak:=a.free 1;have aj:=a.free 2;have ad:=a.free 3;have ah:=a.free 4;have af:=a.free 5;have ac:=a.free 6;have a9:=a.free 7;have ab:=a.free 8;have a7:=a.free 9;have a5:=a.free 10
  (try go_simp)
  generalize o:World.setCell _ _ _=W9
  have m:Hid (dI w.heap.size w3 W9):=by rw[←o];exact oB _ _ _ _ _ _ _ _ _ _ _ _ _
  obtain⟨n,W,hn⟩:∃n:Nat,Hid (dC W9 w.heap.size (mA 9 0 d.ep 0 0 0 0 d.last 0 0 (J (Y ⟨l,0,Z⟩) n 4)) 136)/\x.nb=(n:Int):=by rw[←o];exact⟨_,a.s11 _ _ _ _ _ _ _ _ _ _ _,s⟩
  clear o
  have a3:=dA (j.same (m.block P.Nd oG));have Q:=dA (a2.same (m.block l oG))
  refine k1 e (λ_=>?_) a3
  clear e K
  refine dn ?_
  go_wp2
  obtain⟨q0,q1,q2,q3,q4,q5,q6,q7,q8,q9,a4⟩:=W.c11
  exact bodyPost_ret (v:=.agg (mA 9 0 d.ep 0 0 0 0 d.last 0 0 (J (Y ⟨l,0,Z⟩) n 4))) (by simp[results,results138,go_sem,q0,q1,q2,q3,q4,q5,q6,q7,q8,q9,a4]) rfl ⟨l,by rw[hn];rfl,a1,Q,H.trans (m.below r_)⟩
def iF(d:SD)(nb:Int):List Int:=[d.b0,d.b1,d.b2,d.b3].take nb.toNat
def rH(f e q:Int)(n:Nat)(a:0<=f/\f<5)(c:e_ e)(b:e_ q)(d:n<=4):fH 9 f [0,e,0,0,0,0,q,0,0,(n:Int)]=true:=mZ 9 f _ oG a ((nV e 0 0 0 0 q 0 0 (n:Int)).2 ⟨c,b,⟨oG,oG⟩,rfl,rfl,rfl,rfl,rfl,rfl⟩)
def wT(d:SD)(nb:Int)(w:World)(c:Nat)(h:dC w c #[I d.b0,I d.b1,I d.b2,I d.b3] 194)(g:1<=nb/\nb<=4):fB w (Y ⟨c,0,Z⟩) (iF d nb)/\(iF d nb).length=nb.toNat:=by
 have f:nb=1∨nb=2∨nb=3∨nb=4:=oG;rcases f with rfl|rfl|rfl|rfl;all_goals
  refine⟨.inr ⟨c,0,rfl,h.lt,?_⟩,rfl⟩
  intro j a
  have e:j<4:=Nat.lt_of_lt_of_le a (by simp[iF])
  have b:=h.cell j
  match j,e with
  |0,_=>exact b
  |1,_=>first|exact b|(simp[iF]at a)
  |2,_=>first|exact b|(simp[iF]at a)
  |3,_=>first|exact b|(simp[iF]at a)
def qK(P:Pl)(x:NB)(d:SD)(fs:List FD)(left:Int)(t:Nat)(C:Nat->Prop)(la lo:List Ky)(rs:List dJ)(r:Ending)(w w':World):Prop:=(∃l:Value,(x.ph=0)/\(r=.returned l)/\(dY w' w.heap.size l (fT (kC x) (gO 1 x.id d.ep 0 0 0 0 0 0 0 []) x.nodes.toNat))/\(dO w' P x d fs left (eA t) C la lo rs)/\(dP C C w w'))∨(∃l:Value,(x.ph=1)/\(r=.returned l)/\(dY w' w.heap.size l (fT (2^x.jo.toNat) (gO 9 x.id d.ep 0 0 0 0 d.last 0 0 (iF d x.nb)) x.nodes.toNat))/\(dO w' P x d fs left (eA t) C la lo rs)/\(dP C C w w'))∨((2<=x.ph)/\(lM P x d fs left t C la lo rs r w w'))
def qK.idle{P:Pl}{x:NB}{d:SD}{fs:List FD}{left:Int}{t:Nat}{C:Nat->Prop}{la lo:List Ky}{rs:List dJ}{r:Ending}{w w':World}(l:Value)(h:x.ph=0)(c:r=.returned l)(a:dY w' w.heap.size l (fT (kC x) (gO 1 x.id d.ep 0 0 0 0 0 0 0 []) x.nodes.toNat))(b:dO w' P x d fs left (eA t) C la lo rs)(e:dP C C w w'):qK P x d fs left t C la lo rs r w w':=.inl ⟨l,h,c,a,b,e⟩
def qK.copy{P:Pl}{x:NB}{d:SD}{fs:List FD}{left:Int}{t:Nat}{C:Nat->Prop}{la lo:List Ky}{rs:List dJ}{r:Ending}{w w':World}(l:Value)(h:x.ph=1)(c:r=.returned l)(a:dY w' w.heap.size l (fT (2^x.jo.toNat) (gO 9 x.id d.ep 0 0 0 0 d.last 0 0 (iF d x.nb)) x.nodes.toNat))(b:dO w' P x d fs left (eA t) C la lo rs)(e:dP C C w w'):qK P x d fs left t C la lo rs r w w':=.inr (.inl ⟨l,h,c,a,b,e⟩)
def qK.prep{P:Pl}{x:NB}{d:SD}{fs:List FD}{left:Int}{t:Nat}{C:Nat->Prop}{la lo:List Ky}{rs:List dJ}{r:Ending}{w w':World}(h:2<=x.ph)(a:lM P x d fs left t C la lo rs r w w'):qK P x d fs left t C la lo rs r w w':=.inr (.inr (⟨h,a⟩))
def II(hSO:fA)(hBW:fC)(hBS:fD)(P:Pl)(x:NB)(d:SD)(fs:List FD)(left:Int)(t:Nat)(C:Nat->Prop)(la lo:List Ky)(rs:List dJ)(w:World)(h:dO w P x d fs left (eA t) C la lo rs)(hB:BG t d)(ht:t<=1000000)(a1:x.down=false)(j:2<=x.nodes/\x.nodes<=5)(L:0<=x.id/\x.id<x.nodes)(ab:0<=(dH d.dw d.ep).pr/\(dH d.dw d.ep).pr<=1000000000000)(a8:e_ x.rf)(a2:1<=x.nb/\x.nb<=4)(ak:0<=x.jo/\x.jo<5)(ac:e_ d.last)(ai:0<=x.ph):Calls pG 131 #[P0 (Y ⟨P.Nd,0,Z⟩)] w λr w'=>qK P x d fs left t C la lo rs r w w':=by
 obtain⟨A,hA,ae,a0⟩:=h.nod;obtain⟨vr,va,o,z,h3⟩:=hA.ex;have a3:=hB.ne;have ah:=hB.recs;have U:=h.tabs.two;have v:0<=x.id/\x.id<5:=oG;have V:0<=d.ep/\d.ep<=1000000000000:=by unfold SD.ep;omega
 have HF:=dA h;have HS:=dA o;have O:=dA h.blk;have HT:=dA h.tabs;have a4:=dA (vK hSO hBW hBS P x d fs left t C la lo rs w h hB ht a1 j L ab a8);have af:=dA (AS P x d fs left (eA t) t C la lo rs w.drew (h.later b_.drew) hB ht a2);have n6:=h.blk.cell 6;simp at n6;clear h hA o z h3 hB ae a0 a1;by_cases Q:x.ph=0;·have H:=dA Q;rw[Q]at n6;clear Q;go_enter func131,ntmps131;go_upto_region 3 with fail;refine eY (S:=(λw'=>dC w' P.Nd x.arr 192)) (λ_=>?_) (hS:=O.drew);refine dB 0 ?_;refine dB 1 ?_;refine dB 3 ?_;refine dB 4 ?_;refine dB 5 ?_;refine dB 6 ?_ (hy:=by intro w M;have R:=M.cell 3;simp at R;go_simp;(try with_reducible rfl));refine dB 7 ?_;refine dB 8 ?_;refine dF 2 λK e=>?_;(try go_simp);go_at_call 178;have q:=O.drew.cell 0;have s:=O.drew.cell 1;simp at q s;refine(tZ P.Nd x.id x.nodes w.drew q s j L).mono ?_;rintro r wv ⟨rfl,nq,rfl⟩;have i:Below w.heap.size w (w.drew.drewN nq):=b_.drew.trans (below_drewN b_ _);have f:=dA i;have b:=dA (O.later i);have a6:=dA (HS.later i);clear i q s;generalize World.drewN _ _=W1 at*;refine k1 e (λ_=>?_) b;clear e K;refine dF 9 λK e=>?_;(try go_simp);go_at_call 179;refine(lQ P.low x.St d vr P.Mp P.D W1 a6 a3 oG).mono ?_;rintro r wv ⟨rfl,rfl⟩;refine k1 e (λ_=>?_) b;clear e K;refine dF 10 λK e=>?_;(try go_simp);refine k1 e (λ_=>?_) b;clear e K;refine dF 11 λK e=>?_;(try go_simp);go_at_call 140;have q:=b.cell 0;have s:=b.cell 1;simp at q s;have k:=f.size;refine(oV P.Nd x.id x.nodes (kC x) 1 0 d.ep 0 0 0 0 0 0 0 none [] 0 _ q s b.lt (HT.below f U) (.inl rfl) ⟨oG,j.2⟩ (uH _ _ j L) (rG x.id d.ep 0 v V oG)).mono ?_;rintro r w2 ⟨l,rfl,F,g⟩;obtain⟨a5,a7,aa,rfl⟩:=F.shape;have m:=dA (b.later g);have HL:=dA (F.mono k);have p:Hid (Below w.heap.size w w2):=f.trans (g.mono k);clear F g;refine k1 e (λ_=>?_) m;clear e K;refine dF 12 λK e=>?_;(try go_simp);refine k1 e (λ_=>?_) m;clear e K;refine dn ?_;go_wp2;go_ret;exact .idle _ H rfl HL (HF.later p) (.of_below p)
 by_cases o:x.ph=1
 ·have H:=dA o;rw[o]at n6;clear Q o;have y:x.jo=0∨x.jo=1∨x.jo=2∨x.jo=3∨x.jo=4:=oG;rcases y with y|y|y|y|y;all_goals
   have HJ:=dA y
   clear y
   go_enter func131,ntmps131
   go_upto_region 5 with fail
   refine eY (S:=(λw'=>dC w' P.Nd x.arr 192)) (λ_=>?_) (hS:=O.drew)
   refine dB 0 ?_;refine dB 1 ?_;refine dB 2 ?_;refine dB 3 ?_;refine dB 4 ?_;refine dB 5 ?_ (hy:=by intro w M;have R:=M.cell 10;simp at R;rw[HJ.out]at R;go_simp;(try with_reducible rfl));refine dB 6 ?_;refine dB 7 ?_
   refine dF 8 λK e=>?_
   (try go_simp)
   go_at_call 138
   refine af.mono ?_
   rintro r w1 ⟨Y1,rfl,aj,W,i⟩
   have f:Hid (Below w.heap.size w w1):=b_.drew.trans i
   have b:=dA (O.later f);have k:=f.size
   obtain⟨X,E⟩:=wT d x.nb w1 Y1 W a2
   have q:=b.cell 0;have s:=b.cell 1;simp at q s
   have u:=oV P.Nd x.id x.nodes (2^x.jo.toNat) 9 0 d.ep 0 0 0 0 d.last 0 0 (Y ⟨Y1,0,Z⟩) (iF d x.nb) 4 w1 q s b.lt (HT.below f U) X ⟨oG,j.2⟩ (by rw[HJ.out];decide) (rH x.id d.ep d.last _ v V ac (by rw[E];omega))
   rw[E]at u
   replace u:=dA u
   clear i W X E q s
   refine k1 e (λ_=>?_) b
   clear e K
   refine dF 9 λK e=>?_
   (try go_simp)
   go_at_call 140
   have N:=u.out
   rw[HJ.out]at N
   refine Calls.mono N ?_
   rintro r w2 ⟨l,rfl,F,g⟩
   obtain⟨a5,a7,aa,rfl⟩:=F.shape
   have m:=dA (b.later g);have HL:=dA (F.mono k);have p:Hid (Below w.heap.size w w2):=f.trans (g.mono k)
   clear F g N
   refine k1 e (λ_=>?_) m
   clear e K
   refine dF 10 λK e=>?_
   (try go_simp)
   refine k1 e (λ_=>?_) m
   clear e K
   refine dn ?_
   go_wp2
   go_ret
   exact .copy _ H rfl (by rw[HJ.out];exact HL) (HF.later p) (.of_below p)
 have e0:(x.ph==0)=false:=by simpa using Q
 have e1:(x.ph==1)=false:=by simpa using o
 have ad:Hid (2<=x.ph):=by unfold Hid;omega
 clear Q o;go_enter func131,ntmps131;go_wp2_with fail;refine a4.mono ?_;rintro r w1 hq;have HQ:=dA hq;have ag:∃l,r=.returned l/\∃a n c,l=J a n c:=by
  rcases hq with⟨o,z,h3,h4⟩|⟨o,z,h3⟩|⟨B,l,o,z,h3,h4⟩;·exact⟨_,z,_,_,_,rfl⟩
  ·exact⟨_,z,_,_,_,rfl⟩
  ·obtain⟨a9,n9,c9,R⟩:=h3.shape;exact⟨l,z,a9,n9,c9,R⟩
 obtain⟨l,rfl,a9,n9,c9,rfl⟩:=ag;clear hq;go_wp2;go_ret;exact .prep ad HQ
def pH(x:NB)(d:SD)(f e q:Int):Bool:=(x.ph != 1)||((f != x.jo)||((e != d.ep)||(q != d.last)))
def AB(P:Pl)(x:NB)(d:SD)(f e q:Int)(a c g b:Bool)(j:(x.ph != 1)=a)(h:(f != x.jo)=c)(k:(e != d.ep)=g)(i:(q != d.last)=b):pH x d f e q=(a||(c||(g||b))):=by unfold pH;rw[j,h,k,i]
def GQ(hSO:fA)(P:Pl)(x:NB)(d:SD)(fs:List FD)(left:Int)(L t:Nat)(C:Nat->Prop)(la lo:List Ky)(rs:List dJ)(k f e b wa p s q bl v:Int)(a:Option Addr)(M c:Nat)(w:World)(h:dO w P x d fs left L C la lo rs)(U:BG t d)(ht:t<=1000000)(u:pH x d f e q=true):Calls pG 203 #[P0 (Y ⟨P.Nd,0,Z⟩),.agg (mA k f e b wa p s q bl v (J a M c))] w λr w'=>r=.returned (J Z 0 0)/\Below w.heap.size w w':=by
 obtain⟨A,hA,Q,F⟩:=h.nod;obtain⟨vr,va,g1,g2,g3⟩:=hA.ex;have B:=U.ne;have a0:=U.recs;have o:=a_ w (G (mA k f e b wa p s q bl v (J a M c)) 136);have l:=dA (dC.new w (mA k f e b wa p s q bl v (J a M c)) 136);have X:=dA o;have m:=dA (h.blk.later o);have O:=dA (g1.later o);clear h hA g1 g2 g3 U Q F o;have a1:∀w',Sem.run pG (Instr.field 196 (Value.agg #[I d.seen,I d.last]) 1) w'=.ok (I d.last) w':=λ_=>rfl;obtain⟨V,h1⟩:∃y,(x.ph != 1)=y:=⟨_,rfl⟩;obtain⟨b2,h2⟩:∃y,(f != x.jo)=y:=⟨_,rfl⟩;obtain⟨W,h3⟩:∃y,(e != d.ep)=y:=⟨_,rfl⟩;obtain⟨b4,h4⟩:∃y,(q != d.last)=y:=⟨_,rfl⟩;rw[AB P x d f e q V b2 W b4 h1 h2 h3 h4]at u;go_enter func203,ntmps203;go_upto_region 2 with fail;generalize World.alloc _ _=z at*;have N:=X.size;go_cut [47] (λs47 wx=>s47=.bool true/\Below z.heap.size z wx);case first=>
  refine eY (S:=(λw'=>dC w' P.Nd x.arr 192/\dC w' w.heap.size (mA k f e b wa p s q bl v (J a M c)) 136)) (λ_=>?_) (hS:=⟨m.drew,l.drew⟩);cases V;case true=>refine dB 0 ?_;refine dB 1 ?_;refine dB 2 ?_;refine dB 3 ?_ (hy:=by intro w g;have j:=g.1.cell 6;simp at j;go_simp;(try with_reducible rfl));refine dB 4 ?_;refine dB 5 ?_;refine eI 6 ?_;refine eI 7 ?_;refine eI 8 ?_;refine eI 9 ?_;refine eI 10 ?_;refine eI 11 ?_;refine eI 12 ?_;refine dB 13 ?_;refine dB 14 ?_;refine eI 15 ?_;refine eI 16 ?_;refine eI 17 ?_;refine eI 18 ?_;refine eI 19 ?_;refine eI 20 ?_;refine eI 21 ?_;refine eI 22 ?_;refine dF 23 λK i=>?_;(try go_simp);refine k1 i (λ_=>?_) ⟨m.drew,l.drew⟩;clear i K;refine eI 24 ?_;refine dB 25 ?_;refine dB 26 ?_;refine eI 27 ?_;refine eI 28 ?_;refine eI 29 ?_;refine eI 30 ?_;refine eI 31 ?_;refine eI 32 ?_;refine eI 33 ?_;refine eI 34 ?_;refine dF 35 λK i=>?_;(try go_simp);refine k1 i (λ_=>?_) ⟨m.drew,l.drew⟩;clear i K;refine eI 36 ?_;refine eI 37 ?_;refine dF 38 λK i=>?_;(try go_simp);refine k1 i (λ_=>?_) ⟨m.drew,l.drew⟩;clear i K;refine dn ?_;go_wp2_with fail;go_meet;exact⟨rfl,b_.drew⟩
  cases b2;case true=>refine dB 0 ?_;refine dB 1 ?_;refine dB 2 ?_;refine dB 3 ?_ (hy:=by intro w g;have j:=g.1.cell 6;simp at j;go_simp;(try with_reducible rfl));refine dB 4 ?_;refine dB 5 ?_;refine dV 6 ?_;refine dV 7 ?_ (hy:=by intro w g;have j:=g.2.cell 1;simp at j;go_simp;(try with_reducible rfl));refine dV 8 ?_;refine dV 9 ?_;refine dV 10 ?_;refine dV 11 ?_ (hy:=by intro w g;have j:=g.1.cell 10;simp at j;go_simp;(try with_reducible rfl));refine dV 12 ?_;refine dB 13 ?_;refine dB 14 ?_;refine eI 15 ?_;refine eI 16 ?_;refine eI 17 ?_;refine eI 18 ?_;refine eI 19 ?_;refine eI 20 ?_;refine eI 21 ?_;refine eI 22 ?_;refine dF 23 λK i=>?_;(try go_simp);refine k1 i (λ_=>?_) ⟨m.drew,l.drew⟩;clear i K;refine eI 24 ?_;refine dB 25 ?_;refine dB 26 ?_;refine eI 27 ?_;refine eI 28 ?_;refine eI 29 ?_;refine eI 30 ?_;refine eI 31 ?_;refine eI 32 ?_;refine eI 33 ?_;refine eI 34 ?_;refine dF 35 λK i=>?_;(try go_simp);refine k1 i (λ_=>?_) ⟨m.drew,l.drew⟩;clear i K;refine eI 36 ?_;refine eI 37 ?_;refine dF 38 λK i=>?_;(try go_simp);refine k1 i (λ_=>?_) ⟨m.drew,l.drew⟩;clear i K;refine dn ?_;go_wp2_with fail;go_meet;exact⟨rfl,b_.drew⟩
  cases W;case true=>refine dB 0 ?_;refine dB 1 ?_;refine dB 2 ?_;refine dB 3 ?_ (hy:=by intro w g;have j:=g.1.cell 6;simp at j;go_simp;(try with_reducible rfl));refine dB 4 ?_;refine dB 5 ?_;refine dV 6 ?_;refine dV 7 ?_ (hy:=by intro w g;have j:=g.2.cell 1;simp at j;go_simp;(try with_reducible rfl));refine dV 8 ?_;refine dV 9 ?_;refine dV 10 ?_;refine dV 11 ?_ (hy:=by intro w g;have j:=g.1.cell 10;simp at j;go_simp;(try with_reducible rfl));refine dV 12 ?_;refine dB 13 ?_;refine dB 14 ?_;refine dV 15 ?_;refine dV 16 ?_ (hy:=by intro w g;have j:=g.2.cell 2;simp at j;go_simp;(try with_reducible rfl));refine dV 17 ?_;refine dV 18 ?_;refine dV 19 ?_;refine dV 20 ?_ (hy:=by intro w g;have j:=g.1.cell 3;simp at j;go_simp;(try with_reducible rfl));refine dV 21 ?_;refine dV 22 ?_;refine dF 23 λK i=>?_;(try go_simp);go_at_call 179;refine(lQ P.low x.St d vr P.Mp P.D _ O.drew B oG).mono ?_;rintro r wv ⟨rfl,rfl⟩;refine k1 i (λ_=>?_) ⟨m.drew,l.drew⟩;clear i K;refine dV 24 ?_;refine dB 25 ?_;refine dB 26 ?_;refine eI 27 ?_;refine eI 28 ?_;refine eI 29 ?_;refine eI 30 ?_;refine eI 31 ?_;refine eI 32 ?_;refine eI 33 ?_;refine eI 34 ?_;refine dF 35 λK i=>?_;(try go_simp);refine k1 i (λ_=>?_) ⟨m.drew,l.drew⟩;clear i K;refine eI 36 ?_;refine eI 37 ?_;refine dF 38 λK i=>?_;(try go_simp);refine k1 i (λ_=>?_) ⟨m.drew,l.drew⟩;clear i K;refine dn ?_;go_wp2_with fail;go_meet;exact⟨rfl,b_.drew⟩
  obtain rfl:b4=true:=by simpa using u
  refine dB 0 ?_;refine dB 1 ?_;refine dB 2 ?_;refine dB 3 ?_ (hy:=by intro w g;have j:=g.1.cell 6;simp at j;go_simp;(try with_reducible rfl));refine dB 4 ?_;refine dB 5 ?_;refine dV 6 ?_;refine dV 7 ?_ (hy:=by intro w g;have j:=g.2.cell 1;simp at j;go_simp;(try with_reducible rfl));refine dV 8 ?_;refine dV 9 ?_;refine dV 10 ?_;refine dV 11 ?_ (hy:=by intro w g;have j:=g.1.cell 10;simp at j;go_simp;(try with_reducible rfl));refine dV 12 ?_;refine dB 13 ?_;refine dB 14 ?_;refine dV 15 ?_;refine dV 16 ?_ (hy:=by intro w g;have j:=g.2.cell 2;simp at j;go_simp;(try with_reducible rfl));refine dV 17 ?_;refine dV 18 ?_;refine dV 19 ?_;refine dV 20 ?_ (hy:=by intro w g;have j:=g.1.cell 3;simp at j;go_simp;(try with_reducible rfl));refine dV 21 ?_;refine dV 22 ?_;refine dF 23 λK i=>?_;(try go_simp);go_at_call 179;refine(lQ P.low x.St d vr P.Mp P.D _ O.drew B oG).mono ?_;rintro r wv ⟨rfl,rfl⟩;refine k1 i (λ_=>?_) ⟨m.drew,l.drew⟩;clear i K;refine dV 24 ?_;refine dB 25 ?_;refine dB 26 ?_;refine dV 27 ?_;refine dV 28 ?_ (hy:=by intro w g;have j:=g.2.cell 7;simp at j;go_simp;(try with_reducible rfl));refine dV 29 ?_;refine dV 30 ?_;refine dV 31 ?_;refine dV 32 ?_ (hy:=by intro w g;have j:=g.1.cell 3;simp at j;go_simp;(try with_reducible rfl));refine dV 33 ?_;refine dV 34 ?_;refine dF 35 λK i=>?_;(try go_simp);go_at_call 189;refine(oR P.low x.St d vr P.Mp P.D z.drew O.drew).mono ?_;rintro r w1 ⟨rfl,H⟩;have n:Hid (Below z.heap.size z w1):=b_.drew.trans H;clear H;refine k1 i (λ_=>?_) ⟨m.later n,l.later n⟩;clear i K;refine dV 36 ?_;refine dV 37 ?_;refine dF 38 λK i=>?_;(try go_simp);refine k1 i (λ_=>?_) ⟨(m.later n),(l.later n)⟩;clear i K;refine dn ?_;go_wp2_with fail;go_meet;exact⟨rfl,n⟩
 case rest=>
 obtain⟨rfl,E⟩:=hcut;have R:Hid (Below w.heap.size w wc):=X.trans (E.mono N);clear E;go_wp2;go_ret;exact⟨rfl,R⟩
end Go.Proofs.YtdcainmlcpafbaaGreatDoor
