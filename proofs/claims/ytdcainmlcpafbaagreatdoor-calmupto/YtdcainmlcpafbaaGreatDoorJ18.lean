import Derived.Test.YtdcainmlcpafbaaGreatDoorJ17
set_option linter.all false
set_option maxHeartbeats 8000000
set_option maxRecDepth 20000
namespace Go.Proofs.YtdcainmlcpafbaaGreatDoor
open Go.RowKit
open Value renaming slice->J,pointer->P0
open Tryz
open Tryz renaming prog->pG
open IntKind renaming i64->T
open Option renaming none->Z,some->Y
open Obj renaming cells->G
open Value (bool)
def BY(P:Pl)(x:NB)(d:SD)(fs:List FD)(left:Int)(L t0:Nat)(C:Nat->Prop)(la lo:List Ky)(rs:List dO)(w:World)(h:dP w P x d fs left L C la lo rs)(hB:BG t0 d)(ht:t0<=20000000)(c:1<=x.nb/\x.nb<=4):Calls pG 138 #[P0 (Y ⟨P.Nd,0,Z⟩)] w λr w'=>∃l,r=.returned (.agg (mA 9 0 d.ep 0 0 0 0 d.last 0 0 (J (Y ⟨l,0,Z⟩) x.nb.toNat 4)))/\w.1.size<l/\dI w' l #[I d.b0,I d.b1,I d.b2,I d.b3] 194/\Bw w w':=by
 obtain⟨A,hA,O,t⟩:=h.1;obtain⟨vr,va,X,h2,h3⟩:=hA.ex;have F:=hB.ne;have a8:=hB.recs;have f:=(Below.refl w.1.size w).alloc r_ (G mz 136);have V:=dF f;have HR:=dF (dI.new w mz 136);have HS:=dF (X.later f);have M:=dF (h.blk.later f);have ag:=h.blk.lt;have z:=dF (C0 P.low x.St d vr P.Mp P.D _ (X.later f));clear h hA X h2 h3 hB O t f;have ai:∀w',Sem.run pG (Instr.field 196 (Value.agg #[I d.seen,I d.last]) 1) w'=.ok (I d.last) w':=λ_=>rfl;go_enter func138,ntmps138;go_upto_region 1 with fail;generalize World.alloc _ _=W0 at*;have U:=V.size;have a6:=HR.lt;have n3:=M.cell 3;simp at n3;go_wp2_with fail;refine z.mono ?_;rintro r w1 ⟨rfl,k⟩;have HY:=dI.new w1 #[I d.b0,I d.b1,I d.b2,I d.b3] 194;have g:Bw W0 (w1.alloc (G #[I d.b0,I d.b1,I d.b2,I d.b3] 194)):=k.alloc k.size _;have R:=dF HY;have p:=dF (M.later g);have a0:=dF (HR.later g);have y:=dF (HS.later g);have B:Hid (Bw w (w1.alloc (G #[I d.b0,I d.b1,I d.b2,I d.b3] 194))):=V.trans (g.mono U);have a1:w.1.size<w1.1.size:=by have:=k.size;omega
 clear k g HY n3 M HR HS V z;go_upto_region 2 with fail;generalize World.alloc _ _=W2 at*;generalize w1.1.size=l at*;have N:=B.size;have u:x.nb=1∨x.nb=2∨x.nb=3∨x.nb=4:=oG;clear c;rcases u with c|c|c|c;all_goals
  have s:=dF c
  clear c
  go_upto_region 2 with fail
  refine eZ (S:=(λw'=>dI w' P.Nd x.arr 192)) (λ_=>?_) (hS:=p.drew)
  refine dH 0 ?_;refine dH 1 ?_;refine dH 2 ?_;refine dH 3 ?_ (hy:=by intro w e;have q:=e.cell 3;simp at q;go_simp;(try with_reducible rfl));refine dH 4 ?_;refine dH 5 ?_;refine dH 7 ?_;refine dH 8 ?_;refine dH 9 ?_;refine dH 10 ?_ (hy:=by intro w e;have q:=e.cell 3;simp at q;go_simp;(try with_reducible rfl));refine dH 11 ?_;refine dH 12 ?_;refine dH 15 ?_;refine dH 16 ?_;refine dH 17 ?_;refine dH 18 ?_ (hy:=by intro w e;have q:=e.cell 2;simp at q;rw[s.out]at q;go_simp;(try with_reducible rfl));refine dH 19 ?_
  refine dT 6 λK i=>?_
  (try go_simp)
  go_at_call 179
  refine(mG P.low x.St d vr P.Mp P.D _ y.drew F oG).mono ?_
  rintro r wv ⟨rfl,rfl⟩
  refine kr i 13 (λK i=>?_) p.drew
  (try go_simp)
  go_at_call 189
  refine(oZ P.low x.St d vr P.Mp P.D W2.drew y.drew).mono ?_
  rintro r w3 ⟨rfl,E⟩
  have b:Bw W2 w3:=b_.drew.trans E
  have j:=dF (p.later b);have a:=dF (a0.later b);have a2:=dF (R.later b);have H:Hid (Bw w w3):=B.trans (b.mono N)
  clear E b
  refine kr i 14 (λK i=>?_) j
  (try go_simp)
  refine kr i 20 (λK i=>?_) j
  (try go_simp)
  refine kr i 21 (λK i=>?_) j
  obtain⟨r0,r1,r2,r3,r4,r5,r6,r7,r8,r9,aa⟩:=a.c11
  have ae:=a.free 0;have ak:=a.free 1;have aj:=a.free 2;have ad:=a.free 3;have ah:=a.free 4;have af:=a.free 5;have ac:=a.free 6;have a9:=a.free 7;have ab:=a.free 8;have a7:=a.free 9;have a5:=a.free 10
  (try go_simp)
  generalize o:World.setCell _ _ _=W9
  have m:Hid (dM w.1.size w3 W9):=by rw[←o];exact pN _ _ _ _ _ _ _ _ _ _ _ _ _
  obtain⟨n,W,hn⟩:∃n:Nat,Hid (dI W9 w.1.size (mA 9 0 d.ep 0 0 0 0 d.last 0 0 (J (Y ⟨l,0,Z⟩) n 4)) 136)/\x.nb=(n:Int):=by rw[←o];exact⟨_,a.s11 _ _ _ _ _ _ _ _ _ _ _,s⟩
  clear o
  have a3:=dF (j.same (m.block P.Nd oG));have Q:=dF (a2.same (m.block l oG))
  refine kd i ?_ a3
  go_wp2
  obtain⟨q0,q1,q2,q3,q4,q5,q6,q7,q8,q9,a4⟩:=W.c11
  exact bodyPost_ret (v:=.agg (mA 9 0 d.ep 0 0 0 0 d.last 0 0 (J (Y ⟨l,0,Z⟩) n 4))) (by simp[results,results138,go_sem,q0,q1,q2,q3,q4,q5,q6,q7,q8,q9,a4]) rfl ⟨l,by rw[hn];rfl,a1,Q,H.trans (m.below r_)⟩
def iJ(d:SD)(nb:Int):List Int:=[d.b0,d.b1,d.b2,d.b3].take nb.toNat
def sB(f e q:Int)(n:Nat)(a:0<=f/\f<5)(c:e_ e)(b:e_ q)(d:n<=4):fP 9 f [0,e,0,0,0,0,q,0,0,(n:Int)]=true:=nN 9 f _ oG a ((oH e 0 0 0 0 q 0 0 (n:Int)).2 ⟨c,b,⟨oG,oG⟩,rfl,rfl,rfl,rfl,rfl,rfl⟩)
def xV(d:SD)(nb:Int)(w:World)(c:Nat)(h:dI w c #[I d.b0,I d.b1,I d.b2,I d.b3] 194)(g:1<=nb/\nb<=4):fK w (Y ⟨c,0,Z⟩) (iJ d nb)/\(iJ d nb).length=nb.toNat:=by
 have f:nb=1∨nb=2∨nb=3∨nb=4:=oG;rcases f with rfl|rfl|rfl|rfl;all_goals
  refine⟨.inr ⟨c,0,rfl,h.lt,?_⟩,rfl⟩
  intro j a
  have e:j<4:=Nat.lt_of_lt_of_le a (by simp[iJ])
  have b:=h.cell j
  match j,e with
  |0,_=>exact b
  |1,_=>first|exact b|(simp[iJ]at a)
  |2,_=>first|exact b|(simp[iJ]at a)
  |3,_=>first|exact b|(simp[iJ]at a)
def qW(P:Pl)(x:NB)(d:SD)(fs:List FD)(left:Int)(t:Nat)(C:Nat->Prop)(la lo:List Ky)(rs:List dO)(r:Ending)(w w':World):Prop:=(∃l:Value,(x.ph=0)/\(r=.returned l)/\(dZ w' w.1.size l (fZ (kH x) (gR 1 x.id d.ep 0 0 0 0 0 0 0 []) x.2.toNat))/\(dP w' P x d fs left (eB t) C la lo rs)/\(dR C C w w'))∨(∃l:Value,(x.ph=1)/\(r=.returned l)/\(dZ w' w.1.size l (fZ (2^x.jo.toNat) (gR 9 x.id d.ep 0 0 0 0 d.last 0 0 (iJ d x.nb)) x.2.toNat))/\(dP w' P x d fs left (eB t) C la lo rs)/\(dR C C w w'))∨((2<=x.ph)/\(lU P x d fs left t C la lo rs r w w'))
def qW.idle{P:Pl}{x:NB}{d:SD}{fs:List FD}{left:Int}{t:Nat}{C:Nat->Prop}{la lo:List Ky}{rs:List dO}{r:Ending}{w w':World}(l:Value)(h:x.ph=0)(c:r=.returned l)(a:dZ w' w.1.size l (fZ (kH x) (gR 1 x.id d.ep 0 0 0 0 0 0 0 []) x.2.toNat))(b:dP w' P x d fs left (eB t) C la lo rs)(e:dR C C w w'):qW P x d fs left t C la lo rs r w w':=.inl ⟨l,h,c,a,b,e⟩
def qW.copy{P:Pl}{x:NB}{d:SD}{fs:List FD}{left:Int}{t:Nat}{C:Nat->Prop}{la lo:List Ky}{rs:List dO}{r:Ending}{w w':World}(l:Value)(h:x.ph=1)(c:r=.returned l)(a:dZ w' w.1.size l (fZ (2^x.jo.toNat) (gR 9 x.id d.ep 0 0 0 0 d.last 0 0 (iJ d x.nb)) x.2.toNat))(b:dP w' P x d fs left (eB t) C la lo rs)(e:dR C C w w'):qW P x d fs left t C la lo rs r w w':=.inr (.inl ⟨l,h,c,a,b,e⟩)
def qW.prep{P:Pl}{x:NB}{d:SD}{fs:List FD}{left:Int}{t:Nat}{C:Nat->Prop}{la lo:List Ky}{rs:List dO}{r:Ending}{w w':World}(h:2<=x.ph)(a:lU P x d fs left t C la lo rs r w w'):qW P x d fs left t C la lo rs r w w':=.inr (.inr (⟨h,a⟩))
def JO(hSO:fB)(hBW:fH)(hBS:fI)(P:Pl)(x:NB)(d:SD)(fs:List FD)(left:Int)(t:Nat)(C:Nat->Prop)(la lo:List Ky)(rs:List dO)(w:World)(h:dP w P x d fs left (eB t) C la lo rs)(hB:BG t d)(ht:t<=20000000)(a1:x.5=false)(j:2<=x.2/\x.2<=5)(L:0<=x.id/\x.id<x.2)(ab:0<=(dJ d.3 d.ep).pr/\(dJ d.3 d.ep).pr<=1000000000000)(a8:e_ x.rf)(a2:1<=x.nb/\x.nb<=4)(ak:0<=x.jo/\x.jo<5)(ac:e_ d.last)(ai:0<=x.ph):Calls pG 131 #[P0 (Y ⟨P.Nd,0,Z⟩)] w λr w'=>qW P x d fs left t C la lo rs r w w':=by
 obtain⟨A,hA,ae,a0⟩:=h.1;obtain⟨vr,va,o,z,h3⟩:=hA.ex;have a3:=hB.ne;have ah:=hB.recs;have U:=h.tabs.two;have v:0<=x.id/\x.id<5:=oG;have V:0<=d.ep/\d.ep<=1000000000000:=by unfold SD.ep;omega
 have HF:=dF h;have HS:=dF o;have O:=dF h.blk;have HT:=dF h.tabs;have a4:=dF (wH hSO hBW hBS P x d fs left t C la lo rs w h hB ht a1 j L ab a8);have af:=dF (BY P x d fs left (eB t) t C la lo rs w.drew (h.later b_.drew) hB ht a2);have n6:=h.blk.cell 6;simp at n6;clear h hA o z h3 hB ae a0 a1;by_cases Q:x.ph=0;·have H:=dF Q;rw[Q]at n6;clear Q;go_enter func131,ntmps131;go_upto_region 3 with fail;refine eZ (S:=(λw'=>dI w' P.Nd x.arr 192)) (λ_=>?_) (hS:=O.drew);refine dH 0 ?_;refine dH 1 ?_;refine dH 3 ?_;refine dH 4 ?_;refine dH 5 ?_;refine dH 6 ?_ (hy:=by intro w M;have R:=M.cell 3;simp at R;go_simp;(try with_reducible rfl));refine dH 7 ?_;refine dH 8 ?_;refine dT 2 λK f=>?_;(try go_simp);go_at_call 178;have q:=O.drew.cell 0;have s:=O.drew.cell 1;simp at q s;refine(uL P.Nd x.id x.2 w.drew q s j L).mono ?_;rintro r wv ⟨rfl,nq,rfl⟩;have i:Bw w (w.drew.drewN nq):=b_.drew.trans (below_drewN b_ _);have e:=dF i;have b:=dF (O.later i);have a6:=dF (HS.later i);clear i q s;generalize World.drewN _ _=W1 at*;refine kr f 9 (λK f=>?_) b;(try go_simp);go_at_call 179;refine(mG P.low x.St d vr P.Mp P.D W1 a6 a3 oG).mono ?_;rintro r wv ⟨rfl,rfl⟩;refine kr f 10 (λK f=>?_) b;(try go_simp);refine kr f 11 (λK f=>?_) b;(try go_simp);go_at_call 140;have q:=b.cell 0;have s:=b.cell 1;simp at q s;have k:=e.size;refine(pE P.Nd x.id x.2 (kH x) 1 0 d.ep 0 0 0 0 0 0 0 none [] 0 _ q s b.lt (HT.below e U) (.inl rfl) ⟨oG,j.2⟩ (uU _ _ j L) (sA x.id d.ep 0 v V oG)).mono ?_;rintro r w2 ⟨l,rfl,F,g⟩;obtain⟨a5,a7,aa,rfl⟩:=F.shape;have m:=dF (b.later g);have HL:=dF (F.mono k);have p:Hid (Bw w w2):=e.trans (g.mono k);clear F g;refine kr f 12 (λK f=>?_) m;(try go_simp);refine kd f ?_ m;go_wp2;go_ret;exact .idle _ H rfl HL (HF.later p) (.of_below p)
 by_cases o:x.ph=1
 ·have H:=dF o;rw[o]at n6;clear Q o;have y:x.jo=0∨x.jo=1∨x.jo=2∨x.jo=3∨x.jo=4:=oG;rcases y with y|y|y|y|y;all_goals
   have HJ:=dF y
   clear y
   go_enter func131,ntmps131
   go_upto_region 5 with fail
   refine eZ (S:=(λw'=>dI w' P.Nd x.arr 192)) (λ_=>?_) (hS:=O.drew)
   refine dH 0 ?_;refine dH 1 ?_;refine dH 2 ?_;refine dH 3 ?_;refine dH 4 ?_;refine dH 5 ?_ (hy:=by intro w M;have R:=M.cell 10;simp at R;rw[HJ.out]at R;go_simp;(try with_reducible rfl));refine dH 6 ?_;refine dH 7 ?_
   refine dT 8 λK f=>?_
   (try go_simp)
   go_at_call 138
   refine af.mono ?_
   rintro r w1 ⟨Y1,rfl,aj,W,i⟩
   have e:Hid (Bw w w1):=b_.drew.trans i
   have b:=dF (O.later e);have k:=e.size
   obtain⟨X,E⟩:=xV d x.nb w1 Y1 W a2
   have q:=b.cell 0;have s:=b.cell 1;simp at q s
   have u:=pE P.Nd x.id x.2 (2^x.jo.toNat) 9 0 d.ep 0 0 0 0 d.last 0 0 (Y ⟨Y1,0,Z⟩) (iJ d x.nb) 4 w1 q s b.lt (HT.below e U) X ⟨oG,j.2⟩ (by rw[HJ.out];decide) (sB x.id d.ep d.last _ v V ac (by rw[E];omega))
   rw[E]at u
   replace u:=dF u
   clear i W X E q s
   refine kr f 9 (λK f=>?_) b
   (try go_simp)
   go_at_call 140
   have N:=u.out
   rw[HJ.out]at N
   refine Calls.mono N ?_
   rintro r w2 ⟨l,rfl,F,g⟩
   obtain⟨a5,a7,aa,rfl⟩:=F.shape
   have m:=dF (b.later g);have HL:=dF (F.mono k);have p:Hid (Bw w w2):=e.trans (g.mono k)
   clear F g N
   refine kr f 10 (λK f=>?_) m
   (try go_simp)
   refine kd f ?_ m
   go_wp2
   go_ret
   exact .copy _ H rfl (by rw[HJ.out];exact HL) (HF.later p) (.of_below p)
 have e0:(x.ph==0)=false:=by simpa using Q
 have e1:(x.ph==1)=false:=by simpa using o
 have ad:Hid (2<=x.ph):=by unfold Hid;omega
 clear Q o;go_enter func131,ntmps131;go_wp2_with fail;refine a4.mono ?_;rintro r w1 hq;have HQ:=dF hq;have ag:∃l,r=.returned l/\∃a n c,l=J a n c:=by
  rcases hq with⟨o,z,h3,h4⟩|⟨o,z,h3⟩|⟨B,l,o,z,h3,h4⟩;·exact⟨_,z,_,_,_,rfl⟩
  ·exact⟨_,z,_,_,_,rfl⟩
  ·obtain⟨a9,n9,c9,R⟩:=h3.shape;exact⟨l,z,a9,n9,c9,R⟩
 obtain⟨l,rfl,a9,n9,c9,rfl⟩:=ag;clear hq;go_wp2;go_ret;exact .prep ad HQ
def pU(x:NB)(d:SD)(f e q:Int):Bool:=(x.ph != 1)||((f != x.jo)||((e != d.ep)||(q != d.last)))
def BB(P:Pl)(x:NB)(d:SD)(f e q:Int)(a c g b:Bool)(j:(x.ph != 1)=a)(h:(f != x.jo)=c)(k:(e != d.ep)=g)(i:(q != d.last)=b):pU x d f e q=(a||(c||(g||b))):=by unfold pU;rw[j,h,k,i]
def IU(hSO:fB)(P:Pl)(x:NB)(d:SD)(fs:List FD)(left:Int)(L t:Nat)(C:Nat->Prop)(la lo:List Ky)(rs:List dO)(k f e b wa p s q bl v:Int)(a:Option Addr)(H c:Nat)(w:World)(h:dP w P x d fs left L C la lo rs)(R:BG t d)(ht:t<=20000000)(u:pU x d f e q=true):Calls pG 203 #[P0 (Y ⟨P.Nd,0,Z⟩),.agg (mA k f e b wa p s q bl v (J a H c))] w λr w'=>r=.returned (J Z 0 0)/\Bw w w':=by
 obtain⟨A,X,O,E⟩:=h.1;obtain⟨vr,va,g1,g2,g3⟩:=X.ex;have M:=R.ne;have a0:=R.recs;have m:=(Below.refl w.1.size w).alloc r_ (G (mA k f e b wa p s q bl v (J a H c)) 136);have n:=dF (dI.new w (mA k f e b wa p s q bl v (J a H c)) 136);have W:=dF m;have o:=dF (h.blk.later m);have HS:=dF (g1.later m);clear h X g1 g2 g3 R O E m;have a1:∀w',Sem.run pG (Instr.field 196 (Value.agg #[I d.seen,I d.last]) 1) w'=.ok (I d.last) w':=λ_=>rfl;obtain⟨U,h1⟩:∃y,(x.ph != 1)=y:=⟨_,rfl⟩;obtain⟨b2,h2⟩:∃y,(f != x.jo)=y:=⟨_,rfl⟩;obtain⟨V,h3⟩:∃y,(e != d.ep)=y:=⟨_,rfl⟩;obtain⟨b4,h4⟩:∃y,(q != d.last)=y:=⟨_,rfl⟩;rw[BB P x d f e q U b2 V b4 h1 h2 h3 h4]at u;go_enter func203,ntmps203;go_upto_region 2 with fail;generalize World.alloc _ _=z at*;have N:=W.size;go_cut [47] (λs47 wx=>s47=.bool true/\Bw z wx);case first=>
  refine eZ (S:=(λw'=>dI w' P.Nd x.arr 192/\dI w' w.1.size (mA k f e b wa p s q bl v (J a H c)) 136)) (λ_=>?_) (hS:=⟨o.drew,n.drew⟩);refine dH 0 ?_;refine dH 1 ?_;refine dH 2 ?_;refine dH 3 ?_ (hy:=by intro w g;have j:=g.1.cell 6;simp at j;go_simp;(try with_reducible rfl));refine dH 4 ?_;refine dH 5 ?_;cases U;rotate_left;focus
   refine gD 6 ?_;refine gD 7 ?_;refine gD 8 ?_;refine gD 9 ?_;refine gD 10 ?_;refine gD 11 ?_;refine gD 12 ?_
  rotate_left;focus
   refine eS 6 ?_;refine eS 7 ?_ (hy:=by intro w g;have j:=g.2.cell 1;simp at j;go_simp;(try with_reducible rfl));refine eS 8 ?_;refine eS 9 ?_;refine eS 10 ?_;refine eS 11 ?_ (hy:=by intro w g;have j:=g.1.cell 10;simp at j;go_simp;(try with_reducible rfl));refine eS 12 ?_
   cases b2
  rotate_left;iterate 2
   focus
    refine dH 13 ?_;refine dH 14 ?_
    refine gD 15 ?_;refine gD 16 ?_;refine gD 17 ?_;refine gD 18 ?_;refine gD 19 ?_;refine gD 20 ?_;refine gD 21 ?_;refine gD 22 ?_
    refine dT 23 λK i=>?_
    (try go_simp)
    refine k1 i (λ_=>?_) ⟨o.drew,n.drew⟩
    clear i K
    refine gD 24 ?_
   rotate_left
  focus
   refine dH 13 ?_;refine dH 14 ?_
   refine eS 15 ?_;refine eS 16 ?_ (hy:=by intro w g;have j:=g.2.cell 2;simp at j;go_simp;(try with_reducible rfl));refine eS 17 ?_;refine eS 18 ?_;refine eS 19 ?_;refine eS 20 ?_ (hy:=by intro w g;have j:=g.1.cell 3;simp at j;go_simp;(try with_reducible rfl));refine eS 21 ?_;refine eS 22 ?_
   refine dT 23 λK i=>?_
   (try go_simp)
   go_at_call 179
   refine(mG P.low x.St d vr P.Mp P.D _ HS.drew M oG).mono ?_
   rintro r wv ⟨rfl,rfl⟩
   refine k1 i (λ_=>?_) ⟨o.drew,n.drew⟩
   clear i K
   refine eS 24 ?_
   cases V
  rotate_left;iterate 3
   focus
    refine dH 25 ?_;refine dH 26 ?_
    refine gD 27 ?_;refine gD 28 ?_;refine gD 29 ?_;refine gD 30 ?_;refine gD 31 ?_;refine gD 32 ?_;refine gD 33 ?_;refine gD 34 ?_
    refine dT 35 λK i=>?_
    (try go_simp)
    refine k1 i (λ_=>?_) ⟨o.drew,n.drew⟩
    clear i K
    refine gD 36 ?_;refine gD 37 ?_
    refine dT 38 λK i=>?_
    (try go_simp)
    refine kd i ?_ ⟨o.drew,n.drew⟩
    go_wp2_with fail
    go_meet
    exact⟨rfl,b_.drew⟩
  obtain rfl:b4=true:=by simpa using u
  refine dH 25 ?_;refine dH 26 ?_;refine eS 27 ?_;refine eS 28 ?_ (hy:=by intro w g;have j:=g.2.cell 7;simp at j;go_simp;(try with_reducible rfl));refine eS 29 ?_;refine eS 30 ?_;refine eS 31 ?_;refine eS 32 ?_ (hy:=by intro w g;have j:=g.1.cell 3;simp at j;go_simp;(try with_reducible rfl));refine eS 33 ?_;refine eS 34 ?_;refine dT 35 λK i=>?_;(try go_simp);go_at_call 189;refine(oZ P.low x.St d vr P.Mp P.D z.drew HS.drew).mono ?_;rintro r w1 ⟨rfl,F⟩;have l:Hid (Bw z w1):=b_.drew.trans F;clear F;refine k1 i (λ_=>?_) ⟨o.later l,n.later l⟩;clear i K;refine eS 36 ?_;refine eS 37 ?_;refine dT 38 λK i=>?_;(try go_simp);refine kd i ?_ ⟨(o.later l),(n.later l)⟩;go_wp2_with fail;go_meet;exact⟨rfl,l⟩
 case rest=>
 obtain⟨rfl,B⟩:=hcut;have Q:Hid (Bw w wc):=W.trans (B.mono N);clear B;go_wp2;go_ret;exact⟨rfl,Q⟩
def lU.pre{P:Pl}{x:NB}{d:SD}{fs:List FD}{left:Int}{t:Nat}{C:Nat->Prop}{la lo:List Ky}{rs:List dO}{r:Ending}{w w1 w':World}(h:lU P x d fs left t C la lo rs r w1 w')(e:dR C C w w1):lU P x d fs left t C la lo rs r w w':=by
 rcases h with⟨c,a,b,f⟩|⟨c,a,b⟩|⟨B,l,c,a,b,f⟩;·exact .none c a b (e.trans f)
 ·exact .fail c a (b.chain e)
 ·exact .ok B l c a (b.mono e.kept.size) (f.chain e)
def KP(hSO:fB)(hBW:fH)(hBS:fI)(P:Pl)(x:NB)(d:SD)(fs:List FD)(left:Int)(t:Nat)(C:Nat->Prop)(la lo:List Ky)(rs:List dO)(k f e b wa p s q bl v:Int)(a:Option Addr)(zn c:Nat)(w:World)(h:dP w P x d fs left (eB t) C la lo rs)(hB:BG t d)(ht:t<=20000000)(V:x.5=false)(a0:2<=x.2/\x.2<=5)(a6:0<=x.id/\x.id<x.2)(a4:0<=(dJ d.3 d.ep).pr/\(dJ d.3 d.ep).pr<=1000000000000)(a3:e_ x.rf)(F:pU x d f e q=false):Calls pG 203 #[P0 (Y ⟨P.Nd,0,Z⟩),.agg (mA k f e b wa p s q bl v (J a zn c))] w λr w'=>lU P ({x with ph:=2}:NB) d fs left t C la lo rs r w w':=by
 obtain⟨A,hA,a5,U⟩:=h.1;obtain⟨vr,va,g1,g2,g3⟩:=hA.ex;have a1:=hB.ne;have ag:=hB.recs;have m:=(Below.refl w.1.size w).alloc r_ (G (mA k f e b wa p s q bl v (J a zn c)) 136);have Q:=dF (dI.new w (mA k f e b wa p s q bl v (J a zn c)) 136);have HB:=dF m;have R:=dF (h.blk.later m);have HS:=dF (g1.later m);have HF:=dF (h.later m);have u:=λw1 (h:dP w1 P ({x with ph:=2}:NB) d fs left (eB t) C la lo rs)=>wH hSO hBW hBS P ({x with ph:=2}:NB) d fs left t C la lo rs w1 h hB ht V a0 a6 a4 a3;replace u:=dF u;clear h hA g1 g2 g3 hB a5 U m V;have ad:∀w',Sem.run pG (Instr.field 196 (Value.agg #[I d.seen,I d.last]) 1) w'=.ok (I d.last) w':=λ_=>rfl;obtain⟨b1,W⟩:∃y,(x.ph != 1)=y:=⟨_,rfl⟩;obtain⟨b2,o⟩:∃y,(f != x.jo)=y:=⟨_,rfl⟩;obtain⟨b3,N⟩:∃y,(e != d.ep)=y:=⟨_,rfl⟩;obtain⟨b4,h4⟩:∃y,(q != d.last)=y:=⟨_,rfl⟩;rw[BB P x d f e q b1 b2 b3 b4 W o N h4]at F;obtain⟨rfl,rfl,rfl,rfl⟩:b1=false/\b2=false/\b3=false/\b4=false:=by simpa using F
 clear F;go_enter func203,ntmps203;go_upto_region 2 with fail;generalize World.alloc _ _=O at*;have aa:=HB.size;go_cut [47] (λs47 wx=>s47=.bool false/\Bw O wx);case first=>refine eZ (S:=(λw'=>dI w' P.Nd x.arr 192/\dI w' w.1.size (mA k f e b wa p s q bl v (J a zn c)) 136)) (λ_=>?_) (hS:=⟨R.drew,Q.drew⟩);refine dH 0 ?_;refine dH 1 ?_;refine dH 2 ?_;refine dH 3 ?_ (hy:=by intro w g;have i:=g.1.cell 6;simp at i;go_simp;(try with_reducible rfl));refine dH 4 ?_;refine dH 5 ?_;refine eS 6 ?_;refine eS 7 ?_ (hy:=by intro w g;have i:=g.2.cell 1;simp at i;go_simp;(try with_reducible rfl));refine eS 8 ?_;refine eS 9 ?_;refine eS 10 ?_;refine eS 11 ?_ (hy:=by intro w g;have i:=g.1.cell 10;simp at i;go_simp;(try with_reducible rfl));refine eS 12 ?_;refine dH 13 ?_;refine dH 14 ?_;refine eS 15 ?_;refine eS 16 ?_ (hy:=by intro w g;have i:=g.2.cell 2;simp at i;go_simp;(try with_reducible rfl));refine eS 17 ?_;refine eS 18 ?_;refine eS 19 ?_;refine eS 20 ?_ (hy:=by intro w g;have i:=g.1.cell 3;simp at i;go_simp;(try with_reducible rfl));refine eS 21 ?_;refine eS 22 ?_;refine dT 23 λK L=>?_;(try go_simp);go_at_call 179;refine(mG P.low x.St d vr P.Mp P.D _ HS.drew a1 oG).mono ?_;rintro r wv ⟨rfl,rfl⟩;refine k1 L (λ_=>?_) ⟨R.drew,Q.drew⟩;clear L K;refine eS 24 ?_;refine dH 25 ?_;refine dH 26 ?_;refine eS 27 ?_;refine eS 28 ?_ (hy:=by intro w g;have i:=g.2.cell 7;simp at i;go_simp;(try with_reducible rfl));refine eS 29 ?_;refine eS 30 ?_;refine eS 31 ?_;refine eS 32 ?_ (hy:=by intro w g;have i:=g.1.cell 3;simp at i;go_simp;(try with_reducible rfl));refine eS 33 ?_;refine eS 34 ?_;refine dT 35 λK L=>?_;(try go_simp);go_at_call 189;refine(oZ P.low x.St d vr P.Mp P.D O.drew HS.drew).mono ?_;rintro r w1 ⟨rfl,X⟩;have j:Hid (Bw O w1):=b_.drew.trans X;clear X;refine k1 L (λ_=>?_) ⟨R.later j,Q.later j⟩;clear L K;refine eS 36 ?_;refine eS 37 ?_;refine dT 38 λK L=>?_;(try go_simp);refine kd L ?_ ⟨(R.later j),(Q.later j)⟩;go_wp2_with fail;go_meet;exact⟨rfl,j⟩
 case rest=>
 obtain⟨rfl,H⟩:=hcut;obtain⟨W1,a2⟩:∃y,y=wc:=⟨_,rfl⟩;subst a2;have E:=dF (HF.later H);have af:Hid (dR C C w W1):=.of_below (HB.trans (H.mono aa));clear H HF R Q HS HB W o N h4 ad;have M:=dF E.blk;have e6:=M.cell 6;simp at e6;have a8:=M.free 6;have z:dM P.Nd W1 (W1.setCell ⟨P.Nd,6,Z⟩ (I 2)):=dM.setCell W1 ⟨P.Nd,6,Z⟩ _;have a7:Hid (dI (W1.setCell ⟨P.Nd,6,Z⟩ (I 2)) P.Nd ({x with ph:=2}:NB).arr 192):=by have i:=M.set 6 (I 2);unfold Hid;simpa using i
 have ac:=dF (E.node (x':=({x with ph:=2}:NB)) z a7 rfl rfl rfl rfl);have ab:=dF (af.trans (.node z E.nC));clear z;go_upto_region 5 with fail;generalize World.setCell _ _ _=W2 at*;clear e6 a8;go_wp2_with fail;refine(u.out W2 ac).mono ?_;rintro r w1 hq;have HQ:=dF (hq.pre ab);have ae:∃l,r=.returned l/\∃a n c,l=J a n c:=by
  rcases hq with⟨W,o,N,h4⟩|⟨W,o,N⟩|⟨B,l,W,o,N,h4⟩;·exact⟨_,o,_,_,_,rfl⟩
  ·exact⟨_,o,_,_,_,rfl⟩
  ·obtain⟨a9,n9,c9,i⟩:=N.shape;exact⟨l,o,a9,n9,c9,i⟩
 obtain⟨l,rfl,a9,n9,c9,rfl⟩:=ae;clear hq;go_wp2;go_ret;exact HQ
def EY:(Tryz.prog.info? 76).map (λi=>(i.zero,i.size,i.bytes))=Y (Y (.agg #[I 0,I 0,I 0,I 0,I 0]),5,40):=kG
def EZ:(Tryz.prog.info? 190).map (·.size)=Y 13:=kG
section
variable {w w1:World} {P:Pl} {x x':NB} {d:SD} {fs:List FD} {left:Int} {L:Nat} {A C:Nat->Prop} {la lo:List Ky} {rs rs':List dO}
def gI.nodeG(h:gI w P x d fs left L A)(hs:w.1.size<=w1.1.size)(k:∀g,A g->g≠P.Nd->w1.1[g]?=w.1[g]?)(o:dY w1)(p:dI w1 P.Nd x'.arr 192)(e:x'.St=x.St):gI w1 P x' d fs left L A:=by obtain⟨vr,l,j,a,m⟩:=h.ex;have c:∀g,kW x.St vr P.Mp P.S l g->w1.1[g]?=w.1[g]?:=λg b=>k g (m g b) (λf=>rR j a h.blk dG dG dG dG (f ▸ b));have q:w1.1[P.D]?=w.1[P.D]?:=k _ h.pd (λf=>by have i:=a.hands.d;rw[f,h.blk.blk]at i;simp at i);have n:w1.1[P.H]?=w.1[P.H]?:=k _ h.ph (λf=>by have i:=a.hands.h;rw[f,h.blk.blk]at i;simp at i);refine⟨p,⟨vr,l,?_,⟨a.hands.later q n,a.ds.kept (c _ (.inr (.inr (.inr (.inl rfl))))) (λg b=>c g (.inr (.inr (.inr (.inr b))))),a.dS,a.hS,a.lf,a.fl,a.bd⟩,by rw[e];exact m⟩,h.nd,h.pd,h.ph,h.two,λg b=>Nat.lt_of_lt_of_le (h.lt g b) hs,Nat.le_trans h.low hs,o⟩;rw[e];exact⟨j.blk.same (c _ (.inl rfl)),dW j.ji (λg b=>c g (.inr (.inr (.inl b)))),j.jg.same (c _ (.inr (.inl rfl)))⟩
def dP.resetR(h:dP w P x d fs left L C la lo rs)(j:dQ (λg=>g=P.Nd∨x.res.ownBlock=some g) w w1)(D:dI w1 P.Nd x'.arr 192)(hs:x'.St=x.St)(r:x'.an=x.an)(n:x'.oa=none)(m:∀g,x'.res.ownBlock=some g->x.res.ownBlock=some g∨w.1.size<=g)(f:w1.ownsRow P.low 76 5 x'.res rs'.length (rs'.flatMap dO.cells)):dP w1 P x' d fs left L (λg=>C g∨x'.own g) la [] rs'/\dR C (λg=>C g∨x'.own g) w w1:=by
 obtain⟨A,i,y,q⟩:=h.1;have K:=h.blk;have s:∀g,x.res.ownBlock=some g->2<=g:=λg b=>(h.lt g (h.6 g (.inr (.inr b)))).1;have z:dY w1:=h.tabs.kept j (λk=>k.elim (λa=>by have:=i.two _ i.nd;omega) (λa=>by have:=s _ a;omega)) (λk=>k.elim (λa=>by have:=i.two _ i.nd;omega) (λa=>by have:=s _ a;omega));have o:=i.nodeG j.size (λg b E=>j.block g (i.lt g b) (λk=>k.elim E (λa=>q g (.inr (.inr a)) b))) z D hs;have l:iP w1 x'.an la:=by
  rw[r];refine h.an.same (λg b=>j.block g (h.an.lt b) ?_);rcases h.an with⟨e,_⟩|⟨B,e,u⟩;·rw[e]at b;cases b
  ·rw[e]at b;cases b;rintro(a|a);·exact u.ne K a
   ·obtain⟨v,F⟩:=fC h.row a;obtain⟨es,H,t,_⟩:=u.1;rw[F]at t;simp at t
 have c:∀g,x'.own g->x.own g∨w.1.size<=g:=by
  rintro g (a|a|a);·exact .inl (.inl (r ▸ a))
  ·rw[n]at a;cases a
  ·exact(m g a).imp (λe=>.inr (.inr e)) id
 have p:∀g,x'.own g->g<w1.1.size:=by
  rintro g (a|a|a);·exact l.lt a
  ·rw[n]at a;cases a
  ·exact(f.lt g a).2
 refine⟨⟨⟨A,o,λg b=>.inl (y g b),λg b o=>?_⟩,l,.inl ⟨n,rfl⟩,λg b=>by rw[n];simp,f,λg b=>.inr b,?_⟩,?_,?_⟩
 ·rcases c g b with a|a;·exact q g a o
  ·exact absurd (i.lt g o) (Nat.not_lt.2 a)
 ·rintro g (a|a);·exact⟨(h.lt g a).1,Nat.lt_of_lt_of_le (h.lt g a).2 j.size⟩
  ·refine⟨?_,p g a⟩;rcases c g a with e|e;·exact(h.lt g (h.6 g e)).1
   ·have:=h.tabs.two;omega
 ·exact j.wide (λg b=>b.elim (λa=>a ▸ h.nC) (λa=>h.6 g (.inr (.inr a))))
 ·rintro g (a|a);·exact .inl a
  ·exact(c g a).imp (h.6 g) id
end
@[reducible] def lE(x:NB)(v:Value):NB:={x with on:=0,ow:=⟨0,0,0,0,0,0,0,0,0,0⟩,oa:=none,res:=v}
@[reducible] def zK(x:NB)(v:Value):NB:={x with res:=v}
def oT(x:NB):dO:=⟨x.on,x.ow.bl,x.ow.v,x.ow.e,x.ow.q⟩
def qX(P:Pl)(x:NB)(d:SD)(fs:List FD)(left:Int)(L:Nat)(C:Nat->Prop)(la lo:List Ky)(rs:List dO)(r:Ending)(w w':World):Prop:=
 r=.returned (.tuple #[])/\(((gW d.ek.S x.id x.ow.e x.ow.q lo x.2.toNat)≠0/\dP w' P x d fs left L C la lo rs/\dR C C w w')∨((gW d.ek.S x.id x.ow.e x.ow.q lo x.2.toNat)=0/\∃v C',dP w' P (lE x v) d fs left L C' la [] (rs++[oT x])/\dR C C' w w'))
def BC(P:Pl)(x:NB)(d:SD)(fs:List FD)(left:Int)(L t0:Nat)(C:Nat->Prop)(la lo:List Ky)(rs:List dO)(B:Nat)(w:World)(h:dP w P x d fs left L C la lo rs)(hB:BG t0 d)(ht:t0<=20000000)(ar:2<=x.2/\x.2<=5)(aB:0<=x.id/\x.id<x.2)(ay:x.oa=some B)(aY:rs.length<=20000000):Calls pG 237 #[P0 (Y ⟨P.Nd,0,Z⟩)] w λr w'=>qX P x d fs left L C la lo rs r w w':=by
 obtain⟨i0,aF,aH,aL,ax⟩:=info_parts EY;have aa:=dF (AO P x d fs left L t0 C la lo rs B w h hB ht ar aB ay);obtain⟨mi,a0⟩:∃y,(gW d.ek.S x.id x.ow.e x.ow.q lo x.2.toNat)=y:=⟨_,rfl⟩;have HQ:Hid (∀r w',qX P x d fs left L C la lo rs r w w'↔(r=.returned (.tuple #[])/\((mi≠0/\dP w' P x d fs left L C la lo rs/\dR C C w w')∨(mi=0/\∃v C',dP w' P (lE x v) d fs left L C' la [] (rs++[oT x])/\dR C C' w w')))):=by intro r w';unfold qX;rw[a0]
 rw[a0]at aa;have HF:=dF h;clear h hB a0;go_enter func237,ntmps237;go_wp2_with fail;refine aa.mono ?_;rintro r w1 ⟨rfl,V⟩;have a1:=dF (HF.later V);have aV:=dF V;have aq:Hid (dR C C w w1):=.of_below V;clear V aa;by_cases hz:mi=0;case neg=>
  have aR:=dF hz;have b0:(mi != 0)=true:=by simpa using hz
  clear hz;go_wp2;refine bodyPost_ret (v:=.tuple #[]) (by simp[results,results237,go_sem]) rfl ?_;rw[HQ.out];exact⟨rfl,.inl ⟨aR,a1,aq⟩⟩
 subst hz;have al:=dF a1.blk;have aw:=al.cell;have U:=(Below.refl w1.1.size w1).alloc r_ (G (mA x.ow.k x.ow.f x.ow.e x.ow.b x.ow.wa x.ow.p x.ow.s x.ow.q x.ow.bl x.ow.v (J Z 0 0)) 136);have E:=dF (dI.new w1 (mA x.ow.k x.ow.f x.ow.e x.ow.b x.ow.wa x.ow.p x.ow.s x.ow.q x.ow.bl x.ow.v (J Z 0 0)) 136);have D:=dF (a1.later U);have aJ:=dF (aq.later U);have aT:=U.size;clear U;go_upto_region 2 with fail;generalize World.alloc _ _=W2 at*;clear al aw;have o:=dF D.blk;have a3:=o.lt;have aO:=E.lt;have aI:w1.1.size≠P.Nd:=E.ne o dG;have aC:x.res.ownBlock≠some P.Nd:=λm=>by obtain⟨X,c⟩:=fC D.row m;rw[o.blk]at c;simp at c
 have aN:x.res.ownBlock≠some w1.1.size:=λm=>by obtain⟨X,c⟩:=fC D.row m;rw[E.blk]at c;simp at c
 have aS:P.low<=W2.1.size:=by obtain⟨A,h1,_⟩:=D.1;exact h1.low
 have a2:=o.cell 39;simp at a2;have ak:(W2.alloc (G #[I x.on,I x.ow.bl,I x.ow.v,I x.ow.e,I x.ow.q] 76)).drew.cell? ⟨P.Nd,39,Z⟩=Y x.res:=(World.cell?_of_block (w:=W2) (a:=⟨P.Nd,39,Z⟩) (heap_alloc_old _ _ a3)).trans a2;have a5:W2.drew.cell? ⟨P.Nd,25,Z⟩=Y (I x.on)/\dI W2.drew w1.1.size (mA x.ow.k x.ow.f x.ow.e x.ow.b x.ow.wa x.ow.p x.ow.s x.ow.q x.ow.bl x.ow.v (J Z 0 0)) 136:=⟨o.cell 25,E.drew⟩;have a4:(W2.alloc (G #[I x.on,I x.ow.bl,I x.ow.v,I x.ow.e,I x.ow.q] 76)).drew.cell? ⟨P.Nd,25,Z⟩=Y (I x.on)/\dI (W2.alloc (G #[I x.on,I x.ow.bl,I x.ow.v,I x.ow.e,I x.ow.q] 76)).drew w1.1.size (mA x.ow.k x.ow.f x.ow.e x.ow.b x.ow.wa x.ow.p x.ow.s x.ow.q x.ow.bl x.ow.v (J Z 0 0)) 136:=⟨(World.cell?_of_block (w:=W2) (a:=⟨P.Nd,25,Z⟩) (heap_alloc_old _ _ a3)).trans (o.cell 25),E.later (a_ _ _).drew⟩;have ab:(W2.alloc (G #[I x.on,I x.ow.bl,I x.ow.v,I x.ow.e,I x.ow.q] 76)).drew.ownsRow P.low 76 5 x.res rs.length (rs.flatMap dO.cells):=dW D.row (λg Q=>heap_alloc_old _ _ (D.row.lt g Q).2);have ac:∀j u,[I x.on,I x.ow.bl,I x.ow.v,I x.ow.e,I x.ow.q][j]?=Y u->(W2.alloc (G #[I x.on,I x.ow.bl,I x.ow.v,I x.ow.e,I x.ow.q] 76)).drew.cell? ((⟨W2.1.size,0,Z⟩:Addr).add j)=Y u:=by intro j u hu;rw[Go.WideShapes.add_plain];refine(World.cell?_alloc_at _ _ _ _ sG).trans ?_;simpa using hu
 have HP:Hid (∀v' w3,w3.ownsRow P.low 76 5 v' (rs.length+1) (rs.flatMap dO.cells++[I x.on,I x.ow.bl,I x.ow.v,I x.ow.e,I x.ow.q])->(W2.alloc (G #[I x.on,I x.ow.bl,I x.ow.v,I x.ow.e,I x.ow.q] 76)).drew.grownBy w3 x.res.ownBlock->(∃g',v'.ownBlock=Y g'/\(x.res.ownBlock=Y g'∨(W2.alloc (G #[I x.on,I x.ow.bl,I x.ow.v,I x.ow.e,I x.ow.q] 76)).drew.1.size<=g'/\(W2.alloc (G #[I x.on,I x.ow.bl,I x.ow.v,I x.ow.e,I x.ow.q] 76)).drew.grownBy w3 none))->
   w3.cell? ⟨P.Nd,39,Z⟩=Y x.res/\w3.frozen? ⟨P.Nd,39,Z⟩=false/\((w3.cell? ⟨P.Nd,25,Z⟩=Y (I x.on)/\dI w3 w1.1.size (mA x.ow.k x.ow.f x.ow.e x.ow.b x.ow.wa x.ow.p x.ow.s x.ow.q x.ow.bl x.ow.v (J Z 0 0)) 136)/\((w3.setCell ⟨P.Nd,39,Z⟩ v').cell? ⟨P.Nd,25,Z⟩=Y (I x.on)/\dI (w3.setCell ⟨P.Nd,39,Z⟩ v') w1.1.size (mA x.ow.k x.ow.f x.ow.e x.ow.b x.ow.wa x.ow.p x.ow.s x.ow.q x.ow.bl x.ow.v (J Z 0 0)) 136))/\Hid (dI (w3.setCell ⟨P.Nd,39,Z⟩ v') P.Nd (zK x v').arr 192)/\Hid ((w3.setCell ⟨P.Nd,39,Z⟩ v').ownsRow P.low 76 5 v' (rs.length+1) (rs.flatMap dO.cells++[I x.on,I x.ow.bl,I x.ow.v,I x.ow.e,I x.ow.q]))/\Hid (dQ (λg=>g=P.Nd∨x.res.ownBlock=some g) W2 (w3.setCell ⟨P.Nd,39,Z⟩ v'))/\Hid (∀g,v'.ownBlock=some g->x.res.ownBlock=some g∨W2.1.size<=g)):=by
  intro v' w3 ho Q hl
  have a8:W2.1.size<=(W2.alloc (G #[I x.on,I x.ow.bl,I x.ow.v,I x.ow.e,I x.ow.q] 76)).drew.1.size:=by show _<=(World.alloc _ _).1.size;simp
  have a9:∀g,g<W2.1.size->x.res.ownBlock≠some g->w3.1[g]?=W2.1[g]?:=λg ag au=>(Q.block g (Nat.lt_of_lt_of_le ag a8) (Ne.symm au)).trans (heap_alloc_old _ _ ag)
  have H:dI w3 P.Nd x.arr 192:=o.same (a9 _ a3 aC)
  have ah:dI w3 w1.1.size (mA x.ow.k x.ow.f x.ow.e x.ow.b x.ow.wa x.ow.p x.ow.s x.ow.q x.ow.bl x.ow.v (J Z 0 0)) 136:=E.same (a9 _ aO aN)
  have n:=dM.setCell w3 ⟨P.Nd,39,Z⟩ v'
  have af:dI (w3.setCell ⟨P.Nd,39,Z⟩ v') P.Nd (zK x v').arr 192:=by have c:=H.set 39 v';simpa using c
  have a7:v'.ownBlock≠some P.Nd:=λm=>by obtain⟨X,c⟩:=fC ho m;rw[H.blk]at c;simp at c
  refine⟨H.cell 39,H.free 39,⟨⟨H.cell 25,ah⟩,⟨af.cell 25,ah.same (n.block _ aI)⟩⟩,af,dW ho (λg Q=>n.block g (λm=>a7 (by have h8:g=P.Nd:=m;rw[←h8];exact Q))),⟨n.os.trans Q.os,n.tape.trans Q.tape,n.output.trans Q.output,by rw[n.size];exact Nat.le_trans a8 Q.size,λk hk hA=>(n.block k (λm=>hA (.inl m))).trans (a9 k hk (λm=>hA (.inr m)))⟩,λg ao=>?_⟩
  obtain⟨g',l1,l2⟩:=hl
  rw[l1]at ao;cases ao
  exact l2.imp id (λc=>Nat.le_trans a8 c.1)
 go_cut [31] (λ_ wx=>∃v',dI wx P.Nd (zK x v').arr 192/\wx.ownsRow P.low 76 5 v' (rs.length+1) (rs.flatMap dO.cells++[I x.on,I x.ow.bl,I x.ow.v,I x.ow.e,I x.ow.q])/\dQ (λg=>g=P.Nd∨x.res.ownBlock=some g) W2 wx/\(∀g,v'.ownBlock=some g->x.res.ownBlock=some g∨W2.1.size<=g));case first=>
  refine eZ (S:=(λw'=>w'.cell? ⟨P.Nd,25,Z⟩=Y (I x.on)/\dI w' w1.1.size (mA x.ow.k x.ow.f x.ow.e x.ow.b x.ow.wa x.ow.p x.ow.s x.ow.q x.ow.bl x.ow.v (J Z 0 0)) 136)) (λ_=>?_) (hS:=a5);refine dH 0 ?_;refine dH 1 ?_;refine dH 2 ?_;refine dH 3 ?_;refine dH 5 ?_;refine dH 6 ?_;refine dH 7 ?_;refine dH 8 ?_;refine dH 9 ?_ (hy:=by intro w l;have c:=l.1;(try simp at c);go_simp;(try with_reducible rfl));refine dH 10 ?_;refine dH 11 ?_ (hy:=by intro w l;have c:=l.2.cell 8;(try simp at c);go_simp;(try with_reducible rfl));refine dH 12 ?_;refine dH 13 ?_ (hy:=by intro w l;have c:=l.2.cell 9;(try simp at c);go_simp;(try with_reducible rfl));refine dH 14 ?_;refine dH 15 ?_ (hy:=by intro w l;have c:=l.2.cell 2;(try simp at c);go_simp;(try with_reducible rfl));refine dH 16 ?_;refine dH 17 ?_ (hy:=by intro w l;have c:=l.2.cell 7;(try simp at c);go_simp;(try with_reducible rfl));refine dH 18 ?_;refine jC [4,19] ?_;refine .cons rfl (λK R=>?_) ?_;focus
   (try go_simp)
   refine kr R 19 (λK R=>?_) a5
  rotate_left;focus
   refine .cons rfl (λK R=>?_) .nil
   (try go_simp)
   refine kr R 4 (λK R=>?_) a4
  all_goals
   (try go_simp)
   refine kr R 20 (λK R=>?_) a4
   refine lG rfl (.tmp 15) (.tmp 30) 52 rfl P.low 76 i0 (.agg #[I 0,I 0,I 0,I 0,I 0]) 5 40 underlying52 aF aH aL ax rfl dG x.res rs.length (rs.flatMap dO.cells) eG ab ⟨W2.1.size,0,Z⟩ 1 1 [I x.on,I x.ow.bl,I x.ow.v,I x.ow.e,I x.ow.q] oG eG rfl ac (by intro u hu;simp at hu;rcases hu with rfl|rfl|rfl|rfl|rfl<;>rfl) xG oG (by show _<=(World.alloc _ _).1.size;simp;omega) ?_
   intro v' w3 F ai W
   obtain⟨aX,aU,rfl⟩:=eK F
   have aQ:=HP.out _ w3 F ai W
   obtain⟨aZ,aW,ad,az,aP,aK,aD⟩:=aQ
   clear F ai W
   refine k1 R (λ_=>?_) ad.1;clear R K;refine dH 21 ?_;refine dH 22 ?_
   refine dT 23 λK R=>?_
   (try go_simp)
   refine kd R ?_ ad.2
   go_wp2_with fail
   go_meet
   exact⟨_,az,aP,aK,aD⟩
 case rest=>
 obtain⟨v',ap,F,ae,an⟩:=hcut;obtain⟨W3,aA⟩:∃y,y=wc:=⟨_,rfl⟩;subst aA;have a6:=dF ap;have aj:=dF F;have N:=dF ae;have aG:=dF an;clear ap F ae an a2 ak a5 a4 ab ac HP;have aM:=lW (P:=pG) (t:=190) (i:=25) (vs:=#[I 0,I 0,I 0,I 0,I 0,I 0,I 0,I 0,I 0,I 0,I 0,J Z 0 0,Value.map none]) a6 EZ sG (by intro u hu;simp at hu;rcases hu with rfl|rfl|rfl<;>rfl) (lE x v').arr sG;have z:=lP W3 P.Nd (lE x v').arr;have a7:v'.ownBlock≠some P.Nd:=λm=>by obtain⟨X,c⟩:=fC aj m;rw[a6.blk]at c;simp at c
 have am:dQ (λg=>g=P.Nd∨x.res.ownBlock=some g) W2 (W3.setRow P.Nd (lE x v').arr):=⟨z.os.trans N.os,z.tape.trans N.tape,z.output.trans N.output,by rw[z.size];exact N.size,λk hk hA=>(z.block k (λm=>hA (.inl m))).trans (N.block k hk hA)⟩;have O:(W3.setRow P.Nd (lE x v').arr).ownsRow P.low 76 5 v' (rs++[oT x]).length ((rs++[oT x]).flatMap dO.cells):=by have c:=dW aj (w':=W3.setRow P.Nd (lE x v').arr) (λg Q=>z.block g (λm=>a7 (m ▸ Q)));simpa[dO.cells,oT] using c
 have M:=D.resetR (x':=lE x v') am (a6.row (ds:=(lE x v').arr)) rfl rfl rfl aG O;have av:=dF M.1;have aE:=dF (aJ.trans M.2);clear M O am z;go_wp2_with(refine rB rfl 190 _ _ rfl _ _ rfl rfl aM ?_);refine bodyPost_end (v:=.tuple #[]) (by simp[results,results237,go_sem]) rfl ?_;rw[HQ.out];refine⟨?_,.inr ⟨?_,v',_,av,aE⟩⟩<;>first|rfl|trivial
def pZ(x:NB)(e q:Int):Bool:=decide (0<x.on)&&((e==x.ow.e)&&(q==x.ow.q))
def qX.pre{P:Pl}{x:NB}{d:SD}{fs:List FD}{left:Int}{L:Nat}{C:Nat->Prop}{la lo:List Ky}{rs:List dO}{r:Ending}{w w1 w':World}(h:qX P x d fs left L C la lo rs r w1 w')(e:dR C C w w1):qX P x d fs left L C la lo rs r w w':=by
 obtain⟨g,f⟩:=h;refine⟨g,?_⟩;rcases f with⟨a,b,c⟩|⟨a,v,C',b,c⟩;·exact .inl ⟨a,b,e.trans c⟩
 ·exact .inr ⟨a,v,C',b,e.trans c⟩
def GD(P:Pl)(x:NB)(d:SD)(fs:List FD)(left:Int)(L:Nat)(C:Nat->Prop)(la lo:List Ky)(rs:List dO)(k f e b q:Int)(r:Ending)(w w':World):Prop:=
 (pZ x e q=false/\r=.returned (.tuple #[])/\dP w' P x d fs left L C la lo rs/\dR C C w w')∨(pZ x e q=true/\qX P x d fs left L C la (jB (iU k f e b q) lo) rs r w w')
def KQ(P:Pl)(x:NB)(d:SD)(fs:List FD)(left:Int)(L t0:Nat)(C:Nat->Prop)(la lo:List Ky)(rs:List dO)(k f e b wa p s q bl v:Int)(a:Option Addr)(U c:Nat)(B:Nat)(w:World)(h:dP w P x d fs left L C la lo rs)(hB:BG t0 d)(ht:t0<=20000000)(V:2<=x.2/\x.2<=5)(a2:0<=x.id/\x.id<x.2)(i:0<x.on->x.oa=some B)(a5:rs.length<=20000000):Calls pG 202 #[P0 (Y ⟨P.Nd,0,Z⟩),.agg (mA k f e b wa p s q bl v (J a U c))] w λr w'=>GD P x d fs left L C la lo rs k f e b q r w w':=by
 have A:=(Below.refl w.1.size w).alloc r_ (G (mA k f e b wa p s q bl v (J a U c)) 136);have HM:=dF (dI.new w (mA k f e b wa p s q bl v (J a U c)) 136);have HB:=dF A;have HF:=dF (h.later A);have W:=dF hB;obtain⟨o,e1⟩:∃y,decide (0<x.on)=y:=⟨_,rfl⟩;obtain⟨F,e2⟩:∃y,(e==x.ow.e)=y:=⟨_,rfl⟩;obtain⟨H,e3⟩:∃y,(q==x.ow.q)=y:=⟨_,rfl⟩;have S:Hid (pZ x e q=(o&&(F&&H))):=by unfold Hid pZ;rw[e1,e2,e3]
 have Q:Hid (o=true->x.oa=some B):=λD=>i (by rw[D]at e1;simpa using e1);clear h hB A i;go_enter func202,ntmps202;go_upto_region 1 with fail;generalize World.alloc _ _=R at*;have a4:=HB.size;have HN:=dF HF.blk;have a1:=HN.cell;have n:=(Below.refl R.1.size R).alloc r_ (G #[I x.on,I x.ow.k,I x.ow.f,I x.ow.e,I x.ow.b,I x.ow.wa,I x.ow.p,I x.ow.s,I x.ow.q,I x.ow.bl,I x.ow.v,J Z 0 0,Value.map x.oa] 190);have l:=dF (dI.new R #[I x.on,I x.ow.k,I x.ow.f,I x.ow.e,I x.ow.b,I x.ow.wa,I x.ow.p,I x.ow.s,I x.ow.q,I x.ow.bl,I x.ow.v,J Z 0 0,Value.map x.oa] 190);have a7:=dF (HM.later n);have j:=dF (HF.later n);have K:Hid (Bw w (R.alloc (G #[I x.on,I x.ow.k,I x.ow.f,I x.ow.e,I x.ow.b,I x.ow.wa,I x.ow.p,I x.ow.s,I x.ow.q,I x.ow.bl,I x.ow.v,J Z 0 0,Value.map x.oa] 190))):=HB.trans (n.mono a4);clear n;go_upto_region 2 with fail;generalize World.alloc _ _=W1 at*;clear HF HM HN a1;have a9:=K.size;have o0:=l.cell 0;have o3:=l.cell 3;have o8:=l.cell 8;have z:=l.cell 12;simp at o0 o3 o8 z;have a3:=a7.cell;have E:Hid (dR C C w W1):=.of_below K;by_cases m:o=true/\F=true/\H=true;case neg=>
  have a0:Hid (pZ x e q=false):=by unfold Hid;rw[S.out];cases o<;>cases F<;>cases H<;>first|rfl|exact absurd ⟨rfl,rfl,rfl⟩ m
  have h3:o=false∨(o=true/\F=false)∨(o=true/\F=true/\H=false):=by cases o<;>cases F<;>cases H<;>simp at m⊢
  clear m S;rcases h3 with rfl|⟨rfl,rfl⟩|⟨rfl,rfl,rfl⟩;all_goals
   go_wp2
   refine bodyPost_end (v:=.tuple #[]) (by simp[results,results202,go_sem]) rfl ?_
   exact .inl ⟨a0,rfl,by first|exact j|exact j.later (b_.drew),by first|exact E|exact E.later (b_.drew)⟩
 obtain⟨rfl,rfl,rfl⟩:=m;have a8:Hid (pZ x e q=true):=S.out;have i:=Q.out rfl;rw[i]at z;have t:=dF i;have N:gH W1 B lo:=by
  rcases j.oa with⟨D,_⟩|⟨B2,D,h8⟩;·rw[i]at D;cases D
  ·rw[i]at D;cases D;exact h8
 have M:=dF N;clear N i S Q;go_wp2_with fail;refine(uO B lo k f e b wa p s q bl v a U c W1 M).mono ?_;rintro r w3 ⟨rfl,O,u⟩;have a6:=dF (j.addOa t u O);have X:Hid (dR C C w w3):=E.trans ⟨u.wide (λg hg=>hg ▸ j.6 B (.inr (.inl t))),λ_ hg=>.inl hg⟩;clear O u o0 o3 o8 z M a3;go_wp2_with fail;refine(BC P x d fs left L t0 C la (jB (iU k f e b q) lo) rs B w3 a6 W ht V a2 t a5).mono ?_;rintro r w4 hq;obtain rfl:=hq.1;have HQ:=dF (hq.pre X);clear hq;go_wp2;refine bodyPost_end (v:=.tuple #[]) (by simp[results,results202,go_sem]) rfl ?_;exact .inr ⟨a8,HQ⟩
end Go.Proofs.YtdcainmlcpafbaaGreatDoor
