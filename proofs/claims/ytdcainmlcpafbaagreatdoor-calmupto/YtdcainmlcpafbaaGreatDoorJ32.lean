import Derived.Test.YtdcainmlcpafbaaGreatDoorJ31
set_option linter.all false
set_option maxHeartbeats 8000000
set_option maxRecDepth 20000
namespace Go.Proofs.YtdcainmlcpafbaaGreatDoor
open Go.RowKit
open Value renaming slice->J,pointer->P0
open Tryz
open Tryz renaming prog->pG
open IntKind renaming i64->T
open Option renaming none->Z,some->Y
open Obj renaming cells->G
open Value (bool)
structure kV(w:World)(Wc base:Nat)(v:Nat->Value)(nb:Int)(f:Bool)(N:Nat->Nat)(X:Nat->List Value):Prop where
 blk:dI w Wc (jS v nb f) 63
 row:∀k∈eW,w.ownsRow base (rT k) (rS k) (v k) (N k) (X k)
 sep:∀g,(v 3).ownBlock=some g->(v 10).ownBlock≠some g
section
variable {w w':World} {Wc base t t':Nat} {v:Nat->Value} {nb:Int} {f:Bool} {N:Nat->Nat} {X:Nat->List Value} {hs:List Ho} {s:CS}
def dU.cr(h:dU w Wc base t v f hs s):kV w Wc base v s.nb f (rN hs s) (rX hs s):=⟨h.blk,h.row,h.sep⟩
def kV.off(h:kV w Wc base v nb f N X){k:Nat}(b:k∈eW):(v k).ownBlock≠some Wc:=by intro d;obtain⟨c,a⟩:=fC (h.row k b) d;rw[h.blk.blk]at a;simp at a;exact FT k b a.2.symm
def kV.rsep(h:kV w Wc base v nb f N X){k j:Nat}(e:k∈eW)(i:j∈eW)(c:k≠j){g:Nat}(d:(v k).ownBlock=some g):(v j).ownBlock≠some g:=by
 intro b;obtain⟨n,l⟩:=fC (h.row k e) d;obtain⟨m,a⟩:=fC (h.row j i) b;rw[l]at a;simp at a;rcases E3 k e j i c a.2 with⟨rfl,rfl⟩|⟨rfl,rfl⟩;·exact h.sep g d b
 ·exact h.sep g b d
def kV.later(h:kV w Wc base v nb f N X)(b:Bw w w'):kV w' Wc base v nb f N X:=⟨h.blk.later b,λk a=>dW (h.row k a) (λg c=>b.block g ((h.row k a).lt g c).2),h.sep⟩
def kV.cell(h:kV w Wc base v nb f N X){k:Nat}(a:k∈eW):w.cell? ⟨Wc,k,Z⟩=Y (v k):=(h.blk.cell k).trans (uX v nb f k a)
def kV.lm{k g n c:Nat}(t:k∈eW)(h:kV w Wc base v nb f N X)(o:v k=J (Y ⟨g,0,Z⟩) n c)(j:Nat)(u:Value):kV (w.setCell ⟨g,j,Z⟩ u) Wc base v nb f N (λi=>if i=k then(X k).set j u else X i)/\dM g w (w.setCell ⟨g,j,Z⟩ u)/\w.frozen? ⟨g,j,Z⟩=false:=by
 have r:=dM.setCell w ⟨g,j,Z⟩ u;have b:=h.row k t;have q:n=N k:=by rw[o]at b;obtain⟨a,A,d⟩:=eK b;cases d;rfl
 subst q;have m:(v k).ownBlock=some g:=by rw[o];rfl
 have p:g≠Wc:=λd=>h.off t (by rw[m,d]);rw[o]at b;have z:=(b.stored j u).1;obtain⟨x,l⟩:=fC b (g:=g) rfl;refine⟨⟨h.blk.same (r.block Wc (λd=>p d.symm)),λi hi=>?_,h.sep⟩,r,by simp[World.frozen?,l]⟩;by_cases e:i=k;·subst e;rw[if_pos rfl,o];exact z
 ·rw[if_neg e];exact dW (h.row i hi) (λy s=>r.block y (λd=>h.rsep hi t e s (by rw[m,d])))
def kV.at{k:Nat}(b:k∈eW)(h:kV w Wc base v nb f N X)(d:0<N k):∃g a,v k=J (Y ⟨g,0,Z⟩) (N k) a/\w.cell? ⟨Wc,k,Z⟩=Y (J (Y ⟨g,0,Z⟩) (N k) a)/\g<w.1.size/\∀j u,(X k)[j]?=Y u->w.cell? ⟨g,j,Z⟩=Y u:=by obtain⟨g,a,e,c,i⟩:=(fM.ig (h.row k b)).at d;exact⟨g,a,e,by rw[←e];exact h.cell b,c,i⟩
def dU.renew{i:Nat}(h:dU w Wc base t v f hs s)(hi:i<hs.length)(W:i<s.ns.length){c:Ho}{n':AG.Nd}{Q:Int}(U:t<=t')(N:w.1.size<=w'.1.size)(S:kV w' Wc base v s.nb f (rN (hs.set i c) {s with ns:=s.ns.set i n',lv:=s.3.set i Q}) (rX (hs.set i c) {s with ns:=s.ns.set i n',lv:=s.3.set i Q}))(H:∀g,g<w.1.size->g≠Wc->(∀k∈eW,(v k).ownBlock≠some g)->w'.1[g]?=w.1[g]?)(R:dY w')(V:fN w' c.Kn c.P t' c.C c.left n')(E:∀g,c.al g->w.1.size<=g)(z:n'.id=s.ns[i].id/\n'.2=s.ns[i].2/\n'.nb=s.ns[i].nb):dU w' Wc base t' v f (hs.set i c) {s with ns:=s.ns.set i n',lv:=s.3.set i Q}:=by
 have l:∀j (m:j<(hs.set i c).length),∀g,(hs.set i c)[j].al g->(j=i/\c.al g)∨(j≠i/\∃e:j<hs.length,hs[j].al g):=by
  intro j m g n;by_cases d:j=i;·subst d;simp only[List.getElem_set_self]at n;exact .inl ⟨rfl,n⟩
  ·rw[List.getElem_set_ne (λy=>d y.symm)]at n;exact .inr ⟨d,by simpa using m,n⟩
 refine⟨S.blk,S.row,h.sep,by simp[h.hl],λj m e=>?_,λa b X H D g M F=>?_,λk q g n j m p=>?_,λj m p=>?_,⟨h.low.1,h.low.2.1,λj m g p=>?_⟩,by simp[h.ll],by simp[h.n5],h.nb,R,?_⟩
 ·by_cases d:j=i;·subst d;simp only[List.getElem_set_self];exact V
  ·simp only[List.getElem_set_ne (λy=>d y.symm)];have A:j<hs.length:=by simpa using m
   have u:j<s.ns.length:=by simpa using e
   have y:=h.host j A u;exact(y.same N (λg n=>H g (y.lt g n).2 (λL=>h.ni j A (L ▸ n)) (λk q L=>h.mg k q g L j A n)) R).up U
 ·rcases l a X g M with⟨rfl,o⟩|⟨o,B,x⟩
  ·rcases l b H g F with⟨rfl,_⟩|⟨O,r,K⟩;·exact D rfl
   ·have:=((h.host b r (by rw[←h.hl];exact r)).lt g K).2;have:=E g o;omega
  ·rcases l b H g F with⟨rfl,O⟩|⟨O,r,K⟩;·have:=((h.host a B (by rw[←h.hl];exact B)).lt g x).2;have:=E g O;omega
   ·exact h.ap a b B r D g x K
 ·rcases l j m g p with⟨rfl,o⟩|⟨o,e,x⟩;·have:=((h.row k q).lt g n).2;have:=E g o;omega
  ·exact h.mg k q g n j e x
 ·rcases l j m Wc p with⟨rfl,o⟩|⟨o,e,x⟩;·have:=h.blk.lt;have:=E _ o;omega
  ·exact h.ni j e x
 ·rcases l j m g p with⟨rfl,o⟩|⟨o,e,x⟩;·have:=h.jf;have:=E g o;omega
  ·exact h.low.2.2 j e g x
 ·intro j m;have u:j<s.ns.length:=by simpa using m
  by_cases d:j=i;·subst d;simp only[List.getElem_set_self,List.length_set];have:=h.ids j u;rw[z.1,z.2.1,z.2.2];exact this
  ·simp only[List.getElem_set_ne (λy=>d y.symm),List.length_set];exact h.ids j u
end
def mW{α:Type}{l:List α}{i:Nat}(h:i<l.length)(f:α->Value):(l.map f)[i]?=Y (f l[i]):=by rw[List.getElem?_map,List.getElem?_eq_getElem h];rfl
def E6(Wc base t:Nat)(hs:List Ho)(s:CS)(i:Nat)(keep:Int)(w:World)(h:CA w Wc base t true hs s)(hi:i<s.ns.length)(ht:t+1<=20000000)(aE:∀(bh:i<s.3.length),0<=s.3[i]/\s.3[i]<=1000000000):Calls pG 49 #[P0 (Y ⟨Wc,0,Z⟩),I (i:Int),I keep] w λq w'=>q=.returned (.tuple #[])/\∃n' hs',hs'.length=hs.length/\Cr (s.nd i) n'/\CA w' Wc base (t+1) true hs' {s with ns:=s.ns.set i n',lv:=s.3.set i (s.3.getD i 0+1)}/\Below base w w'/\∃h0:Ho,hs'=hs.set i h0/\h0.left= -1:=by
 obtain⟨v,h⟩:=h;have A:i<hs.length:=by rw[h.hl];exact hi
 have aj:i<s.3.length:=by rw[h.ll.1];exact hi
 have bl:=h.n5;have bf:=h.hl;have aX:s.nd i=s.ns[i]:=CS.jy hi;have aO:s.3.getD i 0=s.3[i]:=by rw[List.getD_eq_getElem?_getD,List.getElem?_eq_getElem aj];rfl
 have aJ:=aE aj;rw[aO];obtain⟨r,am⟩:∃y,s.3[i]=y:=⟨_,rfl⟩;rw[am]at aJ⊢;have HH:=dF h;have c:=dF h.cr;obtain⟨g2,bb,bg,c2,bo,N⟩:=c.at (k:=2) dG (show 0<hs.length by omega);have x2:=N i _ (mW A (λh=>P0 (Y ⟨h.P.H,0,Z⟩)));have ak:rN hs s 2=hs.length:=rfl;rw[ak]at c2;have bp:(0:Int)<=(i:Int)/\(i:Int)<(hs.length:Int):=oG;have aZ:(0:Int)<=(i:Int)/\(i:Int)<(s.3.length:Int):=oG;have aF:=dF ((h.host i A hi).nd.ny oG keep);have M:=h.ids i hi;clear h N aE;go_enter func49,ntmps49;go_wp2_with fail;refine aF.mono ?_;rintro q w1 ⟨rfl,C,a9⟩;clear aF c2 x2;have au:=dF (c.later a9);have av:=dF C;have Q:=dF a9;have s1:=a9.size;clear C a9;obtain⟨g1,b9,O,c1,bk,aG⟩:=au.at (k:=1) dG (show 0<hs.length by omega);have x1:=aG i _ (mW A (λh=>P0 (Y ⟨h.P.D,0,Z⟩)));have ao:rN hs s 1=hs.length:=rfl;rw[ao]at c1;obtain⟨W,p2,p3⟩:=au.lm (k:=1) dG O i (P0 (Y ⟨w.1.size+1,0,Z⟩));have ar:=dF W;have B:=dF p2;have bd:g1<w.1.size:=by have b:=((c.row 1 dG).lt g1 (by rw[O];rfl)).2;exact b
 clear aG W p2;go_upto_region 2 with fail;generalize aR:w1.setCell ⟨g1,i,Z⟩ (P0 (Y ⟨w.1.size+1,0,Z⟩))=W2 at*;clear c1 x1 p3 aR;obtain⟨j,aP,o,c2,b8,N⟩:=ar.at (k:=2) dG (show 0<hs.length by omega);have x2:=N i _ (show((rX hs s 2))[i]?=_ from mW A (λh=>P0 (Y ⟨h.P.H,0,Z⟩)));rw[ak]at c2;obtain⟨W,p2,p3⟩:=ar.lm (k:=2) dG o i (P0 (Y ⟨w.1.size+2,0,Z⟩));have L:=dF W;have u:=dF p2;have b6:j<w.1.size:=by have b:=((c.row 2 dG).lt j (by rw[o];rfl)).2;exact b
 clear N W p2;go_upto_region 3 with fail;generalize aU:W2.setCell ⟨j,i,Z⟩ (P0 (Y ⟨w.1.size+2,0,Z⟩))=F at*;clear c2 x2 p3 aU;have z2:W2.1.size=w1.1.size:=B.size;have z3:F.1.size=W2.1.size:=u.size;have ab:Hid (qY F s.ns[i] t w.1.size (w.1.size+1) (w.1.size+2) w.1.size w.1.size):=av.same oG (λg V _=>(u.block g oG).trans (B.block g oG));have a5:dY F:=by
  have aK:=HH.low;have a1:g1≠0/\g1≠1:=by have b:=((c.row 1 dG).lt g1 (by rw[O];rfl)).1;omega
  have a2:j≠0/\j≠1:=by have b:=((c.row 2 dG).lt j (by rw[o];rfl)).1;omega
  have t1:=HH.tabs.below Q HH.tabs.two;exact(t1.below (B.below oG) (Nat.le_refl 2)).below (u.below oG) (Nat.le_refl 2)
 have al:dY F.drew:=a5.below (b_.drew) a5.two;have a3:=dF ((ab.same (w':=F.drew) r_ (λ_ _ _=>rfl)).new oG al (by show w.1.size<=F.1.size;omega) (by have:=HH.low;have:=HH.jf;omega));rw[M.1,M.2.1,M.2.2]at a3;obtain⟨f,m,bc,ai,aB,aa⟩:=L.at (k:=1) dG (show 0<hs.length by omega);have aA:=aa i (P0 (Y ⟨w.1.size+1,0,Z⟩)) (by show((rX hs s 1).set i (P0 (Y ⟨w.1.size+1,0,Z⟩)))[i]?=_;rw[List.getElem?_set_self (by show i<(hs.map _).length;simpa using A)]);rw[ao]at ai;have ad:=L.cell (k:=0) dG;obtain⟨a0,X,aH⟩:=eK (L.row 0 dG);have az:rN hs s 0=hs.length:=rfl;rw[aH,az]at ad;have ae:=L.blk.cell 4;simp at ae;have aM:(s.ns.length:Int)=(hs.length:Int):=oG;rw[aM]at a3;have gO:=dF (⟨ai,aA,ad,ae⟩:F.cell? ⟨Wc,1,Z⟩=Y (J (Y ⟨f,0,Z⟩) hs.length m)/\F.cell? ⟨f,i,Z⟩=Y (P0 (Y ⟨w.1.size+1,0,Z⟩))/\F.cell? ⟨Wc,0,Z⟩=Y (J a0 hs.length X)/\F.cell? ⟨Wc,4,Z⟩=Y (I s.nb));clear aa ai aA ad ae;go_cut [8,9] (λs8 s9 wx=>∃Kn Nd Mp C' n',s8=P0 (Y ⟨Kn,0,Z⟩)/\s9=I 0/\fN wx Kn ⟨w.1.size,Nd,Mp,w.1.size+1,w.1.size+2,w.1.size⟩ (t+1) C' (-1) n'/\Cr s.ns[i] n'/\(∀g,C' g∨g=Kn->w.1.size<=g)/\Bw F wx);case first=>refine eZ (S:=λw'=>w'.cell? ⟨Wc,1,Z⟩=Y (J (Y ⟨f,0,Z⟩) hs.length m)/\w'.cell? ⟨f,i,Z⟩=Y (P0 (Y ⟨w.1.size+1,0,Z⟩))/\w'.cell? ⟨Wc,0,Z⟩=Y (J a0 hs.length X)/\w'.cell? ⟨Wc,4,Z⟩=Y (I s.nb)) (λ_=>?_) (hS:=gO);refine dH 0 ?_;refine dH 1 ?_;refine dH 2 ?_;refine dH 3 ?_;refine dH 4 (v:=J a0 hs.length X) ?_ (hy:=λw n=>by have b:=n.2.2.1;go_simp);refine dH 5 ?_;refine dH 6 ?_;refine dH 7 ?_;refine dH 8 ?_;refine dH 9 (v:=I s.nb) ?_ (hy:=λw n=>by have b:=n.2.2.2;go_simp);refine dH 10 ?_;refine dH 11 ?_;refine dH 12 ?_;refine dH 13 (v:=J (Y ⟨f,0,Z⟩) hs.length m) ?_ (hy:=λw n=>by have b:=n.1;go_simp);refine dH 14 ?_;refine dH 15 (v:=P0 (Y ⟨f,i,Z⟩)) ?_ (hy:=λw n=>by go_simp);refine dH 16 (v:=P0 (Y ⟨w.1.size+1,0,Z⟩)) ?_ (hy:=λw n=>by have b:=n.2.1;go_simp);refine dT 17 λK hK=>?_;(try go_simp);go_at_call 66;refine a3.mono ?_;rintro q w4 ⟨Kn,Nd,Mp,C',n',rfl,a6,C,a7,aY⟩;have d:Bw F w4:=b_.drew.trans aY;have ah:=L.blk.lt;have ag:w4.cell? ⟨Wc,1,Z⟩=Y (J (Y ⟨f,0,Z⟩) hs.length m)/\w4.cell? ⟨f,i,Z⟩=Y (P0 (Y ⟨w.1.size+1,0,Z⟩))/\w4.cell? ⟨Wc,0,Z⟩=Y (J a0 hs.length X)/\w4.cell? ⟨Wc,4,Z⟩=Y (I s.nb):=⟨(d.cell (p:=⟨Wc,1,Z⟩) ah).trans gO.1,(d.cell (p:=⟨f,i,Z⟩) aB).trans gO.2.1,(d.cell (p:=⟨Wc,0,Z⟩) ah).trans gO.2.2.1,(d.cell (p:=⟨Wc,4,Z⟩) ah).trans gO.2.2.2⟩;refine k1 hK (λ_=>?_) ag;clear hK K;refine dH 18 ?_;refine dH 19 ?_;refine dH 20 ?_;refine dT 21 λK hK=>?_;(try go_simp);refine kr hK 22 (λK hK=>?_) ag;(try go_simp);refine kd hK ?_ ag;go_wp2_with fail;go_meet;exact⟨Kn,Nd,Mp,C',n',rfl,rfl,a6,C,a7,d⟩
 case rest=>
 obtain⟨Kn,Nd,Mp,C',n',rfl,rfl,a6,C,a7,d⟩:=hcut;obtain⟨W4,aN⟩:∃y,y=wc:=⟨_,rfl⟩;subst aN;have ap:=dF (L.later d);have an:=dF a6;have R:=dF d;have z4:=d.size;have bm:=λa w=>EE a w;clear a6 d a3 gO av ab;obtain⟨g0,b7,E,c0,bi,ay⟩:=ap.at (k:=0) dG (show 0<hs.length by omega);have x0:=ay i _ (show(rX hs s 0)[i]?=_ from mW A (λh=>P0 (Y ⟨h.Kn,0,Z⟩)));rw[az]at c0;obtain⟨W,p2,p3⟩:=ap.lm (k:=0) dG E i (P0 (Y ⟨Kn,0,Z⟩));have aC:=dF W;have x:=dF p2;have b4:g0<w.1.size:=by have b:=((c.row 0 dG).lt g0 (by rw[E];rfl)).2;exact b
 clear ay W p2;go_upto_region 7 with fail;generalize aT:W4.setCell ⟨g0,i,Z⟩ (P0 (Y ⟨Kn,0,Z⟩))=W5 at*;clear c0 x0 p3 aT;obtain⟨U,b5,a8,c3,bj,ax⟩:=aC.at (k:=3) dG (show 0<s.3.length by omega);have x3:=ax i _ (show(rX hs s 3)[i]?=_ from mW aj I);have aQ:rN hs s 3=s.3.length:=rfl;rw[aQ]at c3;rw[am]at x3;obtain⟨W,p2,p3⟩:=aC.lm (k:=3) dG a8 i (I (r+1));have aI:=dF W;have z:=dF p2;have ba:U<w.1.size:=by have b:=((c.row 3 dG).lt U (by rw[a8];rfl)).2;exact b
 have bn:IntKind.i64.wrap (r+1)=r+1:=IntWalk.i64_in _ oG;have z5:W5.1.size=W4.1.size:=x.size;have z6:(W5.setCell ⟨U,i,Z⟩ (I (r+1))).1.size=W5.1.size:=z.size;have aD:Hid (∀g,g≠g1->g≠j->g≠g0->g≠U->g<w.1.size->(W5.setCell ⟨U,i,Z⟩ (I (r+1))).1[g]?=w.1[g]?):=λg h1 h2 h0 h3 V=>(z.block g h3).trans ((x.block g h0).trans ((R.block g oG).trans ((u.block g h2).trans ((B.block g h1).trans (Q.block g V)))));have aL:Hid (∀g,w.1.size<=g->g<W4.1.size->(W5.setCell ⟨U,i,Z⟩ (I (r+1))).1[g]?=W4.1[g]?):=λg h1 h2=>(z.block g oG).trans (x.block g oG);have aV:dY W4:=a5.below R a5.two;have aK:=HH.low;have b1:base<=g1:=((c.row 1 dG).lt g1 (by rw[O];rfl)).1;have b2:base<=j:=((c.row 2 dG).lt j (by rw[o];rfl)).1;have b0:base<=g0:=((c.row 0 dG).lt g0 (by rw[E];rfl)).1;have b3:base<=U:=((c.row 3 dG).lt U (by rw[a8];rfl)).1;have aw:dY (W5.setCell ⟨U,i,Z⟩ (I (r+1))):=(aV.below (x.below oG) (Nat.le_refl 2)).below (z.below oG) (Nat.le_refl 2);have be:=HH.jf;have ac:dU (W5.setCell ⟨U,i,Z⟩ (I (r+1))) Wc base (t+1) v true (hs.set i ⟨Kn,⟨w.1.size,Nd,Mp,w.1.size+1,w.1.size+2,w.1.size⟩,C',-1⟩) {s with ns:=s.ns.set i n',lv:=s.3.set i (r+1)}:=by
  refine HH.renew A hi oG oG ?_ ?_ aw ?_ (λg V=>a7 g V) ?_
  ·have hr:=aI.out;refine⟨hr.blk,λk hk=>?_,hr.sep⟩;have b:=hr.row k hk;have af:=hk;simp only[eW,List.mem_cons,List.mem_nil_iff,or_false]at af;have eN:rN (hs.set i ⟨Kn,⟨w.1.size,Nd,Mp,w.1.size+1,w.1.size+2,w.1.size⟩,C',-1⟩) {s with ns:=s.ns.set i n',lv:=s.3.set i (r+1)} k=rN hs s k:=by rcases af with rfl|rfl|rfl|rfl|rfl|rfl|rfl|rfl|rfl|rfl<;>simp[rN]
   rw[eN];rcases af with rfl|rfl|rfl|rfl|rfl|rfl|rfl|rfl|rfl|rfl
   ·have e:rX (hs.set i ⟨Kn,⟨w.1.size,Nd,Mp,w.1.size+1,w.1.size+2,w.1.size⟩,C',-1⟩) {s with ns:=s.ns.set i n',lv:=s.3.set i (r+1)} 0=(rX hs s 0).set i (P0 (Y ⟨Kn,0,Z⟩)):=by show(hs.set i _).map _=(hs.map _).set i _;rw[List.map_set]
    rw[e];exact b
   ·have e:rX (hs.set i ⟨Kn,⟨w.1.size,Nd,Mp,w.1.size+1,w.1.size+2,w.1.size⟩,C',-1⟩) {s with ns:=s.ns.set i n',lv:=s.3.set i (r+1)} 1=(rX hs s 1).set i (P0 (Y ⟨w.1.size+1,0,Z⟩)):=by show(hs.set i _).map _=(hs.map _).set i _;rw[List.map_set]
    rw[e];exact b
   ·have e:rX (hs.set i ⟨Kn,⟨w.1.size,Nd,Mp,w.1.size+1,w.1.size+2,w.1.size⟩,C',-1⟩) {s with ns:=s.ns.set i n',lv:=s.3.set i (r+1)} 2=(rX hs s 2).set i (P0 (Y ⟨w.1.size+2,0,Z⟩)):=by show(hs.set i _).map _=(hs.map _).set i _;rw[List.map_set]
    rw[e];exact b
   ·have e:rX (hs.set i ⟨Kn,⟨w.1.size,Nd,Mp,w.1.size+1,w.1.size+2,w.1.size⟩,C',-1⟩) {s with ns:=s.ns.set i n',lv:=s.3.set i (r+1)} 3=(rX hs s 3).set i (I (r+1)):=by show(s.3.set i _).map _=(s.3.map _).set i _;rw[List.map_set]
    rw[e];exact b
   all_goals exact b
  ·intro g V _ a4;exact aD.out g (λb=>a4 1 dG (by rw[b,O];rfl)) (λb=>a4 2 dG (by rw[b,o];rfl)) (λb=>a4 0 dG (by rw[b,E];rfl)) (λb=>a4 3 dG (by rw[b,a8];rfl)) V
  ·exact an.same oG (λg V=>aL.out g (a7 g V) (an.lt g V).2) aw
  ·rcases C with⟨l,rfl,_⟩|⟨_,l,rfl,_⟩<;>exact⟨rfl,rfl,rfl⟩
 have aq:Below base w (W5.setCell ⟨U,i,Z⟩ (I (r+1))):=⟨z.os.trans (x.os.trans (R.os.trans (u.os.trans (B.os.trans Q.os)))),z.tape.trans (x.tape.trans (R.tape.trans (u.tape.trans (B.tape.trans Q.tape)))),z.output.trans (x.output.trans (R.output.trans (u.output.trans (B.output.trans Q.output)))),oG,λg V=>aD.out g oG oG oG oG oG⟩;have aW:=dF ac;have aS:=dF aq;clear ac aq ax;go_wp2_with fail;refine bodyPost_end (v:=.tuple #[]) (by simp[results,results49,go_sem]) rfl ?_;refine⟨rfl,n',_,sG,by rw[aX];exact C,⟨_,aW⟩,aS,_,rfl,rfl⟩
def dU.frame{w w':World}{Wc base t:Nat}{v:Nat->Value}{f:Bool}{hs:List Ho}{s:CS}{X:Nat}(h:dU w Wc base t v f hs s)(a:dM X w w')(p:X≠Wc)(n:∀k∈eW,(v k).ownBlock≠some X)(o:∀j (i:j<hs.length),¬hs[j].al X)(r:base<=X):dU w' Wc base t v f hs s/\Below base w w':=by
 have q:=h.low;have m:dY w':=h.tabs.below (a.below oG) (Nat.le_refl 2);have c:w.1.size<=w'.1.size:=by rw[a.size];exact Nat.le_refl _
 refine⟨⟨h.blk.same (a.block Wc (λb=>p b.symm)),λk l=>dW (h.row k l) (λg d=>a.block g (λb=>n k l (b ▸ d))),h.sep,h.hl,λj i e=>(h.host j i e).same c (λg d=>a.block g (λb=>o j i (b ▸ d))) m,h.ap,h.mg,h.ni,h.low,h.ll,h.n5,h.nb,m,h.ids⟩,?_⟩;exact⟨a.os,a.tape,a.output,c,λg d=>a.block g oG⟩
def dU.did2{w w':World}{Wc base t:Nat}{v:Nat->Value}{f:Bool}{hs:List Ho}{s:CS}{i:Nat}(h:dU w Wc base t v f hs s)(hi:i<hs.length)(d:i<s.ns.length){n:Int}{F:AG.Nd×List (Int×AG.Ms)}{ok:Bool}{l:Value}(r:jI hs[i].Kn hs[i].P t hs[i].C hs[i].left n F ok l w w')(g:F.1.id=s.ns[i].id/\F.1.2=s.ns[i].2/\F.1.nb=s.ns[i].nb):dZ w' w.1.size l (fY F.2)/\eR n F.2/\∃hs',hs'.length=hs.length/\dU w' Wc base (t+1) v f hs' {s with ns:=s.ns.set i F.1}/\Below base w w'/\((Qt hs->ok=true/\Qt hs')/\eR n F.2)/\∀X,X<w.1.size->(∀j (e:j<hs.length),¬hs[j].al X)->∀j (e:j<hs'.length),¬hs'[j].al X:=by
 obtain⟨u,k,C',H,A,o,y⟩:=r;obtain⟨a1,D⟩:=h.call (t':=t+1) hi d oG A o g;refine⟨u,k,_,sG,a1,D,⟨λm=>?_,k⟩,λX E p j e c=>?_⟩
 ·obtain⟨q,z⟩:=y (m _ (List.getElem_mem hi));refine⟨q,λx B=>?_⟩;rcases List.mem_or_eq_of_mem_set B with a|a;·exact m x a
  ·rw[a];exact z
 ·by_cases b:j=i
  ·subst b;simp only[List.getElem_set_self]at c;rcases o.2 X c with a|a;·exact p j hi a
   ·omega
  ·rw[List.getElem_set_ne (λa=>b a.symm)]at c;exact p j (by simpa using e) c
def CS.bl(s:CS)(b:Int):Int:=eV b%s.nb
def CS.jm(s:CS)(i:Nat)(b:Int)(rd ok:Bool):AG.Nd×List (Int×AG.Ms)×Int:=(s.nd i).operate (s.bl b) (bif rd then(s.nd i).d.bk (s.bl b) else 1+(s.ops.length:Int)) ok
def CS.asd(s:CS)(i:Nat)(b op:Int)(rd dn:Bool):AG.As:=⟨i,s.3.getD i 0,op,s.bl b,1+(s.ops.length:Int),rd,dn,(kU s.rs).1,(kU s.rs).2⟩
def CS.oper(s:CS)(i:Nat)(b:Int)(rd ok:Bool):CS:=
 if(s.jm i b rd ok).2.2=0 then{s with ns:=s.ns.set i (s.jm i b rd ok).1,net:=s.4++(s.jm i b rd ok).2.1,ops:=s.ops++[s.asd i b ((s.nd i).ops+1) rd false]}
 else if(s.jm i b rd ok).2.2=3/\rd=false then{s with ns:=s.ns.set i (s.jm i b rd ok).1,ops:=s.ops++[s.asd i b 0 rd true]}
 else{s with ns:=s.ns.set i (s.jm i b rd ok).1}
def SK(Wc base t:Nat)(hs:List Ho)(F:Bool->CS)(n:Int)(O:Bool->List (Int×AG.Ms))(w w':World):Prop:=∃ok hs',hs'.length=hs.length/\CA w' Wc base (t+1) true hs' (F ok)/\Below base w w'/\((Qt hs->ok=true/\Qt hs')/\eR n (O ok))
def OP:(Tryz.prog.info? 178).map (λi=>(i.zero,i.size,i.bytes))=Y (Y (.agg #[I 0,I 0,I 0,I 0,I 0,.bool false,.bool false,I 0,I 0]),9,64):=kG
def JR(hLO:i8)(hUO:i6)(hSO:fB)(hBW:fH)(hBS:fI)(Wc base t:Nat)(hs:List Ho)(s:CS)(i:Nat)(b:Int)(rd:Bool)(w:World)(h:CA w Wc base t true hs s)(hi:i<s.ns.length)(ht:t+1<=20000000)(hb:i_ b)(am:s.4.length<=500000000/\s.ops.length<=500000000/\s.rs.length<=2000000000)(aA:sE s i (λok=>((s.jm i b rd ok).1,(s.jm i b rd ok).2.1))):Calls pG 56 #[P0 (Y ⟨Wc,0,Z⟩),I (i:Int),I b,bool rd] w λq w'=>q=.returned (.tuple #[])/\SK Wc base t hs (λok=>s.oper i b rd ok) (s.nd i).2 (λok=>(s.jm i b rd ok).2.1) w w':=by
 obtain⟨v,h⟩:=h;obtain⟨i0,bw,be,bA,bu⟩:=info_parts OP;have Q:i<hs.length:=by rw[h.hl];exact hi
 have bE:i<s.3.length:=by rw[h.ll.1];exact hi
 have cm:=h.n5;have b9:=h.hl;have ai:s.nd i=s.ns[i]:=CS.jy hi;have bi:s.3.getD i 0=s.3[i]:=by rw[List.getD_eq_getElem?_getD,List.getElem?_eq_getElem bE];rfl
 have cl:=h.nb;have c4:=h.blk.cell 4;simp at c4;have bj:=dF (nO b s.nb w oG hb.1 hb.2);obtain⟨a7,cc,bC⟩:=eK (h.row 7 dG);have c7:=h.cell (k:=7) dG;have aX:=fM.ig (h.row 7 dG);rw[bC]at c7 aX;have bq:=dF (Q7 Wc a7 cc s.rs w c7 h.blk.lt aX am.2.2);have HH:=dF h;have b7:=dF aA;clear h aX c7 aA;go_enter func56,ntmps56;go_wp2_with fail;refine bj.mono ?_;rintro q w1 ⟨rfl,bZ⟩;obtain rfl:=bZ.symm;obtain⟨bl,aE⟩:∃y,eV b%s.nb=y:=⟨_,rfl⟩;rw[aE];go_wp2_with fail;refine bq.mono ?_;rintro q w1 ⟨rfl,b4⟩;have O:=dF (HH.later b4);have c9:=dF (b4.mono HH.jf);obtain⟨⟨e,f⟩,aZ⟩:∃y:Int×Int,kU s.rs=y:=⟨_,rfl⟩;rw[aZ];clear bj bq b4 c4;go_upto_region 2 with fail;obtain⟨g3,af,c2,c3,W,ar⟩:=O.ones (k:=3) dG (show 0<s.3.length by omega);have x3:=ar i _ (show(rX hs s 3)[i]?=_ from mW bE I);have bU:rN hs s 3=s.3.length:=rfl;rw[bU]at c3;obtain⟨c,aU⟩:∃y,s.3[i]=y:=⟨_,rfl⟩;rw[aU]at x3;obtain⟨a6,aC,b8⟩:=eK (O.row 6 dG);have c6:=O.cell (k:=6) dG;rw[b8]at c6;have bP:rN hs s 6=s.ops.length:=rfl;rw[bP]at c6;have b5:(0:Int)<=(i:Int)/\(i:Int)<(s.3.length:Int):=oG;have bx:IntKind.i64.wrap (1+(s.ops.length:Int))=1+(s.ops.length:Int):=IntWalk.i64_in _ oG;have aM:=O.blk.lt;have U:=dF (⟨c3,x3,c6⟩:w1.cell? ⟨Wc,3,Z⟩=Y (J (Y ⟨g3,0,Z⟩) s.3.length af)/\w1.cell? ⟨g3,i,Z⟩=Y (I c)/\w1.cell? ⟨Wc,6,Z⟩=Y (J a6 s.ops.length aC));clear ar c3 x3 c6 b8 c2 bC;go_cut [10] (λs10 wx=>s10=P0 (Y ⟨w1.1.size,0,Z⟩)/\Bw w1 wx/\dI wx w1.1.size #[I (i:Int),I c,I 0,I bl,I (1+(s.ops.length:Int)),bool rd,bool false,I e,I f] 178);case first=>refine eZ (S:=λw'=>w'.cell? ⟨Wc,3,Z⟩=Y (J (Y ⟨g3,0,Z⟩) s.3.length af)/\w'.cell? ⟨g3,i,Z⟩=Y (I c)/\w'.cell? ⟨Wc,6,Z⟩=Y (J a6 s.ops.length aC)) (λ_=>?_) (hS:=U);refine dH 0 ?_;refine dH 1 ?_;refine dH 2 ?_;refine dH 3 ?_;refine dH 4 (v:=J (Y ⟨g3,0,Z⟩) s.3.length af) ?_ (hy:=λw r=>by have A:=r.1;go_simp);refine dH 5 ?_;refine dH 6 (v:=P0 (Y ⟨g3,i,Z⟩)) ?_ (hy:=λw r=>by go_simp);refine dH 7 (v:=I c) ?_ (hy:=λw r=>by have A:=r.2.1;go_simp);refine dH 8 ?_;refine dH 9 ?_;refine dH 10 ?_;refine dH 11 ?_;refine dH 12 (v:=J a6 s.ops.length aC) ?_ (hy:=λw r=>by have A:=r.2.2;go_simp);refine dH 13 ?_;refine dH 14 (v:=I (1+(s.ops.length:Int))) ?_ (hy:=λw r=>by first|(go_simp;done)|(go_simp;rw[bx]));refine dH 15 ?_;refine dH 16 ?_;refine dH 17 ?_;refine dH 18 (v:=.agg #[I (i:Int),I c,I 0,I bl,I (1+(s.ops.length:Int)),bool rd,bool false,I e,I f]) ?_ (hy:=λw r=>by first|(go_simp;done)|(go_simp;rfl));refine dT 19 λK x=>?_;(try go_simp);have hZ:dI (w1.alloc (G #[I 0,I 0,I 0,I 0,I 0,bool false,bool false,I 0,I 0] 178)).drew w1.1.size #[I 0,I 0,I 0,I 0,I 0,bool false,bool false,I 0,I 0] 178:=(dI.new w1 _ 178).drew;have n:Bw w1 (w1.alloc (G #[I 0,I 0,I 0,I 0,I 0,bool false,bool false,I 0,I 0] 178)).drew:=(a_ _ _).drew;generalize (World.alloc _ _).drew=WA at*;have H:WA.cell? ⟨Wc,3,Z⟩=Y (J (Y ⟨g3,0,Z⟩) s.3.length af)/\WA.cell? ⟨g3,i,Z⟩=Y (I c)/\WA.cell? ⟨Wc,6,Z⟩=Y (J a6 s.ops.length aC):=⟨(n.cell (p:=⟨Wc,3,Z⟩) aM).trans U.1,(n.cell (p:=⟨g3,i,Z⟩) W).trans U.2.1,(n.cell (p:=⟨Wc,6,Z⟩) aM).trans U.2.2⟩;refine k1 x (λ_=>?_) H;clear x K;have aA:=lW (P:=pG) (t:=178) (i:=0) (vs:=#[I (i:Int),I c,I 0,I bl,I (1+(s.ops.length:Int)),bool rd,bool false,I e,I f]) hZ kG sG (by intro u hu;simp at hu;rcases hu with rfl|rfl|rfl|rfl|rfl|rfl|rfl|rfl|rfl<;>rfl) #[I (i:Int),I c,I 0,I bl,I (1+(s.ops.length:Int)),bool rd,bool false,I e,I f] rfl;have aj:=lP WA w1.1.size #[I (i:Int),I c,I 0,I bl,I (1+(s.ops.length:Int)),bool rd,bool false,I e,I f];have aJ:Bw w1 (WA.setRow w1.1.size #[I (i:Int),I c,I 0,I bl,I (1+(s.ops.length:Int)),bool rd,bool false,I e,I f]):=⟨aj.os.trans n.os,aj.tape.trans n.tape,aj.output.trans n.output,by rw[aj.size];exact n.size,λg hg=>(aj.block g oG).trans (n.block g hg)⟩;refine zP 20 178 (.tmp 10) (.tmp 43) aA ⟨(aJ.cell (p:=⟨Wc,3,Z⟩) aM).trans U.1,(aJ.cell (p:=⟨g3,i,Z⟩) W).trans U.2.1,(aJ.cell (p:=⟨Wc,6,Z⟩) aM).trans U.2.2⟩ ?_;go_wp2_with fail;go_meet;exact⟨rfl,aJ,hZ.row⟩
 case rest=>
 obtain⟨rfl,aY,aS⟩:=hcut;obtain⟨W2,bW⟩:∃y,y=wc:=⟨_,rfl⟩;subst bW;obtain⟨X,hX⟩:∃y,w1.1.size=y:=⟨_,rfl⟩;have F:=dF (O.later aY);have bT:=dF (c9.trans (aY.mono O.jf));have ax:X≠Wc:=oG;have aW:∀j (hj:j<hs.length),¬hs[j].al X:=λj hj A=>by have:=((O.host j hj (by rw[←b9];exact hj)).lt _ A).2;omega
 have ak:∀k∈eW,(v k).ownBlock≠some X:=λk hk A=>by have:=((O.row k hk).lt _ A).2;omega
 rw[hX]at aS;have ab:=dF aS;clear aY aS U bx b5;obtain⟨g0,V,bK,c0,bL,br⟩:=F.ones (k:=0) dG (show 0<hs.length by omega);have x0:=br i _ (show(rX hs s 0)[i]?=_ from mW Q (λh=>P0 (Y ⟨h.Kn,0,Z⟩)));have c8:rN hs s 0=hs.length:=rfl;rw[c8]at c0;have co:(0:Int)<=(i:Int)/\(i:Int)<(hs.length:Int):=oG;clear br bK;have aR:∀ok,s.jm i b rd ok=s.ns[i].operate bl (bif rd then s.ns[i].d.bk bl else 1+(s.ops.length:Int)) ok:=by intro ok;unfold CS.jm CS.bl;rw[ai,aE]
 have az:=dF aR;clear aR;have ae:=F.ids i hi;obtain⟨R,hR⟩:∃y,rd=y:=⟨_,rfl⟩;have HR:=dF hR;clear hR;rw[HR.out];cases R;focus
  have bI:=dF ((F.host i Q hi).write hLO hUO hSO hBW hBS ht bl (1+(s.ops.length:Int)) oG)
  have y4:=ab.cell 4;simp at y4
  go_upto_region 8 with fail
  rw[hX]
  have ap:=dF (⟨c0,x0⟩:W2.cell? ⟨Wc,0,Z⟩=Y (J (Y ⟨g0,0,Z⟩) hs.length V)/\W2.cell? ⟨g0,i,Z⟩=Y (P0 (Y ⟨hs[i].Kn,0,Z⟩)))
  have bG:fN W2.drew hs[i].Kn hs[i].P t hs[i].C hs[i].left s.ns[i]:=(F.host i Q hi).same r_ (λ_ _=>rfl) (F.tabs.below (b_.drew) F.tabs.two)
  have bV:=dF (bG.write hLO hUO hSO hBW hBS ht bl (1+(s.ops.length:Int)) oG)
  clear c0 x0 y4 bI bG
  go_cut [11,12,13] (λs11 s12 s13 wx=>∃ok,s12=I (s.jm i b rd ok).2.2/\s13=I (bif (s.jm i b rd ok).2.2==0 then s.ns[i].ops+1 else 0)/\jI hs[i].Kn hs[i].P t hs[i].C hs[i].left s.ns[i].2 ((s.jm i b rd ok).1,(s.jm i b rd ok).2.1) ok s11 W2 wx)
  case first=>
   refine eZ (S:=λw'=>w'.cell? ⟨Wc,0,Z⟩=Y (J (Y ⟨g0,0,Z⟩) hs.length V)/\w'.cell? ⟨g0,i,Z⟩=Y (P0 (Y ⟨hs[i].Kn,0,Z⟩))/\dI w' X #[I (i:Int),I c,I 0,I bl,I (1+(s.ops.length:Int)),bool rd,bool false,I e,I f] 178) (λ_=>?_) (hS:=⟨ap.1,ap.2,ab.drew⟩)
   refine dH 0 ?_;refine dH 1 ?_;refine dH 2 ?_
   refine dH 3 (v:=J (Y ⟨g0,0,Z⟩) hs.length V) ?_ (hy:=λw r=>by have A:=r.1;go_simp)
   refine dH 4 ?_
   refine dH 5 (v:=P0 (Y ⟨g0,i,Z⟩)) ?_ (hy:=λw r=>by go_simp)
   refine dH 6 (v:=P0 (Y ⟨hs[i].Kn,0,Z⟩)) ?_ (hy:=λw r=>by have A:=r.2.1;go_simp)
   refine dH 7 ?_;refine dH 8 ?_
   refine dH 9 (v:=I (1+(s.ops.length:Int))) ?_ (hy:=λw r=>by have A:=r.2.2.cell 4;simp at A;go_simp)
   refine dT 10 λK x=>?_
   (try go_simp)
   go_at_call 90
   refine bV.mono ?_
   rintro q w3 ⟨l,ok,rfl,aI⟩
   have aQ:jI hs[i].Kn hs[i].P t hs[i].C hs[i].left s.ns[i].2 ((s.jm i b rd ok).1,(s.jm i b rd ok).2.1) ok l W2 w3:=by
    rw[az.out,HR.out]
    obtain⟨k1,k2,C',l',k3,k4,k5⟩:=aI
    exact⟨k1,k2,C',l',k3,k4.pre (b_.drew),k5⟩
   rw[show s.ns[i].operate bl (1+(s.ops.length:Int)) ok=s.jm i b rd ok from by rw[az.out,HR.out];rfl]
   have L:w3.cell? ⟨Wc,0,Z⟩=Y (J (Y ⟨g0,0,Z⟩) hs.length V)/\w3.cell? ⟨g0,i,Z⟩=Y (P0 (Y ⟨hs[i].Kn,0,Z⟩))/\dI w3 X #[I (i:Int),I c,I 0,I bl,I (1+(s.ops.length:Int)),bool rd,bool false,I e,I f] 178:=by
    obtain⟨_,_,C',l',_,hx,_⟩:=aQ
    have c1:(v 0)=J (Y ⟨g0,0,Z⟩) hs.length V:=by have A:=F.cell (k:=0) dG;rw[ap.1]at A;simpa using A.symm
    exact⟨(World.cell?_of_block (a:=⟨Wc,0,Z⟩) (hx.kept.block Wc F.blk.lt (F.ni i Q))).trans ap.1,(World.cell?_of_block (a:=⟨g0,i,Z⟩) (hx.kept.block g0 bL (λh8=>F.mg 0 dG g0 (by rw[c1];rfl) i Q h8))).trans ap.2,hx.blk ab (aW i Q)⟩
   refine k1 x (λ_=>?_) L;clear x K
   refine dH 11 ?_;refine dH 12 ?_;refine dH 13 ?_;refine dH 14 ?_
   refine dT 15 λK x=>?_
   (try go_simp)
   refine kr x 16 (λK x=>?_) L
   (try go_simp)
   refine kr x 17 (λK x=>?_) L
   (try go_simp)
   refine kd x ?_ L
   go_wp2_with fail
   go_meet
   exact⟨ok,rfl,rfl,aQ⟩
  obtain⟨ok,rfl,rfl,ao⟩:=hcut
  obtain⟨w3,bY⟩:∃y,y=wc:=⟨_,rfl⟩
  subst bY
  obtain⟨l,cg⟩:∃y,y=u11:=⟨_,rfl⟩
  subst cg
 rotate_left;focus
  have bh:=dF ((F.host i Q hi).read hLO hUO hSO hBW hBS ht bl)
  go_wp2_with fail
  rw[hX]
  refine bh.mono ?_
  rintro q w3 ⟨l,ok,rfl,aI⟩
  have ao:jI hs[i].Kn hs[i].P t hs[i].C hs[i].left s.ns[i].2 ((s.jm i b rd ok).1,(s.jm i b rd ok).2.1) ok l W2 w3:=by rw[az.out,HR.out];exact aI
  rw[show s.ns[i].operate bl (s.ns[i].d.bk bl) ok=s.jm i b rd ok from by rw[az.out,HR.out];rfl]
  clear aI bh c0 x0
 all_goals
  obtain⟨d1,d2,hs',aB,ar,bp,N,bz⟩:=F.did2 Q hi ao (by have A:=b7.id ok;rw[ai]at A;exact A)
  have aN:dI w3 X #[I (i:Int),I c,I 0,I bl,I (1+(s.ops.length:Int)),bool rd,bool false,I e,I f] 178:=by
   obtain⟨_,_,C',l',_,hx,_⟩:=ao
   exact hx.blk ab (aW i Q)
  have an:∀j (hj:j<hs'.length),¬hs'[j].al X:=bz X ab.lt aW
  obtain⟨E,hE⟩:∃y,(s.jm i b rd ok).2.2=y:=⟨_,rfl⟩
  rw[hE]
  obtain⟨z,aK⟩:∃y,(bif E==0 then s.ns[i].ops+1 else 0)=y:=⟨_,rfl⟩
  rw[aK]
  have bS:=aN.set 2 (I z)
  have b2:=dM.setCell w3 ⟨X,2,Z⟩ (I z)
  have b1:base<=X:=by have:=O.jf;omega
  obtain⟨m1,m2⟩:=ar.frame b2 ax ak an b1
  have y2:=aN.cell 2;have z2:=aN.free 2;simp at y2
  have ac:=dF m1;have b0:=dF (bT.trans (bp.trans m2));have aH:=dF bS
  clear aN m1 m2 ar bp
  go_upto_region 10 with fail
  generalize w3.setCell ⟨X,2,Z⟩ (I z)=M at*
  have ci:=dF d1;have bc:=dF d2
  have ch:M.1.size=w3.1.size:=b2.size
  have aw:Hid (dZ M W2.1.size l (fY (s.jm i b rd ok).2.1)):=d1.ql (C:=λg=>g=X) (C':=λg=>g=X) (λg hg hh=>by have:=ab.lt;omega) (dR.node b2 rfl)
  clear y2 z2 d1 d2 bz
  by_cases ag:E=0
  ·have aT:(E==0)=true:=by simpa using ag
   have bv:z=(s.nd i).ops+1:=by rw[←aK,aT,ai];rfl
   have ca:=dF bv;have bM:Hid ((s.jm i b rd ok).2.2=0):=by unfold Hid;rw[hE,ag]
   clear ag bv aK hE
   go_upto_region 11 with fail
   (try rw[hX])
   have aq:Hid (dI M X #[I (i:Int),I c,I z,I bl,I (1+(s.ops.length:Int)),bool rd,bool false,I e,I f] 178):=aH.out
   obtain⟨o,a0⟩:∃y,({s with ns:=s.ns.set i (s.jm i b rd ok).1}:CS)=y:=⟨_,rfl⟩
   obtain⟨aa,a8⟩:∃y,(s.jm i b rd ok).2.1=y:=⟨_,rfl⟩
   rw[a0]at ac
   rw[a8]at aw bc
   have b6:rN hs' o 6<=2000000000:=by show o.ops.length<=_;rw[←a0];exact Nat.le_trans am.2.1 oG
   have bf:=ac.cell (k:=6) dG
   have n:Bw M (M.alloc (G #[I (i:Int),I c,I z,I bl,I (1+(s.ops.length:Int)),bool rd,bool false,I e,I f] 178)).drew:=(a_ _ _).drew
   have aG:base<=(M.alloc (G #[I (i:Int),I c,I z,I bl,I (1+(s.ops.length:Int)),bool rd,bool false,I e,I f] 178)).drew.1.size:=Nat.le_trans ac.jf n.size
   have D:=dF (ac.later n)
   have bD:(M.alloc (G #[I (i:Int),I c,I z,I bl,I (1+(s.ops.length:Int)),bool rd,bool false,I e,I f] 178)).drew.cell? ⟨Wc,6,Z⟩=Y (v 6):=D.cell (k:=6) dG
   have ah:dI M.drew X #[I (i:Int),I c,I z,I bl,I (1+(s.ops.length:Int)),bool rd,bool false,I e,I f] 178:=aq.drew
   have H:dI (M.alloc (G #[I (i:Int),I c,I z,I bl,I (1+(s.ops.length:Int)),bool rd,bool false,I e,I f] 178)).drew X #[I (i:Int),I c,I z,I bl,I (1+(s.ops.length:Int)),bool rd,bool false,I e,I f] 178:=aq.later n
   have aF:(M.alloc (G #[I (i:Int),I c,I z,I bl,I (1+(s.ops.length:Int)),bool rd,bool false,I e,I f] 178)).drew.ownsRow base 178 9 (v 6) (rN hs' o 6) (rX hs' o 6):=D.row 6 dG
   have ay:∀j u,[I (i:Int),I c,I z,I bl,I (1+(s.ops.length:Int)),bool rd,bool false,I e,I f][j]?=Y u->(M.alloc (G #[I (i:Int),I c,I z,I bl,I (1+(s.ops.length:Int)),bool rd,bool false,I e,I f] 178)).drew.cell? ((⟨M.1.size,0,Z⟩:Addr).add j)=Y u:=by
    intro j u hu;rw[Go.WideShapes.add_plain];refine(World.cell?_alloc_at _ _ _ _ sG).trans ?_;simpa using hu
   have HP:Hid (∀v' w3,w3.ownsRow base 178 9 v' (rN hs' o 6+1) (rX hs' o 6++[I (i:Int),I c,I z,I bl,I (1+(s.ops.length:Int)),bool rd,bool false,I e,I f])->(M.alloc (G #[I (i:Int),I c,I z,I bl,I (1+(s.ops.length:Int)),bool rd,bool false,I e,I f] 178)).drew.grownBy w3 (v 6).ownBlock->(∃g',v'.ownBlock=Y g'/\((v 6).ownBlock=Y g'∨(M.alloc (G #[I (i:Int),I c,I z,I bl,I (1+(s.ops.length:Int)),bool rd,bool false,I e,I f] 178)).drew.1.size<=g'/\(M.alloc (G #[I (i:Int),I c,I z,I bl,I (1+(s.ops.length:Int)),bool rd,bool false,I e,I f] 178)).drew.grownBy w3 none))->(w3.cell? ⟨Wc,6,Z⟩=Y (v 6)/\w3.frozen? ⟨Wc,6,Z⟩=false/\((dI w3 X #[I (i:Int),I c,I z,I bl,I (1+(s.ops.length:Int)),bool rd,bool false,I e,I f] 178)/\(dI (w3.setCell ⟨Wc,6,Z⟩ v') X #[I (i:Int),I c,I z,I bl,I (1+(s.ops.length:Int)),bool rd,bool false,I e,I f] 178))/\dU (w3.setCell ⟨Wc,6,Z⟩ v') Wc base (t+1) (gM v 6 v') true hs' {o with ops:=o.ops++[(⟨(i:Int),c,z,bl,1+(s.ops.length:Int),rd,false,e,f⟩:AG.As)]}/\dZ (w3.setCell ⟨Wc,6,Z⟩ v') W2.1.size l (fY aa)/\Below base w (w3.setCell ⟨Wc,6,Z⟩ v'))):=by
    intro v' w3 ho av B
    obtain⟨a1,a2,a3,a4,a5⟩:=dU.push (s':={o with ops:=o.ops++[(⟨(i:Int),c,z,bl,1+(s.ops.length:Int),rd,false,e,f⟩:AG.As)]}) (k:=6) (m:=1) dG D ho av B rfl rfl ⟨rfl,rfl⟩ (by
      intro j hj aV
      simp only[eW,List.mem_cons,List.mem_nil_iff,or_false]at hj
      rcases hj with rfl|rfl|rfl|rfl|rfl|rfl|rfl|rfl|rfl|rfl<;>first|exact⟨rfl,rfl⟩|exact absurd rfl aV) (by show(o.ops++[(⟨(i:Int),c,z,bl,1+(s.ops.length:Int),rd,false,e,f⟩:AG.As)]).length=o.ops.length+1;simp) (by show(o.ops++[(⟨(i:Int),c,z,bl,1+(s.ops.length:Int),rd,false,e,f⟩:AG.As)]).flatMap lV=o.ops.flatMap lV++_;rw[List.flatMap_append];rfl)
    have o1:dI w3 X #[I (i:Int),I c,I z,I bl,I (1+(s.ops.length:Int)),bool rd,bool false,I e,I f] 178:=H.same (av.block _ H.lt (λA=>ak 6 dG A.symm))
    exact⟨a1,a2,⟨o1,o1.same ((dM.setCell w3 ⟨Wc,6,Z⟩ v').block _ ax)⟩,a3,(aw.later n).keep a5 D.blk dG (λg9 A=>fC (D.row 6 dG) A) dG,b0.trans ((n.mono ac.jf).trans a4)⟩
   go_cut [86] (λsx wx=>∃v',dU wx Wc base (t+1) (gM v 6 v') true hs' {o with ops:=o.ops++[(⟨(i:Int),c,z,bl,1+(s.ops.length:Int),rd,false,e,f⟩:AG.As)]}/\dZ wx W2.1.size l (fY aa)/\Below base w wx)
   case first=>
    refine eZ (S:=λw'=>dI w' X #[I (i:Int),I c,I z,I bl,I (1+(s.ops.length:Int)),bool rd,bool false,I e,I f] 178) (λ_=>?_) (hS:=ah)
    refine dH 0 ?_;refine dH 1 ?_;refine dH 2 ?_;refine dH 3 ?_
    refine i4 5 X 0 [I (i:Int),I c,I z,I bl,I (1+(s.ops.length:Int)),bool rd,bool false,I e,I f] ?_ (λw r=>r.range rfl)
    refine jC [4,6] ?_
    refine .cons rfl (λK x=>?_) ?_
    focus
     (try go_simp)
     refine kr x 6 (λK x=>?_) ah
    rotate_left
    focus
     refine .cons rfl (λK x=>?_) .nil
     (try go_simp)
     refine kr x 4 (λK x=>?_) H
    all_goals
     (try go_simp)
     refine kr x 7 (λK x=>?_) H
     refine lG rfl (.tmp 81) (.tmp 83) 61 rfl base 178 i0 (.agg #[I 0,I 0,I 0,I 0,I 0,.bool false,.bool false,I 0,I 0]) 9 64 underlying61 bw be bA bu rfl dG (v 6) (rN hs' o 6) (rX hs' o 6) eG aF ⟨M.1.size,0,Z⟩ 1 1 [I (i:Int),I c,I z,I bl,I (1+(s.ops.length:Int)),bool rd,bool false,I e,I f] oG eG rfl ay (by intro u hu;simp at hu;rcases hu with rfl|rfl|rfl|rfl|rfl|rfl|rfl|rfl|rfl<;>rfl) xG oG aG ?_
     intro v' w3 ad W B
     obtain⟨ce,bJ,rfl⟩:=eK ad
     obtain⟨bN,cd,L,aL⟩:=HP.out _ w3 ad W B
     clear ad W B
     refine k1 x (λ_=>?_) L.1;clear x K;refine dH 8 ?_;refine dH 9 ?_
     refine dT 10 λK x=>?_
     (try go_simp)
     refine kd x ?_ L.2
     go_wp2_with fail
     go_meet
     exact⟨_,aL⟩
   case rest=>
   obtain⟨cn,bm,bo,bg⟩:=hcut
   clear HP ay aF H ah bD D aG n bf b6
   obtain⟨W6,bH⟩:∃y,y=wc:=⟨_,rfl⟩
   subst bH
   have aO:eR (hs'.length:Int) aa:=by
    have h8:=bc.out
    have h7:(hs'.length:Int)=s.ns[i].2:=by rw[ae.2.1,aB,b9]
    rw[h7];exact h8
   have cj:aa.length<=100:=by have A:=b7.ln ok;rw[←a8];exact A
   have bQ:=dF (uY Wc base (t+1) true hs' _ l aa W2.1.size W6 _ bm bo aO (by show o.4.length+_<=_;rw[←a0];show s.4.length+_<=_;omega))
   have bR:=dF bg
   clear bm bo bg aO
   go_wp2_with fail
   refine bQ.mono ?_
   rintro q w7 ⟨rfl,bb,bF,_⟩
   have ck:(E==3)=false:=by rw[show E=0 by simpa using aT];rfl
   have a9:({({o with ops:=o.ops++[(⟨(i:Int),c,z,bl,1+(s.ops.length:Int),rd,false,e,f⟩:AG.As)]}:CS) with net:=o.4++aa}:CS)=s.oper i b rd ok:=by
    unfold CS.oper
    rw[if_pos bM.out,a8,←a0]
    unfold CS.asd CS.bl
    rw[bi,aU,aZ,aE,←ca.out]
   have bn:CA w7 Wc base (t+1) true hs' (s.oper i b rd ok):=by rw[←a9];exact bb
   have cb:=dF bn;have bX:=dF (bR.trans bF)
   clear a9 bb bF bn
   go_wp2_with fail
   refine bodyPost_end (v:=.tuple #[]) (by simp[results,results56,go_sem]) rfl ?_
   have hR:=HR.out;subst hR
   exact⟨rfl,ok,hs',aB,cb,bX,N.1,by first|(rw[ai];exact N.2)|(rw[←ae.2.1];exact N.2)⟩
  have aT:(E==0)=false:=by simpa using ag
  have ba:Hid (¬(s.jm i b rd ok).2.2=0):=by unfold Hid;rw[hE];exact ag
  have HE:=dF hE
  obtain⟨b3,e3⟩:∃y,(E==3)=y:=⟨_,rfl⟩
  have bs:=dF e3
  clear ag aK hE
  cases b3
  all_goals
   try
    go_wp2_with fail
    refine bodyPost_end (v:=.tuple #[]) (by simp[results,results56,go_sem]) rfl ?_
    have hR:=HR.out;subst hR
    exact⟨rfl,ok,hs',aB,⟨_,by show dU _ _ _ _ _ _ _ (s.oper i b _ ok);unfold CS.oper;rw[if_neg ba.out,if_neg (λA=>by first|(simp at A;done)|(rw[HE.out]at A;have h8:=bs.out;simp[A.1]at h8))];exact ac⟩,b0,N.1,by first|(rw[ai];exact N.2)|(rw[←ae.2.1];exact N.2)⟩
 have aD:=aH.set 2 (I 0);have bB:=dM.setCell M ⟨X,2,Z⟩ (I 0);have bd:=aD.set 6 (bool true);have bt:=dM.setCell (M.setCell ⟨X,2,Z⟩ (I 0)) ⟨X,6,Z⟩ (bool true);obtain⟨m1,m2⟩:=ac.frame bB ax ak an b1;obtain⟨m3,m4⟩:=m1.frame bt ax ak an b1;have y2:=aH.cell 2;have z2:=aH.free 2;have y6:=aD.cell 6;have z6:=aD.free 6;simp at y2 y6;have au:=dF m3;have cf:=dF (b0.trans (m2.trans m4));have c5:=dF bd;have aP:=dF ((aw.ql (C:=λg=>g=X) (C':=λg=>g=X) (λg hg hh=>by have:=ab.lt;omega) (dR.node bB rfl)).ql (C:=λg=>g=X) (C':=λg=>g=X) (λg hg hh=>by have:=ab.lt;omega) (dR.node bt rfl));clear m1 m2 m3 m4 aD bd;go_upto_region 16 with fail;(try rw[hX]);clear y2 z2 y6 z6;generalize (M.setCell ⟨X,2,Z⟩ (I 0)).setCell ⟨X,6,Z⟩ (bool true)=W5 at*;have aq:Hid (dI W5 X #[I (i:Int),I c,I 0,I bl,I (1+(s.ops.length:Int)),bool rd,bool true,I e,I f] 178):=c5.out;obtain⟨o,a0⟩:∃y,({s with ns:=s.ns.set i (s.jm i b rd ok).1}:CS)=y:=⟨_,rfl⟩;obtain⟨aa,a8⟩:∃y,(s.jm i b rd ok).2.1=y:=⟨_,rfl⟩;rw[a0]at au;rw[a8]at aP;have a9:({o with ops:=o.ops++[(⟨(i:Int),c,0,bl,1+(s.ops.length:Int),rd,true,e,f⟩:AG.As)]}:CS)=s.oper i b rd ok:=by unfold CS.oper;rw[if_neg ba.out,if_pos ⟨by rw[HE.out];simpa using bs.out,HR⟩,←a0];unfold CS.asd CS.bl;rw[bi,aU,aZ,aE]
 have bO:=dF a9;clear a9;have b6:rN hs' o 6<=2000000000:=by show o.ops.length<=_;rw[←a0];exact Nat.le_trans am.2.1 oG
 have bf:=au.cell (k:=6) dG;have n:Bw W5 (W5.alloc (G #[I (i:Int),I c,I 0,I bl,I (1+(s.ops.length:Int)),bool rd,bool true,I e,I f] 178)).drew:=(a_ _ _).drew;have aG:base<=(W5.alloc (G #[I (i:Int),I c,I 0,I bl,I (1+(s.ops.length:Int)),bool rd,bool true,I e,I f] 178)).drew.1.size:=Nat.le_trans au.jf n.size;have D:=dF (au.later n);have bD:(W5.alloc (G #[I (i:Int),I c,I 0,I bl,I (1+(s.ops.length:Int)),bool rd,bool true,I e,I f] 178)).drew.cell? ⟨Wc,6,Z⟩=Y (v 6):=D.cell (k:=6) dG;have ah:dI W5.drew X #[I (i:Int),I c,I 0,I bl,I (1+(s.ops.length:Int)),bool rd,bool true,I e,I f] 178:=aq.drew;have H:dI (W5.alloc (G #[I (i:Int),I c,I 0,I bl,I (1+(s.ops.length:Int)),bool rd,bool true,I e,I f] 178)).drew X #[I (i:Int),I c,I 0,I bl,I (1+(s.ops.length:Int)),bool rd,bool true,I e,I f] 178:=aq.later n;have aF:(W5.alloc (G #[I (i:Int),I c,I 0,I bl,I (1+(s.ops.length:Int)),bool rd,bool true,I e,I f] 178)).drew.ownsRow base 178 9 (v 6) (rN hs' o 6) (rX hs' o 6):=D.row 6 dG;have ay:∀j u,[I (i:Int),I c,I 0,I bl,I (1+(s.ops.length:Int)),bool rd,bool true,I e,I f][j]?=Y u->(W5.alloc (G #[I (i:Int),I c,I 0,I bl,I (1+(s.ops.length:Int)),bool rd,bool true,I e,I f] 178)).drew.cell? ((⟨W5.1.size,0,Z⟩:Addr).add j)=Y u:=by intro j u hu;rw[Go.WideShapes.add_plain];refine(World.cell?_alloc_at _ _ _ _ sG).trans ?_;simpa using hu
 have HP:Hid (∀v' w3,w3.ownsRow base 178 9 v' (rN hs' o 6+1) (rX hs' o 6++[I (i:Int),I c,I 0,I bl,I (1+(s.ops.length:Int)),bool rd,bool true,I e,I f])->(W5.alloc (G #[I (i:Int),I c,I 0,I bl,I (1+(s.ops.length:Int)),bool rd,bool true,I e,I f] 178)).drew.grownBy w3 (v 6).ownBlock->(∃g',v'.ownBlock=Y g'/\((v 6).ownBlock=Y g'∨(W5.alloc (G #[I (i:Int),I c,I 0,I bl,I (1+(s.ops.length:Int)),bool rd,bool true,I e,I f] 178)).drew.1.size<=g'/\(W5.alloc (G #[I (i:Int),I c,I 0,I bl,I (1+(s.ops.length:Int)),bool rd,bool true,I e,I f] 178)).drew.grownBy w3 none))->(w3.cell? ⟨Wc,6,Z⟩=Y (v 6)/\w3.frozen? ⟨Wc,6,Z⟩=false/\((dI w3 X #[I (i:Int),I c,I 0,I bl,I (1+(s.ops.length:Int)),bool rd,bool true,I e,I f] 178)/\(dI (w3.setCell ⟨Wc,6,Z⟩ v') X #[I (i:Int),I c,I 0,I bl,I (1+(s.ops.length:Int)),bool rd,bool true,I e,I f] 178))/\dU (w3.setCell ⟨Wc,6,Z⟩ v') Wc base (t+1) (gM v 6 v') true hs' {o with ops:=o.ops++[(⟨(i:Int),c,0,bl,1+(s.ops.length:Int),rd,true,e,f⟩:AG.As)]}/\dZ (w3.setCell ⟨Wc,6,Z⟩ v') W2.1.size l (fY aa)/\Below base w (w3.setCell ⟨Wc,6,Z⟩ v'))):=by
  intro v' w3 ho av B;obtain⟨a1,a2,a3,a4,a5⟩:=dU.push (s':={o with ops:=o.ops++[(⟨(i:Int),c,0,bl,1+(s.ops.length:Int),rd,true,e,f⟩:AG.As)]}) (k:=6) (m:=1) dG D ho av B rfl rfl ⟨rfl,rfl⟩ (by intro j hj aV;simp only[eW,List.mem_cons,List.mem_nil_iff,or_false]at hj;rcases hj with rfl|rfl|rfl|rfl|rfl|rfl|rfl|rfl|rfl|rfl<;>first|exact⟨rfl,rfl⟩|exact absurd rfl aV) (by show(o.ops++[(⟨(i:Int),c,0,bl,1+(s.ops.length:Int),rd,true,e,f⟩:AG.As)]).length=o.ops.length+1;simp) (by show(o.ops++[(⟨(i:Int),c,0,bl,1+(s.ops.length:Int),rd,true,e,f⟩:AG.As)]).flatMap lV=o.ops.flatMap lV++_;rw[List.flatMap_append];rfl)
  have o1:dI w3 X #[I (i:Int),I c,I 0,I bl,I (1+(s.ops.length:Int)),bool rd,bool true,I e,I f] 178:=H.same (av.block _ H.lt (λA=>ak 6 dG A.symm));exact⟨a1,a2,⟨o1,o1.same ((dM.setCell w3 ⟨Wc,6,Z⟩ v').block _ ax)⟩,a3,(aP.later n).keep a5 D.blk dG (λg9 A=>fC (D.row 6 dG) A) dG,cf.trans ((n.mono au.jf).trans a4)⟩
 refine id ?_;case _=>
  refine eZ (S:=λw'=>dI w' X #[I (i:Int),I c,I 0,I bl,I (1+(s.ops.length:Int)),bool rd,bool true,I e,I f] 178) (λ_=>?_) (hS:=ah);refine dH 0 ?_;refine dH 1 ?_;refine dH 2 ?_;refine dH 3 ?_;refine i4 5 X 0 [I (i:Int),I c,I 0,I bl,I (1+(s.ops.length:Int)),bool rd,bool true,I e,I f] ?_ (λw r=>r.range rfl);refine jC [4,6] ?_;refine .cons rfl (λK x=>?_) ?_;focus
   (try go_simp)
   refine kr x 6 (λK x=>?_) ah
  rotate_left;focus
   refine .cons rfl (λK x=>?_) .nil
   (try go_simp)
   refine kr x 4 (λK x=>?_) H
  all_goals
   (try go_simp)
   refine kr x 7 (λK x=>?_) H
   refine lG rfl (.tmp 102) (.tmp 104) 61 rfl base 178 i0 (.agg #[I 0,I 0,I 0,I 0,I 0,.bool false,.bool false,I 0,I 0]) 9 64 underlying61 bw be bA bu rfl dG (v 6) (rN hs' o 6) (rX hs' o 6) eG aF ⟨W5.1.size,0,Z⟩ 1 1 [I (i:Int),I c,I 0,I bl,I (1+(s.ops.length:Int)),bool rd,bool true,I e,I f] oG eG rfl ay (by intro u hu;simp at hu;rcases hu with rfl|rfl|rfl|rfl|rfl|rfl|rfl|rfl|rfl<;>rfl) xG oG aG ?_
   intro v' w3 ad W B
   obtain⟨ce,bJ,rfl⟩:=eK ad
   obtain⟨bN,cd,L,aL⟩:=HP.out _ w3 ad W B
   clear ad W B
   refine k1 x (λ_=>?_) L.1;clear x K;refine dH 8 ?_;refine dH 9 ?_
   refine dT 10 λK x=>?_
   (try go_simp)
   refine kd x ?_ L.2
   go_wp2_with fail
   refine bodyPost_end (v:=.tuple #[]) (by simp[results,results56,go_sem]) rfl ?_
   have hR:=HR.out;subst hR
   exact⟨rfl,ok,hs',aB,⟨_,by show dU _ _ _ _ _ _ _ (s.oper i b _ ok);rw[←bO.out];exact aL.1⟩,aL.2.2,N.1,by first|(rw[ai];exact N.2)|(rw[←ae.2.1];exact N.2)⟩
def CS.run(s:CS)(i:Nat)(n':AG.Nd):CS:={s with ns:=s.ns.set i n',lv:=s.3.set i (s.3.getD i 0+1)}
def CS.drop(s:CS)(k:Nat):CS:={s with net:=s.4.take k++s.4.drop (k+1)}
def CS.come(s:CS)(j:Nat)(m:AG.Ms)(ok:Bool):CS:=(s.put j ((s.nd j).receive m ok)).look j
def QD(s:CS)(i:Nat):(s.tell i).ns=s.ns/\(s.tell i).4=s.4:=by
 unfold CS.tell;split;·exact⟨rfl,rfl⟩
 ·split<;>exact⟨rfl,rfl⟩
def E7(s:CS)(j:Nat)(m:AG.Ms)(ok:Bool):(s.come j m ok).ns.length=s.ns.length/\s.4.length<=(s.come j m ok).4.length:=by unfold CS.come CS.look;refine⟨by simp[CS.put],?_⟩;show _<=((s.put j ((s.nd j).receive m ok)).tell j).4.length;rw[(QD _ _).2];simp[CS.put]
def CS.cm(s:CS)(k:Nat):CS:=match s.4[k]? with
 |none=>s
 |some z=>s.come z.1.toNat z.2 true
def CS.lh(s:CS):Nat->CS
 |0=>s
 |k+1=>(s.lh k).cm k
def CS.pass(s:CS):CS:={s.lh s.4.length with net:=(s.lh s.4.length).4.drop s.4.length}
def CS.gu:Nat->CS->CS
 |0,s=>s
 |m+1,s=>bif decide (s.4.length=0) then s else CS.gu m s.pass
def FV{w w1:World}{Wc base t:Nat}{v:Nat->Value}{f:Bool}{hs:List Ho}{s:CS}{n:Nat}{x:Value}(h:dU w Wc base t v f hs s)(d:Bw w w1)(r:w1.ownsRow w.1.size 174 2 x (s.4.drop n).length ((s.4.drop n).flatMap fG)):dU (w1.setCell ⟨Wc,5,Z⟩ x) Wc base t (gM v 5 x) f hs {s with net:=s.4.drop n}/\Below base w (w1.setCell ⟨Wc,5,Z⟩ x):=by have a:=dM.setCell w1 ⟨Wc,5,Z⟩ x;have u:=h.blk.lt;have o:dI w1 Wc (jS v s.nb f) 63:=h.blk.later d;have i:=o.set 5 x;rw[uP v s.nb f _ 5 dG]at i;have e:∀g,x.ownBlock=some g->w.1.size<=g:=λg b=>(r.lt g b).1;have y:dQ (λg=>g=Wc∨(v 5).ownBlock=some g) w (w1.setCell ⟨Wc,5,Z⟩ x):=⟨a.os.trans d.os,a.tape.trans d.tape,a.output.trans d.output,by rw[a.size];exact d.size,λg b p=>(a.block g (λq=>p (.inl q))).trans (d.block g b)⟩;have c:(w1.setCell ⟨Wc,5,Z⟩ x).ownsRow base 174 2 x (s.4.drop n).length ((s.4.drop n).flatMap fG):=dW (pB r h.jf) (λg b=>a.block g (λp=>by have q:=e g b;have z:g=Wc:=p;omega));exact dU.turn (k:=5) (v':=gM v 5 x) (f':=f) (s':={s with net:=s.4.drop n}) dG h y (λj _ l=>pJ l) i (by rw[mE];exact c) (λg b=>by rw[mE]at b;exact .inr (e g b)) rfl rfl ⟨rfl,rfl⟩ (by intro j l m;simp only[eW,List.mem_cons,List.mem_nil_iff,or_false]at l;rcases l with rfl|rfl|rfl|rfl|rfl|rfl|rfl|rfl|rfl|rfl<;>first|exact⟨rfl,rfl⟩|exact absurd rfl m)
end Go.Proofs.YtdcainmlcpafbaaGreatDoor
