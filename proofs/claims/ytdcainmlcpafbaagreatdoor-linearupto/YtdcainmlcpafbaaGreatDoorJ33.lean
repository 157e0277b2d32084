import Derived.Test.YtdcainmlcpafbaaGreatDoorJ32
set_option linter.all false
set_option maxHeartbeats 8000000
set_option maxRecDepth 20000
namespace Go.Proofs.YtdcainmlcpafbaaGreatDoor
open Go.RowKit
open Value renaming slice->J,pointer->P0
open Tryz
open Tryz renaming prog->pG
open IntKind renaming i64->T
open Option renaming none->Z,some->Y
open Obj renaming cells->G
open Value (bool)
structure kO(w:World)(Wc base:Nat)(v:Nat->Value)(nb:Int)(f:Bool)(N:Nat->Nat)(X:Nat->List Value):Prop where
 blk:dC w Wc (jA v nb f) 63
 row:∀k∈eR,w.ownsRow base (rT k) (rS k) (v k) (N k) (X k)
 sep:∀g,(v 3).ownBlock=some g->(v 10).ownBlock≠some g
section
variable {w w':World} {Wc base t t':Nat} {v:Nat->Value} {nb:Int} {f:Bool} {N:Nat->Nat} {X:Nat->List Value} {hs:List Ho} {s:CS}
def dR.cr(h:dR w Wc base t v f hs s):kO w Wc base v s.nb f (rN hs s) (rX hs s):=⟨h.blk,h.row,h.sep⟩
def kO.off(h:kO w Wc base v nb f N X){k:Nat}(b:k∈eR):(v k).ownBlock≠some Wc:=by intro d;obtain⟨c,a⟩:=eU (h.row k b) d;rw[h.blk.blk]at a;simp at a;exact EJ k b a.2.symm
def kO.rsep(h:kO w Wc base v nb f N X){k j:Nat}(e:k∈eR)(i:j∈eR)(c:k≠j){g:Nat}(d:(v k).ownBlock=some g):(v j).ownBlock≠some g:=by
 intro b;obtain⟨n,l⟩:=eU (h.row k e) d;obtain⟨m,a⟩:=eU (h.row j i) b;rw[l]at a;simp at a;rcases D6 k e j i c a.2 with⟨rfl,rfl⟩|⟨rfl,rfl⟩;·exact h.sep g d b
 ·exact h.sep g b d
def kO.later(h:kO w Wc base v nb f N X)(b:Below w.heap.size w w'):kO w' Wc base v nb f N X:=⟨h.blk.later b,λk a=>dQ (h.row k a) (λg c=>b.block g ((h.row k a).lt g c).2),h.sep⟩
def kO.cell(h:kO w Wc base v nb f N X){k:Nat}(a:k∈eR):w.cell? ⟨Wc,k,Z⟩=Y (v k):=(h.blk.cell k).trans (uK v nb f k a)
def kO.jw{k g n c:Nat}(t:k∈eR)(h:kO w Wc base v nb f N X)(o:v k=J (Y ⟨g,0,Z⟩) n c)(j:Nat)(u:Value):kO (w.setCell ⟨g,j,Z⟩ u) Wc base v nb f N (λi=>if i=k then(X k).set j u else X i)/\dI g w (w.setCell ⟨g,j,Z⟩ u)/\w.frozen? ⟨g,j,Z⟩=false:=by
 have r:=dI.setCell w ⟨g,j,Z⟩ u;have b:=h.row k t;have q:n=N k:=by rw[o]at b;obtain⟨a,A,d⟩:=dZ b;cases d;rfl
 subst q;have m:(v k).ownBlock=some g:=by rw[o];rfl
 have p:g≠Wc:=λd=>h.off t (by rw[m,d]);rw[o]at b;have z:=(b.stored j u).1;obtain⟨x,l⟩:=eU b (g:=g) rfl;refine⟨⟨h.blk.same (r.block Wc (λd=>p d.symm)),λi hi=>?_,h.sep⟩,r,by simp[World.frozen?,l]⟩;by_cases e:i=k;·subst e;rw[if_pos rfl,o];exact z
 ·rw[if_neg e];exact dQ (h.row i hi) (λy s=>r.block y (λd=>h.rsep hi t e s (by rw[m,d])))
def kO.at{k:Nat}(b:k∈eR)(h:kO w Wc base v nb f N X)(d:0<N k):∃g a,v k=J (Y ⟨g,0,Z⟩) (N k) a/\w.cell? ⟨Wc,k,Z⟩=Y (J (Y ⟨g,0,Z⟩) (N k) a)/\g<w.heap.size/\∀j u,(X k)[j]?=Y u->w.cell? ⟨g,j,Z⟩=Y u:=by obtain⟨g,a,e,c,i⟩:=(eL.gy (h.row k b)).at d;exact⟨g,a,e,by rw[←e];exact h.cell b,c,i⟩
def dR.renew{i:Nat}(h:dR w Wc base t v f hs s)(hi:i<hs.length)(W:i<s.ns.length){c:Ho}{n':AG.Nd}{Q:Int}(U:t<=t')(N:w.heap.size<=w'.heap.size)(S:kO w' Wc base v s.nb f (rN (hs.set i c) {s with ns:=s.ns.set i n',lv:=s.lv.set i Q}) (rX (hs.set i c) {s with ns:=s.ns.set i n',lv:=s.lv.set i Q}))(H:∀g,g<w.heap.size->g≠Wc->(∀k∈eR,(v k).ownBlock≠some g)->w'.heap[g]?=w.heap[g]?)(R:dW w')(V:fO w' c.Kn c.P t' c.C c.left n')(E:∀g,c.al g->w.heap.size<=g)(z:n'.id=s.ns[i].id/\n'.nodes=s.ns[i].nodes/\n'.nb=s.ns[i].nb):dR w' Wc base t' v f (hs.set i c) {s with ns:=s.ns.set i n',lv:=s.lv.set i Q}:=by
 have l:∀j (m:j<(hs.set i c).length),∀g,(hs.set i c)[j].al g->(j=i/\c.al g)∨(j≠i/\∃e:j<hs.length,hs[j].al g):=by
  intro j m g n;by_cases d:j=i;·subst d;simp only[List.getElem_set_self]at n;exact .inl ⟨rfl,n⟩
  ·rw[List.getElem_set_ne (λy=>d y.symm)]at n;exact .inr ⟨d,by simpa using m,n⟩
 refine⟨S.blk,S.row,h.sep,by simp[h.hl],λj m e=>?_,λa b X H D g M F=>?_,λk q g n j m p=>?_,λj m p=>?_,⟨h.low.1,h.low.2.1,λj m g p=>?_⟩,by simp[h.ll],by simp[h.n5],h.nb,R,?_⟩
 ·by_cases d:j=i;·subst d;simp only[List.getElem_set_self];exact V
  ·simp only[List.getElem_set_ne (λy=>d y.symm)];have A:j<hs.length:=by simpa using m
   have u:j<s.ns.length:=by simpa using e
   have y:=h.host j A u;exact(y.same N (λg n=>H g (y.lt g n).2 (λL=>h.ng j A (L ▸ n)) (λk q L=>h.lq k q g L j A n)) R).up U
 ·rcases l a X g M with⟨rfl,o⟩|⟨o,B,x⟩
  ·rcases l b H g F with⟨rfl,_⟩|⟨O,r,K⟩;·exact D rfl
   ·have:=((h.host b r (by rw[←h.hl];exact r)).lt g K).2;have:=E g o;omega
  ·rcases l b H g F with⟨rfl,O⟩|⟨O,r,K⟩;·have:=((h.host a B (by rw[←h.hl];exact B)).lt g x).2;have:=E g O;omega
   ·exact h.ap a b B r D g x K
 ·rcases l j m g p with⟨rfl,o⟩|⟨o,e,x⟩;·have:=((h.row k q).lt g n).2;have:=E g o;omega
  ·exact h.lq k q g n j e x
 ·rcases l j m Wc p with⟨rfl,o⟩|⟨o,e,x⟩;·have:=h.blk.lt;have:=E _ o;omega
  ·exact h.ng j e x
 ·rcases l j m g p with⟨rfl,o⟩|⟨o,e,x⟩;·have:=h.jd;have:=E g o;omega
  ·exact h.low.2.2 j e g x
 ·intro j m;have u:j<s.ns.length:=by simpa using m
  by_cases d:j=i;·subst d;simp only[List.getElem_set_self,List.length_set];have:=h.ids j u;rw[z.1,z.2.1,z.2.2];exact this
  ·simp only[List.getElem_set_ne (λy=>d y.symm),List.length_set];exact h.ids j u
end
def lZ{α:Type}{l:List α}{i:Nat}(h:i<l.length)(f:α->Value):(l.map f)[i]?=Y (f l[i]):=by rw[List.getElem?_map,List.getElem?_eq_getElem h];rfl
def OD(Wc base t:Nat)(hs:List Ho)(s:CS)(i:Nat)(keep:Int)(w:World)(h:CA w Wc base t true hs s)(hi:i<s.ns.length)(ht:t+1<=1000000)(aE:∀(bh:i<s.lv.length),0<=s.lv[i]/\s.lv[i]<=1000000000):Calls pG 49 #[P0 (Y ⟨Wc,0,Z⟩),I (i:Int),I keep] w λq w'=>q=.returned (.tuple #[])/\∃n' hs',hs'.length=hs.length/\Cr (s.nd i) n'/\CA w' Wc base (t+1) true hs' {s with ns:=s.ns.set i n',lv:=s.lv.set i (s.lv.getD i 0+1)}/\Below base w w':=by
 obtain⟨v,h⟩:=h;have A:i<hs.length:=by rw[h.hl];exact hi
 have aj:i<s.lv.length:=by rw[h.ll.1];exact hi
 have bl:=h.n5;have bf:=h.hl;have aX:s.nd i=s.ns[i]:=CS.lg hi;have aO:s.lv.getD i 0=s.lv[i]:=by rw[List.getD_eq_getElem?_getD,List.getElem?_eq_getElem aj];rfl
 have aJ:=aE aj;rw[aO];obtain⟨r,am⟩:∃y,s.lv[i]=y:=⟨_,rfl⟩;rw[am]at aJ⊢;have HH:=dA h;have c:=dA h.cr;obtain⟨g2,bb,bg,c2,bo,N⟩:=c.at (k:=2) dG (show 0<hs.length by omega);have x2:=N i _ (lZ A (λh=>P0 (Y ⟨h.P.H,0,Z⟩)));have ak:rN hs s 2=hs.length:=rfl;rw[ak]at c2;have bp:(0:Int)<=(i:Int)/\(i:Int)<(hs.length:Int):=oG;have aZ:(0:Int)<=(i:Int)/\(i:Int)<(s.lv.length:Int):=oG;have aF:=dA ((h.host i A hi).nd.ni oG keep);have M:=h.ids i hi;clear h N aE;go_enter func49,ntmps49;go_wp2_with fail;refine aF.mono ?_;rintro q w1 ⟨rfl,C,a9⟩;clear aF c2 x2;have au:=dA (c.later a9);have av:=dA C;have Q:=dA a9;have s1:=a9.size;clear C a9;obtain⟨g1,b9,O,c1,bk,aG⟩:=au.at (k:=1) dG (show 0<hs.length by omega);have x1:=aG i _ (lZ A (λh=>P0 (Y ⟨h.P.D,0,Z⟩)));have ao:rN hs s 1=hs.length:=rfl;rw[ao]at c1;obtain⟨W,p2,p3⟩:=au.jw (k:=1) dG O i (P0 (Y ⟨w.heap.size+1,0,Z⟩));have ar:=dA W;have B:=dA p2;have bd:g1<w.heap.size:=by have b:=((c.row 1 dG).lt g1 (by rw[O];rfl)).2;exact b
 clear aG W p2;go_upto_region 2 with fail;generalize aR:w1.setCell ⟨g1,i,Z⟩ (P0 (Y ⟨w.heap.size+1,0,Z⟩))=W2 at*;clear c1 x1 p3 aR;obtain⟨j,aP,o,c2,b8,N⟩:=ar.at (k:=2) dG (show 0<hs.length by omega);have x2:=N i _ (show((rX hs s 2))[i]?=_ from lZ A (λh=>P0 (Y ⟨h.P.H,0,Z⟩)));rw[ak]at c2;obtain⟨W,p2,p3⟩:=ar.jw (k:=2) dG o i (P0 (Y ⟨w.heap.size+2,0,Z⟩));have L:=dA W;have u:=dA p2;have b6:j<w.heap.size:=by have b:=((c.row 2 dG).lt j (by rw[o];rfl)).2;exact b
 clear N W p2;go_upto_region 3 with fail;generalize aU:W2.setCell ⟨j,i,Z⟩ (P0 (Y ⟨w.heap.size+2,0,Z⟩))=F at*;clear c2 x2 p3 aU;have z2:W2.heap.size=w1.heap.size:=B.size;have z3:F.heap.size=W2.heap.size:=u.size;have ab:Hid (qM F s.ns[i] t w.heap.size (w.heap.size+1) (w.heap.size+2) w.heap.size w.heap.size):=av.same oG (λg V _=>(u.block g oG).trans (B.block g oG));have a5:dW F:=by
  have aK:=HH.low;have a1:g1≠0/\g1≠1:=by have b:=((c.row 1 dG).lt g1 (by rw[O];rfl)).1;omega
  have a2:j≠0/\j≠1:=by have b:=((c.row 2 dG).lt j (by rw[o];rfl)).1;omega
  have t1:=HH.tabs.below Q HH.tabs.two;exact(t1.below (B.below oG) (Nat.le_refl 2)).below (u.below oG) (Nat.le_refl 2)
 have al:dW F.drew:=a5.below (b_.drew) a5.two;have a3:=dA ((ab.same (w':=F.drew) r_ (λ_ _ _=>rfl)).new oG al (by show w.heap.size<=F.heap.size;omega) (by have:=HH.low;have:=HH.jd;omega));rw[M.1,M.2.1,M.2.2]at a3;obtain⟨f,m,bc,ai,aB,aa⟩:=L.at (k:=1) dG (show 0<hs.length by omega);have aA:=aa i (P0 (Y ⟨w.heap.size+1,0,Z⟩)) (by show((rX hs s 1).set i (P0 (Y ⟨w.heap.size+1,0,Z⟩)))[i]?=_;rw[List.getElem?_set_self (by show i<(hs.map _).length;simpa using A)]);rw[ao]at ai;have ad:=L.cell (k:=0) dG;obtain⟨a0,X,aH⟩:=dZ (L.row 0 dG);have az:rN hs s 0=hs.length:=rfl;rw[aH,az]at ad;have ae:=L.blk.cell 4;simp at ae;have aM:(s.ns.length:Int)=(hs.length:Int):=oG;rw[aM]at a3;have gG:=dA (⟨ai,aA,ad,ae⟩:F.cell? ⟨Wc,1,Z⟩=Y (J (Y ⟨f,0,Z⟩) hs.length m)/\F.cell? ⟨f,i,Z⟩=Y (P0 (Y ⟨w.heap.size+1,0,Z⟩))/\F.cell? ⟨Wc,0,Z⟩=Y (J a0 hs.length X)/\F.cell? ⟨Wc,4,Z⟩=Y (I s.nb));clear aa ai aA ad ae;go_cut [8,9] (λs8 s9 wx=>∃Kn Nd Mp C' n',s8=P0 (Y ⟨Kn,0,Z⟩)/\s9=I 0/\fO wx Kn ⟨w.heap.size,Nd,Mp,w.heap.size+1,w.heap.size+2,w.heap.size⟩ (t+1) C' (-1) n'/\Cr s.ns[i] n'/\(∀g,C' g∨g=Kn->w.heap.size<=g)/\Below F.heap.size F wx);case first=>refine eY (S:=λw'=>w'.cell? ⟨Wc,1,Z⟩=Y (J (Y ⟨f,0,Z⟩) hs.length m)/\w'.cell? ⟨f,i,Z⟩=Y (P0 (Y ⟨w.heap.size+1,0,Z⟩))/\w'.cell? ⟨Wc,0,Z⟩=Y (J a0 hs.length X)/\w'.cell? ⟨Wc,4,Z⟩=Y (I s.nb)) (λ_=>?_) (hS:=gG);refine dB 0 ?_;refine dB 1 ?_;refine dB 2 ?_;refine dB 3 ?_;refine dB 4 (v:=J a0 hs.length X) ?_ (hy:=λw n=>by have b:=n.2.2.1;go_simp);refine dB 5 ?_;refine dB 6 ?_;refine dB 7 ?_;refine dB 8 ?_;refine dB 9 (v:=I s.nb) ?_ (hy:=λw n=>by have b:=n.2.2.2;go_simp);refine dB 10 ?_;refine dB 11 ?_;refine dB 12 ?_;refine dB 13 (v:=J (Y ⟨f,0,Z⟩) hs.length m) ?_ (hy:=λw n=>by have b:=n.1;go_simp);refine dB 14 ?_;refine dB 15 (v:=P0 (Y ⟨f,i,Z⟩)) ?_ (hy:=λw n=>by go_simp);refine dB 16 (v:=P0 (Y ⟨w.heap.size+1,0,Z⟩)) ?_ (hy:=λw n=>by have b:=n.2.1;go_simp);refine dF 17 λK hK=>?_;(try go_simp);go_at_call 66;refine a3.mono ?_;rintro q w4 ⟨Kn,Nd,Mp,C',n',rfl,a6,C,a7,aY⟩;have d:Below F.heap.size F w4:=b_.drew.trans aY;have ah:=L.blk.lt;have ag:w4.cell? ⟨Wc,1,Z⟩=Y (J (Y ⟨f,0,Z⟩) hs.length m)/\w4.cell? ⟨f,i,Z⟩=Y (P0 (Y ⟨w.heap.size+1,0,Z⟩))/\w4.cell? ⟨Wc,0,Z⟩=Y (J a0 hs.length X)/\w4.cell? ⟨Wc,4,Z⟩=Y (I s.nb):=⟨(d.cell (p:=⟨Wc,1,Z⟩) ah).trans gG.1,(d.cell (p:=⟨f,i,Z⟩) aB).trans gG.2.1,(d.cell (p:=⟨Wc,0,Z⟩) ah).trans gG.2.2.1,(d.cell (p:=⟨Wc,4,Z⟩) ah).trans gG.2.2.2⟩;refine k1 hK (λ_=>?_) ag;clear hK K;refine dB 18 ?_;refine dB 19 ?_;refine dB 20 ?_;refine dF 21 λK hK=>?_;(try go_simp);refine k1 hK (λ_=>?_) ag;clear hK K;refine dF 22 λK hK=>?_;(try go_simp);refine k1 hK (λ_=>?_) ag;clear hK K;refine dn ?_;go_wp2_with fail;go_meet;exact⟨Kn,Nd,Mp,C',n',rfl,rfl,a6,C,a7,d⟩
 case rest=>
 obtain⟨Kn,Nd,Mp,C',n',rfl,rfl,a6,C,a7,d⟩:=hcut;obtain⟨W4,aN⟩:∃y,y=wc:=⟨_,rfl⟩;subst aN;have ap:=dA (L.later d);have an:=dA a6;have R:=dA d;have z4:=d.size;have bm:=λa w=>DE a w;clear a6 d a3 gG av ab;obtain⟨g0,b7,E,c0,bi,ay⟩:=ap.at (k:=0) dG (show 0<hs.length by omega);have x0:=ay i _ (show(rX hs s 0)[i]?=_ from lZ A (λh=>P0 (Y ⟨h.Kn,0,Z⟩)));rw[az]at c0;obtain⟨W,p2,p3⟩:=ap.jw (k:=0) dG E i (P0 (Y ⟨Kn,0,Z⟩));have aC:=dA W;have x:=dA p2;have b4:g0<w.heap.size:=by have b:=((c.row 0 dG).lt g0 (by rw[E];rfl)).2;exact b
 clear ay W p2;go_upto_region 7 with fail;generalize aT:W4.setCell ⟨g0,i,Z⟩ (P0 (Y ⟨Kn,0,Z⟩))=W5 at*;clear c0 x0 p3 aT;obtain⟨U,b5,a8,c3,bj,ax⟩:=aC.at (k:=3) dG (show 0<s.lv.length by omega);have x3:=ax i _ (show(rX hs s 3)[i]?=_ from lZ aj I);have aQ:rN hs s 3=s.lv.length:=rfl;rw[aQ]at c3;rw[am]at x3;obtain⟨W,p2,p3⟩:=aC.jw (k:=3) dG a8 i (I (r+1));have aI:=dA W;have z:=dA p2;have ba:U<w.heap.size:=by have b:=((c.row 3 dG).lt U (by rw[a8];rfl)).2;exact b
 have bn:IntKind.i64.wrap (r+1)=r+1:=IntWalk.i64_in _ oG;have z5:W5.heap.size=W4.heap.size:=x.size;have z6:(W5.setCell ⟨U,i,Z⟩ (I (r+1))).heap.size=W5.heap.size:=z.size;have aD:Hid (∀g,g≠g1->g≠j->g≠g0->g≠U->g<w.heap.size->(W5.setCell ⟨U,i,Z⟩ (I (r+1))).heap[g]?=w.heap[g]?):=λg h1 h2 h0 h3 V=>(z.block g h3).trans ((x.block g h0).trans ((R.block g oG).trans ((u.block g h2).trans ((B.block g h1).trans (Q.block g V)))));have aL:Hid (∀g,w.heap.size<=g->g<W4.heap.size->(W5.setCell ⟨U,i,Z⟩ (I (r+1))).heap[g]?=W4.heap[g]?):=λg h1 h2=>(z.block g oG).trans (x.block g oG);have aV:dW W4:=a5.below R a5.two;have aK:=HH.low;have b1:base<=g1:=((c.row 1 dG).lt g1 (by rw[O];rfl)).1;have b2:base<=j:=((c.row 2 dG).lt j (by rw[o];rfl)).1;have b0:base<=g0:=((c.row 0 dG).lt g0 (by rw[E];rfl)).1;have b3:base<=U:=((c.row 3 dG).lt U (by rw[a8];rfl)).1;have aw:dW (W5.setCell ⟨U,i,Z⟩ (I (r+1))):=(aV.below (x.below oG) (Nat.le_refl 2)).below (z.below oG) (Nat.le_refl 2);have be:=HH.jd;have ac:dR (W5.setCell ⟨U,i,Z⟩ (I (r+1))) Wc base (t+1) v true (hs.set i ⟨Kn,⟨w.heap.size,Nd,Mp,w.heap.size+1,w.heap.size+2,w.heap.size⟩,C',-1⟩) {s with ns:=s.ns.set i n',lv:=s.lv.set i (r+1)}:=by
  refine HH.renew A hi oG oG ?_ ?_ aw ?_ (λg V=>a7 g V) ?_
  ·have hr:=aI.out;refine⟨hr.blk,λk hk=>?_,hr.sep⟩;have b:=hr.row k hk;have af:=hk;simp only[eR,List.mem_cons,List.mem_nil_iff,or_false]at af;have eN:rN (hs.set i ⟨Kn,⟨w.heap.size,Nd,Mp,w.heap.size+1,w.heap.size+2,w.heap.size⟩,C',-1⟩) {s with ns:=s.ns.set i n',lv:=s.lv.set i (r+1)} k=rN hs s k:=by rcases af with rfl|rfl|rfl|rfl|rfl|rfl|rfl|rfl|rfl|rfl<;>simp[rN]
   rw[eN];rcases af with rfl|rfl|rfl|rfl|rfl|rfl|rfl|rfl|rfl|rfl
   ·have e:rX (hs.set i ⟨Kn,⟨w.heap.size,Nd,Mp,w.heap.size+1,w.heap.size+2,w.heap.size⟩,C',-1⟩) {s with ns:=s.ns.set i n',lv:=s.lv.set i (r+1)} 0=(rX hs s 0).set i (P0 (Y ⟨Kn,0,Z⟩)):=by show(hs.set i _).map _=(hs.map _).set i _;rw[List.map_set]
    rw[e];exact b
   ·have e:rX (hs.set i ⟨Kn,⟨w.heap.size,Nd,Mp,w.heap.size+1,w.heap.size+2,w.heap.size⟩,C',-1⟩) {s with ns:=s.ns.set i n',lv:=s.lv.set i (r+1)} 1=(rX hs s 1).set i (P0 (Y ⟨w.heap.size+1,0,Z⟩)):=by show(hs.set i _).map _=(hs.map _).set i _;rw[List.map_set]
    rw[e];exact b
   ·have e:rX (hs.set i ⟨Kn,⟨w.heap.size,Nd,Mp,w.heap.size+1,w.heap.size+2,w.heap.size⟩,C',-1⟩) {s with ns:=s.ns.set i n',lv:=s.lv.set i (r+1)} 2=(rX hs s 2).set i (P0 (Y ⟨w.heap.size+2,0,Z⟩)):=by show(hs.set i _).map _=(hs.map _).set i _;rw[List.map_set]
    rw[e];exact b
   ·have e:rX (hs.set i ⟨Kn,⟨w.heap.size,Nd,Mp,w.heap.size+1,w.heap.size+2,w.heap.size⟩,C',-1⟩) {s with ns:=s.ns.set i n',lv:=s.lv.set i (r+1)} 3=(rX hs s 3).set i (I (r+1)):=by show(s.lv.set i _).map _=(s.lv.map _).set i _;rw[List.map_set]
    rw[e];exact b
   all_goals exact b
  ·intro g V _ a4;exact aD.out g (λb=>a4 1 dG (by rw[b,O];rfl)) (λb=>a4 2 dG (by rw[b,o];rfl)) (λb=>a4 0 dG (by rw[b,E];rfl)) (λb=>a4 3 dG (by rw[b,a8];rfl)) V
  ·exact an.same oG (λg V=>aL.out g (a7 g V) (an.lt g V).2) aw
  ·rcases C with⟨l,rfl,_⟩|⟨_,l,rfl,_⟩<;>exact⟨rfl,rfl,rfl⟩
 have aq:Below base w (W5.setCell ⟨U,i,Z⟩ (I (r+1))):=⟨z.os.trans (x.os.trans (R.os.trans (u.os.trans (B.os.trans Q.os)))),z.tape.trans (x.tape.trans (R.tape.trans (u.tape.trans (B.tape.trans Q.tape)))),z.output.trans (x.output.trans (R.output.trans (u.output.trans (B.output.trans Q.output)))),oG,λg V=>aD.out g oG oG oG oG oG⟩;have aW:=dA ac;have aS:=dA aq;clear ac aq ax;go_wp2_with fail;refine bodyPost_end (v:=.tuple #[]) (by simp[results,results49,go_sem]) rfl ?_;refine⟨rfl,n',_,sG,by rw[aX];exact C,⟨_,aW⟩,aS⟩
def dR.frame{w w':World}{Wc base t:Nat}{v:Nat->Value}{f:Bool}{hs:List Ho}{s:CS}{X:Nat}(h:dR w Wc base t v f hs s)(a:dI X w w')(p:X≠Wc)(n:∀k∈eR,(v k).ownBlock≠some X)(o:∀j (i:j<hs.length),¬hs[j].al X)(r:base<=X):dR w' Wc base t v f hs s/\Below base w w':=by
 have q:=h.low;have m:dW w':=h.tabs.below (a.below oG) (Nat.le_refl 2);have c:w.heap.size<=w'.heap.size:=by rw[a.size];exact Nat.le_refl _
 refine⟨⟨h.blk.same (a.block Wc (λb=>p b.symm)),λk l=>dQ (h.row k l) (λg d=>a.block g (λb=>n k l (b ▸ d))),h.sep,h.hl,λj i e=>(h.host j i e).same c (λg d=>a.block g (λb=>o j i (b ▸ d))) m,h.ap,h.lq,h.ng,h.low,h.ll,h.n5,h.nb,m,h.ids⟩,?_⟩;exact⟨a.os,a.tape,a.output,c,λg d=>a.block g oG⟩
def dR.did2{w w':World}{Wc base t:Nat}{v:Nat->Value}{f:Bool}{hs:List Ho}{s:CS}{i:Nat}(h:dR w Wc base t v f hs s)(hi:i<hs.length)(d:i<s.ns.length){n:Int}{F:AG.Nd×List (Int×AG.Ms)}{ok:Bool}{l:Value}(r:jE hs[i].Kn hs[i].P t hs[i].C hs[i].left n F ok l w w')(g:F.1.id=s.ns[i].id/\F.1.nodes=s.ns[i].nodes/\F.1.nb=s.ns[i].nb):dY w' w.heap.size l (fS F.2)/\eM n F.2/\∃hs',hs'.length=hs.length/\dR w' Wc base (t+1) v f hs' {s with ns:=s.ns.set i F.1}/\Below base w w'/\((Qt hs->ok=true/\Qt hs')/\eM n F.2)/\∀X,X<w.heap.size->(∀j (e:j<hs.length),¬hs[j].al X)->∀j (e:j<hs'.length),¬hs'[j].al X:=by
 obtain⟨u,k,C',H,A,o,y⟩:=r;obtain⟨a1,D⟩:=h.call (t':=t+1) hi d oG A o g;refine⟨u,k,_,sG,a1,D,⟨λm=>?_,k⟩,λX E p j e c=>?_⟩
 ·obtain⟨q,z⟩:=y (m _ (List.getElem_mem hi));refine⟨q,λx B=>?_⟩;rcases List.mem_or_eq_of_mem_set B with a|a;·exact m x a
  ·rw[a];exact z
 ·by_cases b:j=i
  ·subst b;simp only[List.getElem_set_self]at c;rcases o.grow X c with a|a;·exact p j hi a
   ·omega
  ·rw[List.getElem_set_ne (λa=>b a.symm)]at c;exact p j (by simpa using e) c
def CS.bl(s:CS)(b:Int):Int:=eZ b%s.nb
def CS.jm(s:CS)(i:Nat)(b:Int)(rd ok:Bool):AG.Nd×List (Int×AG.Ms)×Int:=(s.nd i).operate (s.bl b) (bif rd then(s.nd i).d.bk (s.bl b) else 1+(s.ops.length:Int)) ok
def CS.asd(s:CS)(i:Nat)(b op:Int)(rd dn:Bool):AG.As:=⟨i,s.lv.getD i 0,op,s.bl b,1+(s.ops.length:Int),rd,dn,(kN s.rs).1,(kN s.rs).2⟩
def CS.oper(s:CS)(i:Nat)(b:Int)(rd ok:Bool):CS:=
 if(s.jm i b rd ok).2.2=0 then{s with ns:=s.ns.set i (s.jm i b rd ok).1,net:=s.net++(s.jm i b rd ok).2.1,ops:=s.ops++[s.asd i b ((s.nd i).ops+1) rd false]}
 else if(s.jm i b rd ok).2.2=3/\rd=false then{s with ns:=s.ns.set i (s.jm i b rd ok).1,ops:=s.ops++[s.asd i b 0 rd true]}
 else{s with ns:=s.ns.set i (s.jm i b rd ok).1}
def QG(Wc base t:Nat)(hs:List Ho)(F:Bool->CS)(n:Int)(O:Bool->List (Int×AG.Ms))(w w':World):Prop:=∃ok hs',hs'.length=hs.length/\CA w' Wc base (t+1) true hs' (F ok)/\Below base w w'/\((Qt hs->ok=true/\Qt hs')/\eM n (O ok))
def MZ:(Tryz.prog.info? 178).map (λi=>(i.zero,i.size,i.bytes))=Y (Y (.agg #[I 0,I 0,I 0,I 0,I 0,.bool false,.bool false,I 0,I 0]),9,64):=kG
def IM(hLO:jN)(hUO:jL)(hSO:fA)(hBW:fC)(hBS:fD)(Wc base t:Nat)(hs:List Ho)(s:CS)(i:Nat)(b:Int)(rd:Bool)(w:World)(h:CA w Wc base t true hs s)(hi:i<s.ns.length)(ht:t+1<=1000000)(hb:i_ b)(aq:s.net.length<=50000000/\s.ops.length<=50000000/\s.rs.length<=100000000)(aF:qF s i (λok=>((s.jm i b rd ok).1,(s.jm i b rd ok).2.1))):Calls pG 56 #[P0 (Y ⟨Wc,0,Z⟩),I (i:Int),I b,bool rd] w λq w'=>q=.returned (.tuple #[])/\QG Wc base t hs (λok=>s.oper i b rd ok) (s.nd i).nodes (λok=>(s.jm i b rd ok).2.1) w w':=by
 obtain⟨v,h⟩:=h;obtain⟨i0,aL,aE,aO,aJ⟩:=info_parts MZ;have V:i<hs.length:=by rw[h.hl];exact hi
 have bJ:i<s.lv.length:=by rw[h.ll.1];exact hi
 have cm:=h.n5;have bh:=h.hl;have ag:s.nd i=s.ns[i]:=CS.lg hi;have bs:s.lv.getD i 0=s.lv[i]:=by rw[List.getD_eq_getElem?_getD,List.getElem?_eq_getElem bJ];rfl
 have cl:=h.nb;have c4:=h.blk.cell 4;simp at c4;have bt:=dA (nR b s.nb w oG hb.1 hb.2);obtain⟨a7,ce,bH⟩:=dZ (h.row 7 dG);have c7:=h.cell (k:=7) dG;have b2:=eL.gy (h.row 7 dG);rw[bH]at c7 b2;have bz:=dA (O6 Wc a7 ce s.rs w c7 h.blk.lt b2 aq.2.2);have HH:=dA h;have bf:=dA aF;clear h b2 c7 aF;go_enter func56,ntmps56;go_wp2_with fail;refine bt.mono ?_;rintro q w1 ⟨rfl,c2⟩;obtain rfl:=c2.symm;obtain⟨bl,aI⟩:∃y,eZ b%s.nb=y:=⟨_,rfl⟩;rw[aI];go_wp2_with fail;refine bz.mono ?_;rintro q w1 ⟨rfl,bc⟩;have U:=dA (HH.later bc);have cb:=dA (bc.mono HH.jd);obtain⟨⟨e,f⟩,b6⟩:∃y:Int×Int,kN s.rs=y:=⟨_,rfl⟩;rw[b6];clear bt bz bc c4;go_upto_region 2 with fail;obtain⟨g3,ah,c8,c3,H,ay⟩:=U.ones (k:=3) dG (show 0<s.lv.length by omega);have x3:=ay i _ (show(rX hs s 3)[i]?=_ from lZ bJ I);have bW:rN hs s 3=s.lv.length:=rfl;rw[bW]at c3;obtain⟨c,aZ⟩:∃y,s.lv[i]=y:=⟨_,rfl⟩;rw[aZ]at x3;obtain⟨a6,aG,bg⟩:=dZ (U.row 6 dG);have c6:=U.cell (k:=6) dG;rw[bg]at c6;have bR:rN hs s 6=s.ops.length:=rfl;rw[bR]at c6;have bd:(0:Int)<=(i:Int)/\(i:Int)<(s.lv.length:Int):=oG;have bE:IntKind.i64.wrap (1+(s.ops.length:Int))=1+(s.ops.length:Int):=IntWalk.i64_in _ oG;have aQ:=U.blk.lt;have a8:=dA (⟨c3,x3,c6⟩:w1.cell? ⟨Wc,3,Z⟩=Y (J (Y ⟨g3,0,Z⟩) s.lv.length ah)/\w1.cell? ⟨g3,i,Z⟩=Y (I c)/\w1.cell? ⟨Wc,6,Z⟩=Y (J a6 s.ops.length aG));clear ay c3 x3 c6 bg c8 bH;go_cut [10] (λs10 wx=>s10=P0 (Y ⟨w1.heap.size,0,Z⟩)/\Below w1.heap.size w1 wx/\dC wx w1.heap.size #[I (i:Int),I c,I 0,I bl,I (1+(s.ops.length:Int)),bool rd,bool false,I e,I f] 178);case first=>refine eY (S:=λw'=>w'.cell? ⟨Wc,3,Z⟩=Y (J (Y ⟨g3,0,Z⟩) s.lv.length ah)/\w'.cell? ⟨g3,i,Z⟩=Y (I c)/\w'.cell? ⟨Wc,6,Z⟩=Y (J a6 s.ops.length aG)) (λ_=>?_) (hS:=a8);refine dB 0 ?_;refine dB 1 ?_;refine dB 2 ?_;refine dB 3 ?_;refine dB 4 (v:=J (Y ⟨g3,0,Z⟩) s.lv.length ah) ?_ (hy:=λw z=>by have F:=z.1;go_simp);refine dB 5 ?_;refine dB 6 (v:=P0 (Y ⟨g3,i,Z⟩)) ?_ (hy:=λw z=>by go_simp);refine dB 7 (v:=I c) ?_ (hy:=λw z=>by have F:=z.2.1;go_simp);refine dB 8 ?_;refine dB 9 ?_;refine dB 10 ?_;refine dB 11 ?_;refine dB 12 (v:=J a6 s.ops.length aG) ?_ (hy:=λw z=>by have F:=z.2.2;go_simp);refine dB 13 ?_;refine dB 14 (v:=I (1+(s.ops.length:Int))) ?_ (hy:=λw z=>by first|(go_simp;done)|(go_simp;rw[bE]));refine dB 15 ?_;refine dB 16 ?_;refine dB 17 ?_;refine dB 18 (v:=.agg #[I (i:Int),I c,I 0,I bl,I (1+(s.ops.length:Int)),bool rd,bool false,I e,I f]) ?_ (hy:=λw z=>by first|(go_simp;done)|(go_simp;rfl));refine dF 19 λK n=>?_;(try go_simp);have hZ:dC (w1.alloc (G #[I 0,I 0,I 0,I 0,I 0,bool false,bool false,I 0,I 0] 178)).drew w1.heap.size #[I 0,I 0,I 0,I 0,I 0,bool false,bool false,I 0,I 0] 178:=(dC.new w1 _ 178).drew;have x:Below w1.heap.size w1 (w1.alloc (G #[I 0,I 0,I 0,I 0,I 0,bool false,bool false,I 0,I 0] 178)).drew:=(a_ _ _).drew;generalize (World.alloc _ _).drew=WA at*;have L:WA.cell? ⟨Wc,3,Z⟩=Y (J (Y ⟨g3,0,Z⟩) s.lv.length ah)/\WA.cell? ⟨g3,i,Z⟩=Y (I c)/\WA.cell? ⟨Wc,6,Z⟩=Y (J a6 s.ops.length aG):=⟨(x.cell (p:=⟨Wc,3,Z⟩) aQ).trans a8.1,(x.cell (p:=⟨g3,i,Z⟩) H).trans a8.2.1,(x.cell (p:=⟨Wc,6,Z⟩) aQ).trans a8.2.2⟩;refine k1 n (λ_=>?_) L;clear n K;have aF:=lO (P:=pG) (t:=178) (i:=0) (vs:=#[I (i:Int),I c,I 0,I bl,I (1+(s.ops.length:Int)),bool rd,bool false,I e,I f]) hZ kG sG (by intro u hu;simp at hu;rcases hu with rfl|rfl|rfl|rfl|rfl|rfl|rfl|rfl|rfl<;>rfl) #[I (i:Int),I c,I 0,I bl,I (1+(s.ops.length:Int)),bool rd,bool false,I e,I f] rfl;have ao:=lH WA w1.heap.size #[I (i:Int),I c,I 0,I bl,I (1+(s.ops.length:Int)),bool rd,bool false,I e,I f];have aN:Below w1.heap.size w1 (WA.setRow w1.heap.size #[I (i:Int),I c,I 0,I bl,I (1+(s.ops.length:Int)),bool rd,bool false,I e,I f]):=⟨ao.os.trans x.os,ao.tape.trans x.tape,ao.output.trans x.output,by rw[ao.size];exact x.size,λg hg=>(ao.block g oG).trans (x.block g hg)⟩;refine E1 20 178 (.tmp 10) (.tmp 43) aF ⟨(aN.cell (p:=⟨Wc,3,Z⟩) aQ).trans a8.1,(aN.cell (p:=⟨g3,i,Z⟩) H).trans a8.2.1,(aN.cell (p:=⟨Wc,6,Z⟩) aQ).trans a8.2.2⟩ ?_;go_wp2_with fail;go_meet;exact⟨rfl,aN,hZ.row⟩
 case rest=>
 obtain⟨rfl,b5,aW⟩:=hcut;obtain⟨W2,bY⟩:∃y,y=wc:=⟨_,rfl⟩;subst bY;obtain⟨X,hX⟩:∃y,w1.heap.size=y:=⟨_,rfl⟩;have O:=dA (U.later b5);have bV:=dA (cb.trans (b5.mono U.jd));have aC:X≠Wc:=oG;have b1:∀j (hj:j<hs.length),¬hs[j].al X:=λj hj F=>by have:=((U.host j hj (by rw[←bh];exact hj)).lt _ F).2;omega
 have ap:∀k∈eR,(v k).ownBlock≠some X:=λk hk F=>by have:=((U.row k hk).lt _ F).2;omega
 rw[hX]at aW;have ae:=dA aW;clear b5 aW a8 bE bd;obtain⟨g0,a9,bO,c0,bP,bA⟩:=O.ones (k:=0) dG (show 0<hs.length by omega);have x0:=bA i _ (show(rX hs s 0)[i]?=_ from lZ V (λh=>P0 (Y ⟨h.Kn,0,Z⟩)));have ca:rN hs s 0=hs.length:=rfl;rw[ca]at c0;have co:(0:Int)<=(i:Int)/\(i:Int)<(hs.length:Int):=oG;clear bA bO;have aV:∀ok,s.jm i b rd ok=s.ns[i].operate bl (bif rd then s.ns[i].d.bk bl else 1+(s.ops.length:Int)) ok:=by intro ok;unfold CS.jm CS.bl;rw[ag,aI]
 have aD:=dA aV;clear aV;have a0:=O.ids i hi;obtain⟨R,hR⟩:∃y,rd=y:=⟨_,rfl⟩;have HR:=dA hR;clear hR;rw[HR.out];cases R;focus
  have bN:=dA ((O.host i V hi).write hLO hUO hSO hBW hBS ht bl (1+(s.ops.length:Int)) oG)
  have y4:=ae.cell 4;simp at y4
  go_upto_region 8 with fail
  rw[hX]
  have av:=dA (⟨c0,x0⟩:W2.cell? ⟨Wc,0,Z⟩=Y (J (Y ⟨g0,0,Z⟩) hs.length a9)/\W2.cell? ⟨g0,i,Z⟩=Y (P0 (Y ⟨hs[i].Kn,0,Z⟩)))
  have bL:fO W2.drew hs[i].Kn hs[i].P t hs[i].C hs[i].left s.ns[i]:=(O.host i V hi).same r_ (λ_ _=>rfl) (O.tabs.below (b_.drew) O.tabs.two)
  have bX:=dA (bL.write hLO hUO hSO hBW hBS ht bl (1+(s.ops.length:Int)) oG)
  clear c0 x0 y4 bN bL
  go_cut [11,12,13] (λs11 s12 s13 wx=>∃ok,s12=I (s.jm i b rd ok).2.2/\s13=I (bif (s.jm i b rd ok).2.2==0 then s.ns[i].ops+1 else 0)/\jE hs[i].Kn hs[i].P t hs[i].C hs[i].left s.ns[i].nodes ((s.jm i b rd ok).1,(s.jm i b rd ok).2.1) ok s11 W2 wx)
  case first=>
   refine eY (S:=λw'=>w'.cell? ⟨Wc,0,Z⟩=Y (J (Y ⟨g0,0,Z⟩) hs.length a9)/\w'.cell? ⟨g0,i,Z⟩=Y (P0 (Y ⟨hs[i].Kn,0,Z⟩))/\dC w' X #[I (i:Int),I c,I 0,I bl,I (1+(s.ops.length:Int)),bool rd,bool false,I e,I f] 178) (λ_=>?_) (hS:=⟨av.1,av.2,ae.drew⟩)
   refine dB 0 ?_;refine dB 1 ?_;refine dB 2 ?_
   refine dB 3 (v:=J (Y ⟨g0,0,Z⟩) hs.length a9) ?_ (hy:=λw z=>by have F:=z.1;go_simp)
   refine dB 4 ?_
   refine dB 5 (v:=P0 (Y ⟨g0,i,Z⟩)) ?_ (hy:=λw z=>by go_simp)
   refine dB 6 (v:=P0 (Y ⟨hs[i].Kn,0,Z⟩)) ?_ (hy:=λw z=>by have F:=z.2.1;go_simp)
   refine dB 7 ?_;refine dB 8 ?_
   refine dB 9 (v:=I (1+(s.ops.length:Int))) ?_ (hy:=λw z=>by have F:=z.2.2.cell 4;simp at F;go_simp)
   refine dF 10 λK n=>?_
   (try go_simp)
   go_at_call 90
   refine bX.mono ?_
   rintro q w3 ⟨l,ok,rfl,aM⟩
   have aU:jE hs[i].Kn hs[i].P t hs[i].C hs[i].left s.ns[i].nodes ((s.jm i b rd ok).1,(s.jm i b rd ok).2.1) ok l W2 w3:=by
    rw[aD.out,HR.out]
    obtain⟨k1,k2,C',l',k3,k4,k5⟩:=aM
    exact⟨k1,k2,C',l',k3,k4.pre (b_.drew),k5⟩
   rw[show s.ns[i].operate bl (1+(s.ops.length:Int)) ok=s.jm i b rd ok from by rw[aD.out,HR.out];rfl]
   have A:w3.cell? ⟨Wc,0,Z⟩=Y (J (Y ⟨g0,0,Z⟩) hs.length a9)/\w3.cell? ⟨g0,i,Z⟩=Y (P0 (Y ⟨hs[i].Kn,0,Z⟩))/\dC w3 X #[I (i:Int),I c,I 0,I bl,I (1+(s.ops.length:Int)),bool rd,bool false,I e,I f] 178:=by
    obtain⟨_,_,C',l',_,hx,_⟩:=aU
    have c5:(v 0)=J (Y ⟨g0,0,Z⟩) hs.length a9:=by have F:=O.cell (k:=0) dG;rw[av.1]at F;simpa using F.symm
    exact⟨(World.cell?_of_block (a:=⟨Wc,0,Z⟩) (hx.kept.block Wc O.blk.lt (O.ng i V))).trans av.1,(World.cell?_of_block (a:=⟨g0,i,Z⟩) (hx.kept.block g0 bP (λh8=>O.lq 0 dG g0 (by rw[c5];rfl) i V h8))).trans av.2,hx.blk ae (b1 i V)⟩
   refine k1 n (λ_=>?_) A;clear n K
   refine dB 11 ?_;refine dB 12 ?_;refine dB 13 ?_;refine dB 14 ?_
   refine dF 15 λK n=>?_
   (try go_simp)
   refine k1 n (λ_=>?_) A;clear n K
   refine dF 16 λK n=>?_
   (try go_simp)
   refine k1 n (λ_=>?_) A;clear n K
   refine dF 17 λK n=>?_
   (try go_simp)
   refine k1 n (λ_=>?_) A;clear n K
   refine dn ?_
   go_wp2_with fail
   go_meet
   exact⟨ok,rfl,rfl,aU⟩
  obtain⟨ok,rfl,rfl,au⟩:=hcut
  obtain⟨w3,c1⟩:∃y,y=wc:=⟨_,rfl⟩
  subst c1
  obtain⟨l,cg⟩:∃y,y=u11:=⟨_,rfl⟩
  subst cg
 rotate_left;focus
  have br:=dA ((O.host i V hi).read hLO hUO hSO hBW hBS ht bl)
  go_wp2_with fail
  rw[hX]
  refine br.mono ?_
  rintro q w3 ⟨l,ok,rfl,aM⟩
  have au:jE hs[i].Kn hs[i].P t hs[i].C hs[i].left s.ns[i].nodes ((s.jm i b rd ok).1,(s.jm i b rd ok).2.1) ok l W2 w3:=by rw[aD.out,HR.out];exact aM
  rw[show s.ns[i].operate bl (s.ns[i].d.bk bl) ok=s.jm i b rd ok from by rw[aD.out,HR.out];rfl]
  clear aM br c0 x0
 all_goals
  obtain⟨d1,d2,hs',aw,ay,bx,M,bF⟩:=O.did2 V hi au (by have F:=bf.id ok;rw[ag]at F;exact F)
  have aR:dC w3 X #[I (i:Int),I c,I 0,I bl,I (1+(s.ops.length:Int)),bool rd,bool false,I e,I f] 178:=by
   obtain⟨_,_,C',l',_,hx,_⟩:=au
   exact hx.blk ae (b1 i V)
  have ar:∀j (hj:j<hs'.length),¬hs'[j].al X:=bF X ae.lt b1
  obtain⟨E,hE⟩:∃y,(s.jm i b rd ok).2.2=y:=⟨_,rfl⟩
  rw[hE]
  obtain⟨B,aP⟩:∃y,(bif E==0 then s.ns[i].ops+1 else 0)=y:=⟨_,rfl⟩
  rw[aP]
  have bU:=aR.set 2 (I B)
  have bb:=dI.setCell w3 ⟨X,2,Z⟩ (I B)
  have ba:base<=X:=by have:=U.jd;omega
  obtain⟨m1,m2⟩:=ay.frame bb aC ap ar ba
  have y2:=aR.cell 2;have z2:=aR.free 2;simp at y2
  have af:=dA m1;have b7:=dA (bV.trans (bx.trans m2));have aK:=dA bU
  clear aR m1 m2 ay bx
  go_upto_region 10 with fail
  generalize w3.setCell ⟨X,2,Z⟩ (I B)=Q at*
  have ci:=dA d1;have bm:=dA d2
  have ch:Q.heap.size=w3.heap.size:=bb.size
  have aB:Hid (dY Q W2.heap.size l (fS (s.jm i b rd ok).2.1)):=d1.qo (C:=λg=>g=X) (C':=λg=>g=X) (λg hg hh=>by have:=ae.lt;omega) (dP.node bb rfl)
  clear y2 z2 d1 d2 bF
  by_cases aj:E=0
  ·have aX:(E==0)=true:=by simpa using aj
   have bD:B=(s.nd i).ops+1:=by rw[←aP,aX,ag];rfl
   have cc:=dA bD;have bQ:Hid ((s.jm i b rd ok).2.2=0):=by unfold Hid;rw[hE,aj]
   clear aj bD aP hE
   go_upto_region 11 with fail
   (try rw[hX])
   have ax:Hid (dC Q X #[I (i:Int),I c,I B,I bl,I (1+(s.ops.length:Int)),bool rd,bool false,I e,I f] 178):=aK.out
   obtain⟨r,aa⟩:∃y,({s with ns:=s.ns.set i (s.jm i b rd ok).1}:CS)=y:=⟨_,rfl⟩
   obtain⟨ad,ab⟩:∃y,(s.jm i b rd ok).2.1=y:=⟨_,rfl⟩
   rw[aa]at af
   rw[ab]at aB bm
   have be:rN hs' r 6<=100000000:=by show r.ops.length<=_;rw[←aa];exact Nat.le_trans aq.2.1 oG
   have bo:=af.cell (k:=6) dG
   have x:Below Q.heap.size Q (Q.alloc (G #[I (i:Int),I c,I B,I bl,I (1+(s.ops.length:Int)),bool rd,bool false,I e,I f] 178)).drew:=(a_ _ _).drew
   have an:base<=(Q.alloc (G #[I (i:Int),I c,I B,I bl,I (1+(s.ops.length:Int)),bool rd,bool false,I e,I f] 178)).drew.heap.size:=Nat.le_trans af.jd x.size
   have N:=dA (af.later x)
   have bI:(Q.alloc (G #[I (i:Int),I c,I B,I bl,I (1+(s.ops.length:Int)),bool rd,bool false,I e,I f] 178)).drew.cell? ⟨Wc,6,Z⟩=Y (v 6):=N.cell (k:=6) dG
   have ak:dC Q.drew X #[I (i:Int),I c,I B,I bl,I (1+(s.ops.length:Int)),bool rd,bool false,I e,I f] 178:=ax.drew
   have L:dC (Q.alloc (G #[I (i:Int),I c,I B,I bl,I (1+(s.ops.length:Int)),bool rd,bool false,I e,I f] 178)).drew X #[I (i:Int),I c,I B,I bl,I (1+(s.ops.length:Int)),bool rd,bool false,I e,I f] 178:=ax.later x
   have am:(Q.alloc (G #[I (i:Int),I c,I B,I bl,I (1+(s.ops.length:Int)),bool rd,bool false,I e,I f] 178)).drew.ownsRow base 178 9 (v 6) (rN hs' r 6) (rX hs' r 6):=N.row 6 dG
   have ai:∀j u,[I (i:Int),I c,I B,I bl,I (1+(s.ops.length:Int)),bool rd,bool false,I e,I f][j]?=Y u->(Q.alloc (G #[I (i:Int),I c,I B,I bl,I (1+(s.ops.length:Int)),bool rd,bool false,I e,I f] 178)).drew.cell? ((⟨Q.heap.size,0,Z⟩:Addr).add j)=Y u:=by
    intro j u hu;rw[Go.WideShapes.add_plain];refine(World.cell?_alloc_at _ _ _ _ sG).trans ?_;simpa using hu
   have HP:Hid (∀v' w3,w3.ownsRow base 178 9 v' (rN hs' r 6+1) (rX hs' r 6++[I (i:Int),I c,I B,I bl,I (1+(s.ops.length:Int)),bool rd,bool false,I e,I f])->(Q.alloc (G #[I (i:Int),I c,I B,I bl,I (1+(s.ops.length:Int)),bool rd,bool false,I e,I f] 178)).drew.grownBy w3 (v 6).ownBlock->(∃g',v'.ownBlock=Y g'/\((v 6).ownBlock=Y g'∨(Q.alloc (G #[I (i:Int),I c,I B,I bl,I (1+(s.ops.length:Int)),bool rd,bool false,I e,I f] 178)).drew.heap.size<=g'/\(Q.alloc (G #[I (i:Int),I c,I B,I bl,I (1+(s.ops.length:Int)),bool rd,bool false,I e,I f] 178)).drew.grownBy w3 none))->(w3.cell? ⟨Wc,6,Z⟩=Y (v 6)/\w3.frozen? ⟨Wc,6,Z⟩=false/\((dC w3 X #[I (i:Int),I c,I B,I bl,I (1+(s.ops.length:Int)),bool rd,bool false,I e,I f] 178)/\(dC (w3.setCell ⟨Wc,6,Z⟩ v') X #[I (i:Int),I c,I B,I bl,I (1+(s.ops.length:Int)),bool rd,bool false,I e,I f] 178))/\dR (w3.setCell ⟨Wc,6,Z⟩ v') Wc base (t+1) (gI v 6 v') true hs' {r with ops:=r.ops++[(⟨(i:Int),c,B,bl,1+(s.ops.length:Int),rd,false,e,f⟩:AG.As)]}/\dY (w3.setCell ⟨Wc,6,Z⟩ v') W2.heap.size l (fS ad)/\Below base w (w3.setCell ⟨Wc,6,Z⟩ v'))):=by
    intro v' w3 ho aA o
    obtain⟨a1,a2,a3,a4,a5⟩:=dR.push (s':={r with ops:=r.ops++[(⟨(i:Int),c,B,bl,1+(s.ops.length:Int),rd,false,e,f⟩:AG.As)]}) (k:=6) (m:=1) dG N ho aA o rfl rfl ⟨rfl,rfl⟩ (by
      intro j hj b0
      simp only[eR,List.mem_cons,List.mem_nil_iff,or_false]at hj
      rcases hj with rfl|rfl|rfl|rfl|rfl|rfl|rfl|rfl|rfl|rfl<;>first|exact⟨rfl,rfl⟩|exact absurd rfl b0) (by show(r.ops++[(⟨(i:Int),c,B,bl,1+(s.ops.length:Int),rd,false,e,f⟩:AG.As)]).length=r.ops.length+1;simp) (by show(r.ops++[(⟨(i:Int),c,B,bl,1+(s.ops.length:Int),rd,false,e,f⟩:AG.As)]).flatMap lN=r.ops.flatMap lN++_;rw[List.flatMap_append];rfl)
    have o1:dC w3 X #[I (i:Int),I c,I B,I bl,I (1+(s.ops.length:Int)),bool rd,bool false,I e,I f] 178:=L.same (aA.block _ L.lt (λF=>ap 6 dG F.symm))
    exact⟨a1,a2,⟨o1,o1.same ((dI.setCell w3 ⟨Wc,6,Z⟩ v').block _ aC)⟩,a3,(aB.later x).keep a5 N.blk dG (λg9 F=>eU (N.row 6 dG) F) dG,b7.trans ((x.mono af.jd).trans a4)⟩
   go_cut [86] (λsx wx=>∃v',dR wx Wc base (t+1) (gI v 6 v') true hs' {r with ops:=r.ops++[(⟨(i:Int),c,B,bl,1+(s.ops.length:Int),rd,false,e,f⟩:AG.As)]}/\dY wx W2.heap.size l (fS ad)/\Below base w wx)
   case first=>
    refine eY (S:=λw'=>dC w' X #[I (i:Int),I c,I B,I bl,I (1+(s.ops.length:Int)),bool rd,bool false,I e,I f] 178) (λ_=>?_) (hS:=ak)
    refine dB 0 ?_;refine dB 1 ?_;refine dB 2 ?_;refine dB 3 ?_
    refine i8 5 X 0 [I (i:Int),I c,I B,I bl,I (1+(s.ops.length:Int)),bool rd,bool false,I e,I f] ?_ (λw z=>z.range rfl)
    refine jC [4,6] ?_
    refine .cons rfl (λK n=>?_) ?_
    ·(try go_simp)
     refine k1 n (λ_=>?_) ak;clear n K
     refine dF 6 λK n=>?_
     (try go_simp)
     refine k1 n (λ_=>?_) L;clear n K
     refine dF 7 λK n=>?_
     refine iX rfl (.tmp 81) (.tmp 83) 61 rfl base 178 i0 (.agg #[I 0,I 0,I 0,I 0,I 0,.bool false,.bool false,I 0,I 0]) 9 64 underlying61 aL aE aO aJ rfl dG (v 6) (rN hs' r 6) (rX hs' r 6) eG am ⟨Q.heap.size,0,Z⟩ 1 1 [I (i:Int),I c,I B,I bl,I (1+(s.ops.length:Int)),bool rd,bool false,I e,I f] oG eG rfl ai (by intro u hu;simp at hu;rcases hu with rfl|rfl|rfl|rfl|rfl|rfl|rfl|rfl|rfl<;>rfl) xG oG an ?_
     intro v' w3 D H o
     obtain⟨b9,aY,rfl⟩:=dZ D
     obtain⟨b4,b8,A,W⟩:=HP.out _ w3 D H o
     clear D H o
     refine k1 n (λ_=>?_) A.1;clear n K;refine dB 8 ?_;refine dB 9 ?_
     refine dF 10 λK n=>?_
     (try go_simp)
     refine k1 n (λ_=>?_) A.2;clear n K
     refine dn ?_
     go_wp2_with fail
     go_meet
     exact⟨_,W⟩
    refine .cons rfl (λK n=>?_) .nil
    (try go_simp)
    refine k1 n (λ_=>?_) L;clear n K
    refine dF 4 λK n=>?_
    (try go_simp)
    refine k1 n (λ_=>?_) L;clear n K
    refine dF 7 λK n=>?_
    refine iX rfl (.tmp 81) (.tmp 83) 61 rfl base 178 i0 (.agg #[I 0,I 0,I 0,I 0,I 0,.bool false,.bool false,I 0,I 0]) 9 64 underlying61 aL aE aO aJ rfl dG (v 6) (rN hs' r 6) (rX hs' r 6) eG am ⟨Q.heap.size,0,Z⟩ 1 1 [I (i:Int),I c,I B,I bl,I (1+(s.ops.length:Int)),bool rd,bool false,I e,I f] oG eG rfl ai (by intro u hu;simp at hu;rcases hu with rfl|rfl|rfl|rfl|rfl|rfl|rfl|rfl|rfl<;>rfl) xG oG an ?_
    intro v' w3 D H o
    obtain⟨b9,aY,rfl⟩:=dZ D
    obtain⟨b4,b8,A,W⟩:=HP.out _ w3 D H o
    clear D H o
    refine k1 n (λ_=>?_) A.1;clear n K;refine dB 8 ?_;refine dB 9 ?_
    refine dF 10 λK n=>?_
    (try go_simp)
    refine k1 n (λ_=>?_) A.2;clear n K
    refine dn ?_
    go_wp2_with fail
    go_meet
    exact⟨_,W⟩
   case rest=>
   obtain⟨cn,bu,bw,bq⟩:=hcut
   clear HP ai am L ak bI N an x bo be
   obtain⟨W6,bM⟩:∃y,y=wc:=⟨_,rfl⟩
   subst bM
   have aS:eM (hs'.length:Int) ad:=by
    have h8:=bm.out
    have h7:(hs'.length:Int)=s.ns[i].nodes:=by rw[a0.2.1,aw,bh]
    rw[h7];exact h8
   have cj:ad.length<=100:=by have F:=bf.ln ok;rw[←ab];exact F
   have bS:=dA (xF Wc base (t+1) true hs' _ l ad W2.heap.size W6 _ bu bw aS (by show r.net.length+_<=_;rw[←aa];show s.net.length+_<=_;omega))
   have bT:=dA bq
   clear bu bw bq aS
   go_wp2_with fail
   refine bS.mono ?_
   rintro q w7 ⟨rfl,bj,bK,_⟩
   have ck:(E==3)=false:=by rw[show E=0 by simpa using aX];rfl
   have ac:({({r with ops:=r.ops++[(⟨(i:Int),c,B,bl,1+(s.ops.length:Int),rd,false,e,f⟩:AG.As)]}:CS) with net:=r.net++ad}:CS)=s.oper i b rd ok:=by
    unfold CS.oper
    rw[if_pos bQ.out,ab,←aa]
    unfold CS.asd CS.bl
    rw[bs,aZ,b6,aI,←cc.out]
   have bv:CA w7 Wc base (t+1) true hs' (s.oper i b rd ok):=by rw[←ac];exact bj
   have cd:=dA bv;have bZ:=dA (bT.trans bK)
   clear ac bj bK bv
   go_wp2_with fail
   refine bodyPost_end (v:=.tuple #[]) (by simp[results,results56,go_sem]) rfl ?_
   have hR:=HR.out;subst hR
   exact⟨rfl,ok,hs',aw,cd,bZ,M.1,by first|(rw[ag];exact M.2)|(rw[←a0.2.1];exact M.2)⟩
  have aX:(E==0)=false:=by simpa using aj
  have bi:Hid (¬(s.jm i b rd ok).2.2=0):=by unfold Hid;rw[hE];exact aj
  have HE:=dA hE
  obtain⟨b3,e3⟩:∃y,(E==3)=y:=⟨_,rfl⟩
  have bB:=dA e3
  clear aj aP hE
  cases b3
  all_goals
   try
    go_wp2_with fail
    refine bodyPost_end (v:=.tuple #[]) (by simp[results,results56,go_sem]) rfl ?_
    have hR:=HR.out;subst hR
    exact⟨rfl,ok,hs',aw,⟨_,by show dR _ _ _ _ _ _ _ (s.oper i b _ ok);unfold CS.oper;rw[if_neg bi.out,if_neg (λF=>by first|(simp at F;done)|(rw[HE.out]at F;have h8:=bB.out;simp[F.1]at h8))];exact af⟩,b7,M.1,by first|(rw[ag];exact M.2)|(rw[←a0.2.1];exact M.2)⟩
 have aH:=aK.set 2 (I 0);have bG:=dI.setCell Q ⟨X,2,Z⟩ (I 0);have bn:=aH.set 6 (bool true);have bC:=dI.setCell (Q.setCell ⟨X,2,Z⟩ (I 0)) ⟨X,6,Z⟩ (bool true);obtain⟨m1,m2⟩:=af.frame bG aC ap ar ba;obtain⟨m3,m4⟩:=m1.frame bC aC ap ar ba;have y2:=aK.cell 2;have z2:=aK.free 2;have y6:=aH.cell 6;have z6:=aH.free 6;simp at y2 y6;have az:=dA m3;have cf:=dA (b7.trans (m2.trans m4));have c9:=dA bn;have aT:=dA ((aB.qo (C:=λg=>g=X) (C':=λg=>g=X) (λg hg hh=>by have:=ae.lt;omega) (dP.node bG rfl)).qo (C:=λg=>g=X) (C':=λg=>g=X) (λg hg hh=>by have:=ae.lt;omega) (dP.node bC rfl));clear m1 m2 m3 m4 aH bn;go_upto_region 16 with fail;(try rw[hX]);clear y2 z2 y6 z6;generalize (Q.setCell ⟨X,2,Z⟩ (I 0)).setCell ⟨X,6,Z⟩ (bool true)=W5 at*;have ax:Hid (dC W5 X #[I (i:Int),I c,I 0,I bl,I (1+(s.ops.length:Int)),bool rd,bool true,I e,I f] 178):=c9.out;obtain⟨r,aa⟩:∃y,({s with ns:=s.ns.set i (s.jm i b rd ok).1}:CS)=y:=⟨_,rfl⟩;obtain⟨ad,ab⟩:∃y,(s.jm i b rd ok).2.1=y:=⟨_,rfl⟩;rw[aa]at az;rw[ab]at aT;have ac:({r with ops:=r.ops++[(⟨(i:Int),c,0,bl,1+(s.ops.length:Int),rd,true,e,f⟩:AG.As)]}:CS)=s.oper i b rd ok:=by unfold CS.oper;rw[if_neg bi.out,if_pos ⟨by rw[HE.out];simpa using bB.out,HR⟩,←aa];unfold CS.asd CS.bl;rw[bs,aZ,b6,aI]
 have bp:=dA ac;clear ac;have be:rN hs' r 6<=100000000:=by show r.ops.length<=_;rw[←aa];exact Nat.le_trans aq.2.1 oG
 have bo:=az.cell (k:=6) dG;have x:Below W5.heap.size W5 (W5.alloc (G #[I (i:Int),I c,I 0,I bl,I (1+(s.ops.length:Int)),bool rd,bool true,I e,I f] 178)).drew:=(a_ _ _).drew;have an:base<=(W5.alloc (G #[I (i:Int),I c,I 0,I bl,I (1+(s.ops.length:Int)),bool rd,bool true,I e,I f] 178)).drew.heap.size:=Nat.le_trans az.jd x.size;have N:=dA (az.later x);have bI:(W5.alloc (G #[I (i:Int),I c,I 0,I bl,I (1+(s.ops.length:Int)),bool rd,bool true,I e,I f] 178)).drew.cell? ⟨Wc,6,Z⟩=Y (v 6):=N.cell (k:=6) dG;have ak:dC W5.drew X #[I (i:Int),I c,I 0,I bl,I (1+(s.ops.length:Int)),bool rd,bool true,I e,I f] 178:=ax.drew;have L:dC (W5.alloc (G #[I (i:Int),I c,I 0,I bl,I (1+(s.ops.length:Int)),bool rd,bool true,I e,I f] 178)).drew X #[I (i:Int),I c,I 0,I bl,I (1+(s.ops.length:Int)),bool rd,bool true,I e,I f] 178:=ax.later x;have am:(W5.alloc (G #[I (i:Int),I c,I 0,I bl,I (1+(s.ops.length:Int)),bool rd,bool true,I e,I f] 178)).drew.ownsRow base 178 9 (v 6) (rN hs' r 6) (rX hs' r 6):=N.row 6 dG;have ai:∀j u,[I (i:Int),I c,I 0,I bl,I (1+(s.ops.length:Int)),bool rd,bool true,I e,I f][j]?=Y u->(W5.alloc (G #[I (i:Int),I c,I 0,I bl,I (1+(s.ops.length:Int)),bool rd,bool true,I e,I f] 178)).drew.cell? ((⟨W5.heap.size,0,Z⟩:Addr).add j)=Y u:=by intro j u hu;rw[Go.WideShapes.add_plain];refine(World.cell?_alloc_at _ _ _ _ sG).trans ?_;simpa using hu
 have HP:Hid (∀v' w3,w3.ownsRow base 178 9 v' (rN hs' r 6+1) (rX hs' r 6++[I (i:Int),I c,I 0,I bl,I (1+(s.ops.length:Int)),bool rd,bool true,I e,I f])->(W5.alloc (G #[I (i:Int),I c,I 0,I bl,I (1+(s.ops.length:Int)),bool rd,bool true,I e,I f] 178)).drew.grownBy w3 (v 6).ownBlock->(∃g',v'.ownBlock=Y g'/\((v 6).ownBlock=Y g'∨(W5.alloc (G #[I (i:Int),I c,I 0,I bl,I (1+(s.ops.length:Int)),bool rd,bool true,I e,I f] 178)).drew.heap.size<=g'/\(W5.alloc (G #[I (i:Int),I c,I 0,I bl,I (1+(s.ops.length:Int)),bool rd,bool true,I e,I f] 178)).drew.grownBy w3 none))->(w3.cell? ⟨Wc,6,Z⟩=Y (v 6)/\w3.frozen? ⟨Wc,6,Z⟩=false/\((dC w3 X #[I (i:Int),I c,I 0,I bl,I (1+(s.ops.length:Int)),bool rd,bool true,I e,I f] 178)/\(dC (w3.setCell ⟨Wc,6,Z⟩ v') X #[I (i:Int),I c,I 0,I bl,I (1+(s.ops.length:Int)),bool rd,bool true,I e,I f] 178))/\dR (w3.setCell ⟨Wc,6,Z⟩ v') Wc base (t+1) (gI v 6 v') true hs' {r with ops:=r.ops++[(⟨(i:Int),c,0,bl,1+(s.ops.length:Int),rd,true,e,f⟩:AG.As)]}/\dY (w3.setCell ⟨Wc,6,Z⟩ v') W2.heap.size l (fS ad)/\Below base w (w3.setCell ⟨Wc,6,Z⟩ v'))):=by
  intro v' w3 ho aA o;obtain⟨a1,a2,a3,a4,a5⟩:=dR.push (s':={r with ops:=r.ops++[(⟨(i:Int),c,0,bl,1+(s.ops.length:Int),rd,true,e,f⟩:AG.As)]}) (k:=6) (m:=1) dG N ho aA o rfl rfl ⟨rfl,rfl⟩ (by intro j hj b0;simp only[eR,List.mem_cons,List.mem_nil_iff,or_false]at hj;rcases hj with rfl|rfl|rfl|rfl|rfl|rfl|rfl|rfl|rfl|rfl<;>first|exact⟨rfl,rfl⟩|exact absurd rfl b0) (by show(r.ops++[(⟨(i:Int),c,0,bl,1+(s.ops.length:Int),rd,true,e,f⟩:AG.As)]).length=r.ops.length+1;simp) (by show(r.ops++[(⟨(i:Int),c,0,bl,1+(s.ops.length:Int),rd,true,e,f⟩:AG.As)]).flatMap lN=r.ops.flatMap lN++_;rw[List.flatMap_append];rfl)
  have o1:dC w3 X #[I (i:Int),I c,I 0,I bl,I (1+(s.ops.length:Int)),bool rd,bool true,I e,I f] 178:=L.same (aA.block _ L.lt (λF=>ap 6 dG F.symm));exact⟨a1,a2,⟨o1,o1.same ((dI.setCell w3 ⟨Wc,6,Z⟩ v').block _ aC)⟩,a3,(aT.later x).keep a5 N.blk dG (λg9 F=>eU (N.row 6 dG) F) dG,cf.trans ((x.mono az.jd).trans a4)⟩
 refine id ?_;case _=>
  refine eY (S:=λw'=>dC w' X #[I (i:Int),I c,I 0,I bl,I (1+(s.ops.length:Int)),bool rd,bool true,I e,I f] 178) (λ_=>?_) (hS:=ak);refine dB 0 ?_;refine dB 1 ?_;refine dB 2 ?_;refine dB 3 ?_;refine i8 5 X 0 [I (i:Int),I c,I 0,I bl,I (1+(s.ops.length:Int)),bool rd,bool true,I e,I f] ?_ (λw z=>z.range rfl);refine jC [4,6] ?_;refine .cons rfl (λK n=>?_) ?_;·(try go_simp);refine k1 n (λ_=>?_) ak;clear n K;refine dF 6 λK n=>?_;(try go_simp);refine k1 n (λ_=>?_) L;clear n K;refine dF 7 λK n=>?_;refine iX rfl (.tmp 102) (.tmp 104) 61 rfl base 178 i0 (.agg #[I 0,I 0,I 0,I 0,I 0,.bool false,.bool false,I 0,I 0]) 9 64 underlying61 aL aE aO aJ rfl dG (v 6) (rN hs' r 6) (rX hs' r 6) eG am ⟨W5.heap.size,0,Z⟩ 1 1 [I (i:Int),I c,I 0,I bl,I (1+(s.ops.length:Int)),bool rd,bool true,I e,I f] oG eG rfl ai (by intro u hu;simp at hu;rcases hu with rfl|rfl|rfl|rfl|rfl|rfl|rfl|rfl|rfl<;>rfl) xG oG an ?_;intro v' w3 D H o;obtain⟨b9,aY,rfl⟩:=dZ D;obtain⟨b4,b8,A,W⟩:=HP.out _ w3 D H o;clear D H o;refine k1 n (λ_=>?_) A.1;clear n K;refine dB 8 ?_;refine dB 9 ?_;refine dF 10 λK n=>?_;(try go_simp);refine k1 n (λ_=>?_) A.2;clear n K;refine dn ?_;go_wp2_with fail;refine bodyPost_end (v:=.tuple #[]) (by simp[results,results56,go_sem]) rfl ?_;have hR:=HR.out;subst hR;exact⟨rfl,ok,hs',aw,⟨_,by show dR _ _ _ _ _ _ _ (s.oper i b _ ok);rw[←bp.out];exact W.1⟩,W.2.2,M.1,by first|(rw[ag];exact M.2)|(rw[←a0.2.1];exact M.2)⟩
  refine .cons rfl (λK n=>?_) .nil;(try go_simp);refine k1 n (λ_=>?_) L;clear n K;refine dF 4 λK n=>?_;(try go_simp);refine k1 n (λ_=>?_) L;clear n K;refine dF 7 λK n=>?_;refine iX rfl (.tmp 102) (.tmp 104) 61 rfl base 178 i0 (.agg #[I 0,I 0,I 0,I 0,I 0,.bool false,.bool false,I 0,I 0]) 9 64 underlying61 aL aE aO aJ rfl dG (v 6) (rN hs' r 6) (rX hs' r 6) eG am ⟨W5.heap.size,0,Z⟩ 1 1 [I (i:Int),I c,I 0,I bl,I (1+(s.ops.length:Int)),bool rd,bool true,I e,I f] oG eG rfl ai (by intro u hu;simp at hu;rcases hu with rfl|rfl|rfl|rfl|rfl|rfl|rfl|rfl|rfl<;>rfl) xG oG an ?_;intro v' w3 D H o;obtain⟨b9,aY,rfl⟩:=dZ D;obtain⟨b4,b8,A,W⟩:=HP.out _ w3 D H o;clear D H o;refine k1 n (λ_=>?_) A.1;clear n K;refine dB 8 ?_;refine dB 9 ?_;refine dF 10 λK n=>?_;(try go_simp);refine k1 n (λ_=>?_) A.2;clear n K;refine dn ?_;go_wp2_with fail;refine bodyPost_end (v:=.tuple #[]) (by simp[results,results56,go_sem]) rfl ?_;have hR:=HR.out;subst hR;exact⟨rfl,ok,hs',aw,⟨_,by show dR _ _ _ _ _ _ _ (s.oper i b _ ok);rw[←bp.out];exact W.1⟩,W.2.2,M.1,by first|(rw[ag];exact M.2)|(rw[←a0.2.1];exact M.2)⟩
end Go.Proofs.YtdcainmlcpafbaaGreatDoor
