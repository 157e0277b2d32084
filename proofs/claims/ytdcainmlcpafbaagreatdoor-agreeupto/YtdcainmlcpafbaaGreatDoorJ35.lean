import Derived.Test.YtdcainmlcpafbaaGreatDoorJ34
set_option linter.all false
set_option maxHeartbeats 8000000
set_option maxRecDepth 20000
namespace Go.Proofs.YtdcainmlcpafbaaGreatDoor
open Go.RowKit
open Value renaming int->I,slice->J,pointer->P0
open Tryz
open Tryz renaming prog->pG
open IntKind renaming i64->T
open Option renaming none->Z,some->Y
open Obj renaming cells->G
open Value (bool)
structure jY(w:World)(Wc base:Nat)(v:Nat->Value)(nb:Int)(f:Bool)(N:Nat->Nat)(X:Nat->List Value):Prop where
 blk:dC w Wc (iW v nb f) 63
 row:∀k∈eO,w.ownsRow base (rT k) (rS k) (v k) (N k) (X k)
 sep:∀g,(v 3).ownBlock=some g->(v 10).ownBlock≠some g
section
variable {w w':World} {Wc base t t':Nat} {v:Nat->Value} {nb:Int} {f:Bool} {N:Nat->Nat} {X:Nat->List Value} {hs:List Ho} {s:CS}
theorem dP.cr(h:dP w Wc base t v f hs s):jY w Wc base v s.nb f (rN hs s) (rX hs s):=⟨h.blk,h.row,h.sep⟩
theorem jY.off(h:jY w Wc base v nb f N X){k:Nat}(b:k∈eO):(v k).ownBlock≠some Wc:=by intro d;obtain⟨c,a⟩:=eT (h.row k b) d;rw[h.blk.blk]at a;simp at a;exact DH k b a.2.symm
theorem jY.rsep(h:jY w Wc base v nb f N X){k j:Nat}(e:k∈eO)(i:j∈eO)(c:k≠j){g:Nat}(d:(v k).ownBlock=some g):(v j).ownBlock≠some g:=by
 intro b;obtain⟨n,l⟩:=eT (h.row k e) d;obtain⟨m,a⟩:=eT (h.row j i) b;rw[l]at a;simp at a;rcases C0 k e j i c a.2 with⟨rfl,rfl⟩|⟨rfl,rfl⟩;·exact h.sep g d b
 ·exact h.sep g b d
theorem jY.later(h:jY w Wc base v nb f N X)(b:Below w.heap.size w w'):jY w' Wc base v nb f N X:=⟨h.blk.later b,fun k a=>dO (h.row k a) (fun g c=>b.block g ((h.row k a).lt g c).2),h.sep⟩
theorem jY.cell(h:jY w Wc base v nb f N X){k:Nat}(a:k∈eO):w.cell? ⟨Wc,k,Z⟩=Y (v k):=(h.blk.cell k).trans (tM v nb f k a)
theorem jY.kz{k g n c:Nat}(t:k∈eO)(h:jY w Wc base v nb f N X)(o:v k=J (Y ⟨g,0,Z⟩) n c)(j:Nat)(u:Value):jY (w.setCell ⟨g,j,Z⟩ u) Wc base v nb f N (fun i=>if i=k then(X k).set j u else X i)/\dH g w (w.setCell ⟨g,j,Z⟩ u)/\w.frozen? ⟨g,j,Z⟩=false:=by
 have r:=dH.setCell w ⟨g,j,Z⟩ u;have b:=h.row k t;have q:n=N k:=by rw[o]at b;obtain⟨a,A,d⟩:=eB b;cases d;rfl
 subst q;have m:(v k).ownBlock=some g:=by rw[o];rfl
 have p:g≠Wc:=fun d=>h.off t (by rw[m,d]);rw[o]at b;have z:=(b.stored j u).1;obtain⟨x,l⟩:=eT b (g:=g) rfl;refine⟨⟨h.blk.same (r.block Wc (fun d=>p d.symm)),fun i hi=>?_,h.sep⟩,r,by simp[World.frozen?,l]⟩;by_cases e:i=k;·subst e;rw[if_pos rfl,o];exact z
 ·rw[if_neg e];exact dO (h.row i hi) (fun y s=>r.block y (fun d=>h.rsep hi t e s (by rw[m,d])))
theorem jY.at{k:Nat}(b:k∈eO)(h:jY w Wc base v nb f N X)(d:0<N k):∃g a,v k=J (Y ⟨g,0,Z⟩) (N k) a/\w.cell? ⟨Wc,k,Z⟩=Y (J (Y ⟨g,0,Z⟩) (N k) a)/\g<w.heap.size/\∀j u,(X k)[j]?=Y u->w.cell? ⟨g,j,Z⟩=Y u:=by obtain⟨g,a,e,c,i⟩:=(eY.gq (h.row k b)).at d;exact⟨g,a,e,by rw[←e];exact h.cell b,c,i⟩
theorem dP.renew{i:Nat}(h:dP w Wc base t v f hs s)(hi:i<hs.length)(W:i<s.ns.length){c:Ho}{n':AG.Nd}{Q:Int}(U:t<=t')(N:w.heap.size<=w'.heap.size)(S:jY w' Wc base v s.nb f (rN (hs.set i c) {s with ns:=s.ns.set i n',lv:=s.lv.set i Q}) (rX (hs.set i c) {s with ns:=s.ns.set i n',lv:=s.lv.set i Q}))(H:∀g,g<w.heap.size->g≠Wc->(∀k∈eO,(v k).ownBlock≠some g)->w'.heap[g]?=w.heap[g]?)(R:dU w')(V:fK w' c.Kn c.P t' c.C c.left n')(E:∀g,c.al g->w.heap.size<=g)(z:n'.id=s.ns[i].id/\n'.nodes=s.ns[i].nodes/\n'.nb=s.ns[i].nb):dP w' Wc base t' v f (hs.set i c) {s with ns:=s.ns.set i n',lv:=s.lv.set i Q}:=by
 have l:∀j (m:j<(hs.set i c).length),∀g,(hs.set i c)[j].al g->(j=i/\c.al g)∨(j≠i/\∃e:j<hs.length,hs[j].al g):=by
  intro j m g n;by_cases d:j=i;·subst d;simp only[List.getElem_set_self]at n;exact .inl ⟨rfl,n⟩
  ·rw[List.getElem_set_ne (fun y=>d y.symm)]at n;exact .inr ⟨d,by simpa using m,n⟩
 refine⟨S.blk,S.row,h.sep,by simp[h.hl],fun j m e=>?_,fun a b X H D g M F=>?_,fun k q g n j m p=>?_,fun j m p=>?_,⟨h.low.1,h.low.2.1,fun j m g p=>?_⟩,by simp[h.ll],by simp[h.n5],h.nb,R,?_⟩
 ·by_cases d:j=i;·subst d;simp only[List.getElem_set_self];exact V
  ·simp only[List.getElem_set_ne (fun y=>d y.symm)];have A:j<hs.length:=by simpa using m
   have u:j<s.ns.length:=by simpa using e
   have y:=h.host j A u;exact(y.same N (fun g n=>H g (y.lt g n).2 (fun L=>h.ng j A (L ▸ n)) (fun k q L=>h.lg k q g L j A n)) R).up U
 ·rcases l a X g M with⟨rfl,o⟩|⟨o,B,x⟩
  ·rcases l b H g F with⟨rfl,_⟩|⟨O,r,K⟩;·exact D rfl
   ·have:=((h.host b r (by rw[←h.hl];exact r)).lt g K).2;have:=E g o;omega
  ·rcases l b H g F with⟨rfl,O⟩|⟨O,r,K⟩;·have:=((h.host a B (by rw[←h.hl];exact B)).lt g x).2;have:=E g O;omega
   ·exact h.ap a b B r D g x K
 ·rcases l j m g p with⟨rfl,o⟩|⟨o,e,x⟩;·have:=((h.row k q).lt g n).2;have:=E g o;omega
  ·exact h.lg k q g n j e x
 ·rcases l j m Wc p with⟨rfl,o⟩|⟨o,e,x⟩;·have:=h.blk.lt;have:=E _ o;omega
  ·exact h.ng j e x
 ·rcases l j m g p with⟨rfl,o⟩|⟨o,e,x⟩;·have:=h.jd;have:=E g o;omega
  ·exact h.low.2.2 j e g x
 ·intro j m;have u:j<s.ns.length:=by simpa using m
  by_cases d:j=i;·subst d;simp only[List.getElem_set_self,List.length_set];have:=h.ids j u;rw[z.1,z.2.1,z.2.2];exact this
  ·simp only[List.getElem_set_ne (fun y=>d y.symm),List.length_set];exact h.ids j u
end
theorem nG{α:Type}{l:List α}{i:Nat}(h:i<l.length)(f:α->Value):(l.map f)[i]?=Y (f l[i]):=by rw[List.getElem?_map,List.getElem?_eq_getElem h];rfl
theorem NA(Wc base t:Nat)(hs:List Ho)(s:CS)(i:Nat)(keep:Int)(w:World)(h:CA w Wc base t true hs s)(hi:i<s.ns.length)(ht:t+1<=1000000)(aE:∀(bh:i<s.lv.length),0<=s.lv[i]/\s.lv[i]<=1000000000):Calls pG 49 #[P0 (Y ⟨Wc,0,Z⟩),I T (i:Int),I T keep] w fun q w'=>q=.returned (.tuple #[])/\∃n' hs',hs'.length=hs.length/\Cr (s.nd i) n'/\CA w' Wc base (t+1) true hs' {s with ns:=s.ns.set i n',lv:=s.lv.set i (s.lv.getD i 0+1)}/\Below base w w':=by
 obtain⟨v,h⟩:=h;have A:i<hs.length:=by rw[h.hl];exact hi
 have aj:i<s.lv.length:=by rw[h.ll.1];exact hi
 have bl:=h.n5;have bf:=h.hl;have aX:s.nd i=s.ns[i]:=CS.ku hi;have aO:s.lv.getD i 0=s.lv[i]:=by rw[List.getD_eq_getElem?_getD,List.getElem?_eq_getElem aj];rfl
 have aJ:=aE aj;rw[aO];obtain⟨r,am⟩:∃y,s.lv[i]=y:=⟨_,rfl⟩;rw[am]at aJ⊢;have HH:=dA h;have c:=dA h.cr;obtain⟨g2,bb,bg,c2,bo,N⟩:=c.out.at (k:=2) (by decide) (show 0<hs.length by omega);have x2:=N i _ (nG A (fun h=>P0 (Y ⟨h.P.H,0,Z⟩)));have ak:rN hs s 2=hs.length:=rfl;rw[ak]at c2;have bp:(0:Int)<=(i:Int)/\(i:Int)<(hs.length:Int):=by omega
 have aZ:(0:Int)<=(i:Int)/\(i:Int)<(s.lv.length:Int):=by omega
 have aF:=dA ((h.host i A hi).nd.ni (by omega) keep);have M:=h.ids i hi;clear h N aE;go_enter func49,ntmps49;go_wp2_with fail;refine aF.out.mono ?_;rintro q w1 ⟨rfl,C,a9⟩;clear aF c2 x2;have au:=dA (c.out.later a9);have av:=dA C;have Q:=dA a9;have s1:=a9.size;clear C a9;obtain⟨g1,b9,O,c1,bk,aG⟩:=au.out.at (k:=1) (by decide) (show 0<hs.length by omega);have x1:=aG i _ (nG A (fun h=>P0 (Y ⟨h.P.D,0,Z⟩)));have ao:rN hs s 1=hs.length:=rfl;rw[ao]at c1;obtain⟨W,p2,p3⟩:=au.out.kz (k:=1) (by decide) O i (P0 (Y ⟨w.heap.size+1,0,Z⟩));have ar:=dA W;have B:=dA p2;have bd:g1<w.heap.size:=by have b:=((c.out.row 1 (by decide)).lt g1 (by rw[O];rfl)).2;exact b
 clear aG W p2;go_upto_region 2 with fail;generalize aR:w1.setCell ⟨g1,i,Z⟩ (P0 (Y ⟨w.heap.size+1,0,Z⟩))=W2 at*;clear c1 x1 p3 aR;obtain⟨j,aP,o,c2,b8,N⟩:=ar.out.at (k:=2) (by decide) (show 0<hs.length by omega);have x2:=N i _ (show((rX hs s 2))[i]?=_ from nG A (fun h=>P0 (Y ⟨h.P.H,0,Z⟩)));rw[ak]at c2;obtain⟨W,p2,p3⟩:=ar.out.kz (k:=2) (by decide) o i (P0 (Y ⟨w.heap.size+2,0,Z⟩));have L:=dA W;have u:=dA p2;have b6:j<w.heap.size:=by have b:=((c.out.row 2 (by decide)).lt j (by rw[o];rfl)).2;exact b
 clear N W p2;go_upto_region 3 with fail;generalize aU:W2.setCell ⟨j,i,Z⟩ (P0 (Y ⟨w.heap.size+2,0,Z⟩))=F at*;clear c2 x2 p3 aU;have z2:W2.heap.size=w1.heap.size:=B.out.size;have z3:F.heap.size=W2.heap.size:=u.out.size;have ab:Hid (pQ F s.ns[i] t w.heap.size (w.heap.size+1) (w.heap.size+2) w.heap.size w.heap.size):=av.out.same (by omega) (fun g V _=>(u.out.block g (by omega)).trans (B.out.block g (by omega)));have a5:dU F:=by
  have aK:=HH.out.low;have a1:g1≠0/\g1≠1:=by have b:=((c.out.row 1 (by decide)).lt g1 (by rw[O];rfl)).1;omega
  have a2:j≠0/\j≠1:=by have b:=((c.out.row 2 (by decide)).lt j (by rw[o];rfl)).1;omega
  have t1:=HH.out.tabs.below Q HH.out.tabs.two;exact(t1.below (B.out.below (by omega)) (Nat.le_refl 2)).below (u.out.below (by omega)) (Nat.le_refl 2)
 have al:dU F.drew:=a5.below (b_.drew) a5.two;have a3:=dA ((ab.out.same (w':=F.drew) r_ (fun _ _ _=>rfl)).new (by omega) al (by show w.heap.size<=F.heap.size;omega) (by have:=HH.out.low;have:=HH.out.jd;omega));rw[M.1,M.2.1,M.2.2]at a3;obtain⟨f,m,bc,ai,aB,aa⟩:=L.out.at (k:=1) (by decide) (show 0<hs.length by omega);have aA:=aa i (P0 (Y ⟨w.heap.size+1,0,Z⟩)) (by show((rX hs s 1).set i (P0 (Y ⟨w.heap.size+1,0,Z⟩)))[i]?=_;rw[List.getElem?_set_self (by show i<(hs.map _).length;simpa using A)]);rw[ao]at ai;have ad:=L.out.cell (k:=0) (by decide);obtain⟨a0,X,aH⟩:=eB (L.out.row 0 (by decide));have az:rN hs s 0=hs.length:=rfl;rw[aH,az]at ad;have ae:=L.out.blk.cell 4;simp at ae;have aM:(s.ns.length:Int)=(hs.length:Int):=by omega
 rw[aM]at a3;have gB:=dA (⟨ai,aA,ad,ae⟩:F.cell? ⟨Wc,1,Z⟩=Y (J (Y ⟨f,0,Z⟩) hs.length m)/\F.cell? ⟨f,i,Z⟩=Y (P0 (Y ⟨w.heap.size+1,0,Z⟩))/\F.cell? ⟨Wc,0,Z⟩=Y (J a0 hs.length X)/\F.cell? ⟨Wc,4,Z⟩=Y (I T s.nb));clear aa ai aA ad ae;go_cut [8,9] (fun s8 s9 wx=>∃Kn Nd Mp C' n',s8=P0 (Y ⟨Kn,0,Z⟩)/\s9=I T 0/\fK wx Kn ⟨w.heap.size,Nd,Mp,w.heap.size+1,w.heap.size+2,w.heap.size⟩ (t+1) C' (-1) n'/\Cr s.ns[i] n'/\(∀g,C' g∨g=Kn->w.heap.size<=g)/\Below F.heap.size F wx);case first=>refine eR (S:=fun w'=>w'.cell? ⟨Wc,1,Z⟩=Y (J (Y ⟨f,0,Z⟩) hs.length m)/\w'.cell? ⟨f,i,Z⟩=Y (P0 (Y ⟨w.heap.size+1,0,Z⟩))/\w'.cell? ⟨Wc,0,Z⟩=Y (J a0 hs.length X)/\w'.cell? ⟨Wc,4,Z⟩=Y (I T s.nb)) (fun _=>?_) (hS:=gB);refine dB 0 ?_;refine dB 1 ?_;refine dB 2 ?_;refine dB 3 ?_;refine dB 4 (v:=J a0 hs.length X) ?_ (hy:=fun w n=>by have b:=n.2.2.1;go_simp);refine dB 5 ?_;refine dB 6 ?_;refine dB 7 ?_;refine dB 8 ?_;refine dB 9 (v:=I T s.nb) ?_ (hy:=fun w n=>by have b:=n.2.2.2;go_simp);refine dB 10 ?_;refine dB 11 ?_;refine dB 12 ?_;refine dB 13 (v:=J (Y ⟨f,0,Z⟩) hs.length m) ?_ (hy:=fun w n=>by have b:=n.1;go_simp);refine dB 14 ?_;refine dB 15 (v:=P0 (Y ⟨f,i,Z⟩)) ?_ (hy:=fun w n=>by go_simp);refine dB 16 (v:=P0 (Y ⟨w.heap.size+1,0,Z⟩)) ?_ (hy:=fun w n=>by have b:=n.2.1;go_simp);refine dE 17 fun K hK=>?_;(try go_simp);go_at_call 66;refine a3.out.mono ?_;rintro q w4 ⟨Kn,Nd,Mp,C',n',rfl,a6,C,a7,aY⟩;have d:Below F.heap.size F w4:=b_.drew.trans aY;have ah:=L.out.blk.lt;have ag:w4.cell? ⟨Wc,1,Z⟩=Y (J (Y ⟨f,0,Z⟩) hs.length m)/\w4.cell? ⟨f,i,Z⟩=Y (P0 (Y ⟨w.heap.size+1,0,Z⟩))/\w4.cell? ⟨Wc,0,Z⟩=Y (J a0 hs.length X)/\w4.cell? ⟨Wc,4,Z⟩=Y (I T s.nb):=⟨(d.cell (p:=⟨Wc,1,Z⟩) ah).trans gB.out.1,(d.cell (p:=⟨f,i,Z⟩) aB).trans gB.out.2.1,(d.cell (p:=⟨Wc,0,Z⟩) ah).trans gB.out.2.2.1,(d.cell (p:=⟨Wc,4,Z⟩) ah).trans gB.out.2.2.2⟩;refine k1 hK (fun _=>?_) ag;clear hK K;refine dB 18 ?_;refine dB 19 ?_;refine dB 20 ?_;refine dE 21 fun K hK=>?_;(try go_simp);refine k1 hK (fun _=>?_) ag;clear hK K;refine dE 22 fun K hK=>?_;(try go_simp);refine k1 hK (fun _=>?_) ag;clear hK K;refine dn ?_;go_wp2_with fail;go_meet;exact⟨Kn,Nd,Mp,C',n',rfl,rfl,a6,C,a7,d⟩
 case rest=>
 obtain⟨Kn,Nd,Mp,C',n',rfl,rfl,a6,C,a7,d⟩:=hcut;obtain⟨W4,aN⟩:∃y,y=wc:=⟨_,rfl⟩;subst aN;have ap:=dA (L.out.later d);have an:=dA a6;have R:=dA d;have z4:=d.size;have bm:=fun a w=>B5 a w;clear a6 d a3 gB av ab;obtain⟨g0,b7,E,c0,bi,ay⟩:=ap.out.at (k:=0) (by decide) (show 0<hs.length by omega);have x0:=ay i _ (show(rX hs s 0)[i]?=_ from nG A (fun h=>P0 (Y ⟨h.Kn,0,Z⟩)));rw[az]at c0;obtain⟨W,p2,p3⟩:=ap.out.kz (k:=0) (by decide) E i (P0 (Y ⟨Kn,0,Z⟩));have aC:=dA W;have x:=dA p2;have b4:g0<w.heap.size:=by have b:=((c.out.row 0 (by decide)).lt g0 (by rw[E];rfl)).2;exact b
 clear ay W p2;go_upto_region 7 with fail;generalize aT:W4.setCell ⟨g0,i,Z⟩ (P0 (Y ⟨Kn,0,Z⟩))=W5 at*;clear c0 x0 p3 aT;obtain⟨U,b5,a8,c3,bj,ax⟩:=aC.out.at (k:=3) (by decide) (show 0<s.lv.length by omega);have x3:=ax i _ (show(rX hs s 3)[i]?=_ from nG aj (I T));have aQ:rN hs s 3=s.lv.length:=rfl;rw[aQ]at c3;rw[am]at x3;obtain⟨W,p2,p3⟩:=aC.out.kz (k:=3) (by decide) a8 i (I T (r+1));have aI:=dA W;have z:=dA p2;have ba:U<w.heap.size:=by have b:=((c.out.row 3 (by decide)).lt U (by rw[a8];rfl)).2;exact b
 have bn:IntKind.i64.wrap (r+1)=r+1:=IntWalk.i64_in _ (by omega);have z5:W5.heap.size=W4.heap.size:=x.out.size;have z6:(W5.setCell ⟨U,i,Z⟩ (I T (r+1))).heap.size=W5.heap.size:=z.out.size;have aD:Hid (∀g,g≠g1->g≠j->g≠g0->g≠U->g<w.heap.size->(W5.setCell ⟨U,i,Z⟩ (I T (r+1))).heap[g]?=w.heap[g]?):=fun g h1 h2 h0 h3 V=>(z.out.block g h3).trans ((x.out.block g h0).trans ((R.out.block g (by omega)).trans ((u.out.block g h2).trans ((B.out.block g h1).trans (Q.out.block g V)))));have aL:Hid (∀g,w.heap.size<=g->g<W4.heap.size->(W5.setCell ⟨U,i,Z⟩ (I T (r+1))).heap[g]?=W4.heap[g]?):=fun g h1 h2=>(z.out.block g (by omega)).trans (x.out.block g (by omega));have aV:dU W4:=a5.below R a5.two;have aK:=HH.out.low;have b1:base<=g1:=((c.out.row 1 (by decide)).lt g1 (by rw[O];rfl)).1;have b2:base<=j:=((c.out.row 2 (by decide)).lt j (by rw[o];rfl)).1;have b0:base<=g0:=((c.out.row 0 (by decide)).lt g0 (by rw[E];rfl)).1;have b3:base<=U:=((c.out.row 3 (by decide)).lt U (by rw[a8];rfl)).1;have aw:dU (W5.setCell ⟨U,i,Z⟩ (I T (r+1))):=(aV.below (x.out.below (by omega)) (Nat.le_refl 2)).below (z.out.below (by omega)) (Nat.le_refl 2);have be:=HH.out.jd;have ac:dP (W5.setCell ⟨U,i,Z⟩ (I T (r+1))) Wc base (t+1) v true (hs.set i ⟨Kn,⟨w.heap.size,Nd,Mp,w.heap.size+1,w.heap.size+2,w.heap.size⟩,C',-1⟩) {s with ns:=s.ns.set i n',lv:=s.lv.set i (r+1)}:=by
  refine HH.out.renew A hi (by omega) (by omega) ?_ ?_ aw ?_ (fun g V=>a7 g V) ?_
  ·have hr:=aI.out;refine⟨hr.blk,fun k hk=>?_,hr.sep⟩;have b:=hr.row k hk;have af:=hk;simp only[eO,List.mem_cons,List.mem_nil_iff,or_false]at af;have eN:rN (hs.set i ⟨Kn,⟨w.heap.size,Nd,Mp,w.heap.size+1,w.heap.size+2,w.heap.size⟩,C',-1⟩) {s with ns:=s.ns.set i n',lv:=s.lv.set i (r+1)} k=rN hs s k:=by rcases af with rfl|rfl|rfl|rfl|rfl|rfl|rfl|rfl|rfl|rfl<;>simp[rN]
   rw[eN];rcases af with rfl|rfl|rfl|rfl|rfl|rfl|rfl|rfl|rfl|rfl
   ·have e:rX (hs.set i ⟨Kn,⟨w.heap.size,Nd,Mp,w.heap.size+1,w.heap.size+2,w.heap.size⟩,C',-1⟩) {s with ns:=s.ns.set i n',lv:=s.lv.set i (r+1)} 0=(rX hs s 0).set i (P0 (Y ⟨Kn,0,Z⟩)):=by show(hs.set i _).map _=(hs.map _).set i _;rw[List.map_set]
    rw[e];exact b
   ·have e:rX (hs.set i ⟨Kn,⟨w.heap.size,Nd,Mp,w.heap.size+1,w.heap.size+2,w.heap.size⟩,C',-1⟩) {s with ns:=s.ns.set i n',lv:=s.lv.set i (r+1)} 1=(rX hs s 1).set i (P0 (Y ⟨w.heap.size+1,0,Z⟩)):=by show(hs.set i _).map _=(hs.map _).set i _;rw[List.map_set]
    rw[e];exact b
   ·have e:rX (hs.set i ⟨Kn,⟨w.heap.size,Nd,Mp,w.heap.size+1,w.heap.size+2,w.heap.size⟩,C',-1⟩) {s with ns:=s.ns.set i n',lv:=s.lv.set i (r+1)} 2=(rX hs s 2).set i (P0 (Y ⟨w.heap.size+2,0,Z⟩)):=by show(hs.set i _).map _=(hs.map _).set i _;rw[List.map_set]
    rw[e];exact b
   ·have e:rX (hs.set i ⟨Kn,⟨w.heap.size,Nd,Mp,w.heap.size+1,w.heap.size+2,w.heap.size⟩,C',-1⟩) {s with ns:=s.ns.set i n',lv:=s.lv.set i (r+1)} 3=(rX hs s 3).set i (I T (r+1)):=by show(s.lv.set i _).map _=(s.lv.map _).set i _;rw[List.map_set]
    rw[e];exact b
   all_goals exact b
  ·intro g V _ a4;exact aD.out g (fun b=>a4 1 (by decide) (by rw[b,O];rfl)) (fun b=>a4 2 (by decide) (by rw[b,o];rfl)) (fun b=>a4 0 (by decide) (by rw[b,E];rfl)) (fun b=>a4 3 (by decide) (by rw[b,a8];rfl)) V
  ·exact an.out.same (by omega) (fun g V=>aL g (a7 g V) (an.out.lt g V).2) aw
  ·rcases C with⟨l,rfl,_⟩|⟨_,l,rfl,_⟩<;>exact⟨rfl,rfl,rfl⟩
 have aq:Below base w (W5.setCell ⟨U,i,Z⟩ (I T (r+1))):=⟨z.out.os.trans (x.out.os.trans (R.out.os.trans (u.out.os.trans (B.out.os.trans Q.out.os)))),z.out.tape.trans (x.out.tape.trans (R.out.tape.trans (u.out.tape.trans (B.out.tape.trans Q.out.tape)))),z.out.output.trans (x.out.output.trans (R.out.output.trans (u.out.output.trans (B.out.output.trans Q.out.output)))),by omega,fun g V=>aD g (by omega) (by omega) (by omega) (by omega) (by omega)⟩;have aW:=dA ac;have aS:=dA aq;clear ac aq ax;go_wp2_with fail;refine bodyPost_end (v:=.tuple #[]) (by simp[results,results49,go_sem]) rfl ?_;refine⟨rfl,n',_,by simp,by rw[aX];exact C,⟨_,aW⟩,aS⟩
theorem dP.frame{w w':World}{Wc base t:Nat}{v:Nat->Value}{f:Bool}{hs:List Ho}{s:CS}{X:Nat}(h:dP w Wc base t v f hs s)(a:dH X w w')(p:X≠Wc)(n:∀k∈eO,(v k).ownBlock≠some X)(o:∀j (i:j<hs.length),¬hs[j].al X)(r:base<=X):dP w' Wc base t v f hs s/\Below base w w':=by
 have q:=h.low;have m:dU w':=h.tabs.below (a.below (by omega)) (Nat.le_refl 2);have c:w.heap.size<=w'.heap.size:=by rw[a.size];exact Nat.le_refl _
 refine⟨⟨h.blk.same (a.block Wc (fun b=>p b.symm)),fun k l=>dO (h.row k l) (fun g d=>a.block g (fun b=>n k l (b ▸ d))),h.sep,h.hl,fun j i e=>(h.host j i e).same c (fun g d=>a.block g (fun b=>o j i (b ▸ d))) m,h.ap,h.lg,h.ng,h.low,h.ll,h.n5,h.nb,m,h.ids⟩,?_⟩;exact⟨a.os,a.tape,a.output,c,fun g d=>a.block g (by omega)⟩
theorem dP.did2{w w':World}{Wc base t:Nat}{v:Nat->Value}{f:Bool}{hs:List Ho}{s:CS}{i:Nat}(h:dP w Wc base t v f hs s)(hi:i<hs.length)(d:i<s.ns.length){n:Int}{F:AG.Nd×List (Int×AG.Ms)}{ok:Bool}{l:Value}(r:i2 hs[i].Kn hs[i].P t hs[i].C hs[i].left n F ok l w w')(g:F.1.id=s.ns[i].id/\F.1.nodes=s.ns[i].nodes/\F.1.nb=s.ns[i].nb):dW w' w.heap.size l (fP F.2)/\eJ n F.2/\∃hs',hs'.length=hs.length/\dP w' Wc base (t+1) v f hs' {s with ns:=s.ns.set i F.1}/\Below base w w'/\((Qt hs->ok=true/\Qt hs')/\eJ n F.2)/\∀X,X<w.heap.size->(∀j (e:j<hs.length),¬hs[j].al X)->∀j (e:j<hs'.length),¬hs'[j].al X:=by
 obtain⟨u,k,C',H,A,o,y⟩:=r;obtain⟨a1,D⟩:=h.call (t':=t+1) hi d (by omega) A o g;refine⟨u,k,_,by simp,a1,D,⟨fun m=>?_,k⟩,fun X E p j e c=>?_⟩
 ·obtain⟨q,z⟩:=y (m _ (List.getElem_mem hi));refine⟨q,fun x B=>?_⟩;rcases List.mem_or_eq_of_mem_set B with a|a;·exact m x a
  ·rw[a];exact z
 ·by_cases b:j=i
  ·subst b;simp only[List.getElem_set_self]at c;rcases o.grow X c with a|a;·exact p j hi a
   ·omega
  ·rw[List.getElem_set_ne (fun a=>b a.symm)]at c;exact p j (by simpa using e) c
def CS.bl(s:CS)(b:Int):Int:=eV b%s.nb
def CS.jk(s:CS)(i:Nat)(b:Int)(rd ok:Bool):AG.Nd×List (Int×AG.Ms)×Int:=(s.nd i).operate (s.bl b) (bif rd then(s.nd i).d.bk (s.bl b) else 1+(s.ops.length:Int)) ok
def CS.asd(s:CS)(i:Nat)(b op:Int)(rd dn:Bool):AG.As:=⟨i,s.lv.getD i 0,op,s.bl b,1+(s.ops.length:Int),rd,dn,(jX s.rs).1,(jX s.rs).2⟩
def CS.oper(s:CS)(i:Nat)(b:Int)(rd ok:Bool):CS:=
 if(s.jk i b rd ok).2.2=0 then{s with ns:=s.ns.set i (s.jk i b rd ok).1,net:=s.net++(s.jk i b rd ok).2.1,ops:=s.ops++[s.asd i b ((s.nd i).ops+1) rd false]}
 else if(s.jk i b rd ok).2.2=3/\rd=false then{s with ns:=s.ns.set i (s.jk i b rd ok).1,ops:=s.ops++[s.asd i b 0 rd true]}
 else{s with ns:=s.ns.set i (s.jk i b rd ok).1}
def PF(Wc base t:Nat)(hs:List Ho)(F:Bool->CS)(n:Int)(O:Bool->List (Int×AG.Ms))(w w':World):Prop:=∃ok hs',hs'.length=hs.length/\CA w' Wc base (t+1) true hs' (F ok)/\Below base w w'/\((Qt hs->ok=true/\Qt hs')/\eJ n (O ok))
theorem LX:(Tryz.prog.info? 178).map (fun i=>(i.zero,i.size,i.bytes))=Y (Y (.agg #[I T 0,I T 0,I T 0,I T 0,I T 0,.bool false,.bool false,I T 0,I T 0]),9,64):=by kernel_rfl
theorem GN(hLO:jA)(hUO:i9)(hSO:eW)(hBW:eZ)(hBS:fA)(Wc base t:Nat)(hs:List Ho)(s:CS)(i:Nat)(b:Int)(c:Bool)(w:World)(h:CA w Wc base t true hs s)(hi:i<s.ns.length)(ht:t+1<=1000000)(hb:i_ b)(ar:s.net.length<=50000000/\s.ops.length<=50000000/\s.rs.length<=100000000)(aG:pJ s i (fun ok=>((s.jk i b c ok).1,(s.jk i b c ok).2.1))):Calls pG 56 #[P0 (Y ⟨Wc,0,Z⟩),I T (i:Int),I T b,bool c] w fun q w'=>q=.returned (.tuple #[])/\PF Wc base t hs (fun ok=>s.oper i b c ok) (s.nd i).nodes (fun ok=>(s.jk i b c ok).2.1) w w':=by
 obtain⟨v,h⟩:=h;obtain⟨i0,aM,aF,aP,aK⟩:=info_parts LX;have W:i<hs.length:=by rw[h.hl];exact hi
 have bK:i<s.lv.length:=by rw[h.ll.1];exact hi
 have cn:=h.n5;have bi:=h.hl;have ah:s.nd i=s.ns[i]:=CS.ku hi;have bt:s.lv.getD i 0=s.lv[i]:=by rw[List.getD_eq_getElem?_getD,List.getElem?_eq_getElem bK];rfl
 have cm:=h.nb;have c4:=h.blk.cell 4;simp at c4;have bu:=dA (mX b s.nb w (by omega) hb.1 hb.2);obtain⟨a7,cf,bI⟩:=eB (h.row 7 (by decide));have c7:=h.cell (k:=7) (by decide);have b4:=eY.gq (h.row 7 (by decide));rw[bI]at c7 b4;have bA:=dA (N6 Wc a7 cf s.rs w c7 h.blk.lt b4 ar.2.2);have HH:=dA h;have bg:=dA aG;clear h b4 c7 aG;go_enter func56,ntmps56;go_wp2_with fail;refine bu.out.mono ?_;rintro q w1 ⟨rfl,c5⟩;obtain rfl:=c5.symm;obtain⟨bl,aJ⟩:∃y,eV b%s.nb=y:=⟨_,rfl⟩;rw[aJ];go_wp2_with fail;refine bA.out.mono ?_;rintro q w1 ⟨rfl,bd⟩;have V:=dA (HH.out.later bd);have cc:=dA (bd.mono HH.out.jd);obtain⟨⟨f,n⟩,b7⟩:∃y:Int×Int,jX s.rs=y:=⟨_,rfl⟩;rw[b7];clear bu bA bd c4;go_upto_region 2 with fail;obtain⟨g3,ai,c9,c3,L,az⟩:=V.out.ones (k:=3) (by decide) (show 0<s.lv.length by omega);have x3:=az i _ (show(rX hs s 3)[i]?=_ from nG bK (I T));have bX:rN hs s 3=s.lv.length:=rfl;rw[bX]at c3;obtain⟨e,b0⟩:∃y,s.lv[i]=y:=⟨_,rfl⟩;rw[b0]at x3;obtain⟨a6,aH,bh⟩:=eB (V.out.row 6 (by decide));have c6:=V.out.cell (k:=6) (by decide);rw[bh]at c6;have bS:rN hs s 6=s.ops.length:=rfl;rw[bS]at c6;have be:(0:Int)<=(i:Int)/\(i:Int)<(s.lv.length:Int):=by omega
 have bF:IntKind.i64.wrap (1+(s.ops.length:Int))=1+(s.ops.length:Int):=IntWalk.i64_in _ (by omega);have aR:=V.out.blk.lt;have a9:=dA (⟨c3,x3,c6⟩:w1.cell? ⟨Wc,3,Z⟩=Y (J (Y ⟨g3,0,Z⟩) s.lv.length ai)/\w1.cell? ⟨g3,i,Z⟩=Y (I T e)/\w1.cell? ⟨Wc,6,Z⟩=Y (J a6 s.ops.length aH));clear az c3 x3 c6 bh c9 bI;go_cut [10] (fun s10 wx=>s10=P0 (Y ⟨w1.heap.size,0,Z⟩)/\Below w1.heap.size w1 wx/\dC wx w1.heap.size #[I T (i:Int),I T e,I T 0,I T bl,I T (1+(s.ops.length:Int)),bool c,bool false,I T f,I T n] 178);case first=>refine eR (S:=fun w'=>w'.cell? ⟨Wc,3,Z⟩=Y (J (Y ⟨g3,0,Z⟩) s.lv.length ai)/\w'.cell? ⟨g3,i,Z⟩=Y (I T e)/\w'.cell? ⟨Wc,6,Z⟩=Y (J a6 s.ops.length aH)) (fun _=>?_) (hS:=a9);refine dB 0 ?_;refine dB 1 ?_;refine dB 2 ?_;refine dB 3 ?_;refine dB 4 (v:=J (Y ⟨g3,0,Z⟩) s.lv.length ai) ?_ (hy:=fun w A=>by have H:=A.1;go_simp);refine dB 5 ?_;refine dB 6 (v:=P0 (Y ⟨g3,i,Z⟩)) ?_ (hy:=fun w A=>by go_simp);refine dB 7 (v:=I T e) ?_ (hy:=fun w A=>by have H:=A.2.1;go_simp);refine dB 8 ?_;refine dB 9 ?_;refine dB 10 ?_;refine dB 11 ?_;refine dB 12 (v:=J a6 s.ops.length aH) ?_ (hy:=fun w A=>by have H:=A.2.2;go_simp);refine dB 13 ?_;refine dB 14 (v:=I T (1+(s.ops.length:Int))) ?_ (hy:=fun w A=>by first|(go_simp;done)|(go_simp;rw[bF]));refine dB 15 ?_;refine dB 16 ?_;refine dB 17 ?_;refine dB 18 (v:=.agg #[I T (i:Int),I T e,I T 0,I T bl,I T (1+(s.ops.length:Int)),bool c,bool false,I T f,I T n]) ?_ (hy:=fun w A=>by first|(go_simp;done)|(go_simp;rfl));refine dE 19 fun K o=>?_;(try go_simp);have hZ:dC (w1.alloc (G #[I T 0,I T 0,I T 0,I T 0,I T 0,bool false,bool false,I T 0,I T 0] 178)).drew w1.heap.size #[I T 0,I T 0,I T 0,I T 0,I T 0,bool false,bool false,I T 0,I T 0] 178:=(dC.new w1 _ 178).drew;have z:Below w1.heap.size w1 (w1.alloc (G #[I T 0,I T 0,I T 0,I T 0,I T 0,bool false,bool false,I T 0,I T 0] 178)).drew:=(a_ _ _).drew;generalize (World.alloc _ _).drew=WA at*;have M:WA.cell? ⟨Wc,3,Z⟩=Y (J (Y ⟨g3,0,Z⟩) s.lv.length ai)/\WA.cell? ⟨g3,i,Z⟩=Y (I T e)/\WA.cell? ⟨Wc,6,Z⟩=Y (J a6 s.ops.length aH):=⟨(z.cell (p:=⟨Wc,3,Z⟩) aR).trans a9.out.1,(z.cell (p:=⟨g3,i,Z⟩) L).trans a9.out.2.1,(z.cell (p:=⟨Wc,6,Z⟩) aR).trans a9.out.2.2⟩;refine k1 o (fun _=>?_) M;clear o K;have aG:=k9 (P:=pG) (t:=178) (i:=0) (vs:=#[I T (i:Int),I T e,I T 0,I T bl,I T (1+(s.ops.length:Int)),bool c,bool false,I T f,I T n]) hZ (by kernel_rfl) (by simp) (by intro u hu;simp at hu;rcases hu with rfl|rfl|rfl|rfl|rfl|rfl|rfl|rfl|rfl<;>rfl) #[I T (i:Int),I T e,I T 0,I T bl,I T (1+(s.ops.length:Int)),bool c,bool false,I T f,I T n] rfl;have ap:=jU WA w1.heap.size #[I T (i:Int),I T e,I T 0,I T bl,I T (1+(s.ops.length:Int)),bool c,bool false,I T f,I T n];have aO:Below w1.heap.size w1 (WA.setRow w1.heap.size #[I T (i:Int),I T e,I T 0,I T bl,I T (1+(s.ops.length:Int)),bool c,bool false,I T f,I T n]):=⟨ap.os.trans z.os,ap.tape.trans z.tape,ap.output.trans z.output,by rw[ap.size];exact z.size,fun g hg=>(ap.block g (by omega)).trans (z.block g hg)⟩;refine D0 20 178 (.tmp 10) (.tmp 43) aG ⟨(aO.cell (p:=⟨Wc,3,Z⟩) aR).trans a9.out.1,(aO.cell (p:=⟨g3,i,Z⟩) L).trans a9.out.2.1,(aO.cell (p:=⟨Wc,6,Z⟩) aR).trans a9.out.2.2⟩ ?_;go_wp2_with fail;go_meet;exact⟨rfl,aO,hZ.row⟩
 case rest=>
 obtain⟨rfl,b6,aX⟩:=hcut;obtain⟨W2,bZ⟩:∃y,y=wc:=⟨_,rfl⟩;subst bZ;obtain⟨X,hX⟩:∃y,w1.heap.size=y:=⟨_,rfl⟩;have Q:=dA (V.out.later b6);have bW:=dA (cc.out.trans (b6.mono V.out.jd));have aD:X≠Wc:=by omega
 have b2:∀j (hj:j<hs.length),¬hs[j].al X:=fun j hj H=>by have:=((V.out.host j hj (by rw[←bi];exact hj)).lt _ H).2;omega
 have aq:∀k∈eO,(v k).ownBlock≠some X:=fun k hk H=>by have:=((V.out.row k hk).lt _ H).2;omega
 rw[hX]at aX;have af:=dA aX;clear b6 aX a9 bF be;obtain⟨g0,aa,bP,c0,bQ,bB⟩:=Q.out.ones (k:=0) (by decide) (show 0<hs.length by omega);have x0:=bB i _ (show(rX hs s 0)[i]?=_ from nG W (fun h=>P0 (Y ⟨h.Kn,0,Z⟩)));have cb:rN hs s 0=hs.length:=rfl;rw[cb]at c0;have cp:(0:Int)<=(i:Int)/\(i:Int)<(hs.length:Int):=by omega
 clear bB bP;have aW:∀ok,s.jk i b c ok=s.ns[i].operate bl (bif c then s.ns[i].d.bk bl else 1+(s.ops.length:Int)) ok:=by intro ok;unfold CS.jk CS.bl;rw[ah,aJ]
 have aE:=dA aW;clear aW;have a8:=Q.out.ids i hi;obtain⟨R,hR⟩:∃y,c=y:=⟨_,rfl⟩;have HR:=dA hR;clear hR;rw[HR.out];cases R;focus
  have bO:=dA ((Q.out.host i W hi).write hLO hUO hSO hBW hBS ht bl (1+(s.ops.length:Int)) (by omega))
  have y4:=af.out.cell 4;simp at y4
  go_upto_region 8 with fail
  rw[hX]
  have aw:=dA (⟨c0,x0⟩:W2.cell? ⟨Wc,0,Z⟩=Y (J (Y ⟨g0,0,Z⟩) hs.length aa)/\W2.cell? ⟨g0,i,Z⟩=Y (P0 (Y ⟨hs[i].Kn,0,Z⟩)))
  have bM:fK W2.drew hs[i].Kn hs[i].P t hs[i].C hs[i].left s.ns[i]:=(Q.out.host i W hi).same r_ (fun _ _=>rfl) (Q.out.tabs.below (b_.drew) Q.out.tabs.two)
  have bY:=dA (bM.write hLO hUO hSO hBW hBS ht bl (1+(s.ops.length:Int)) (by omega))
  clear c0 x0 y4 bO bM
  go_cut [11,12,13] (fun s11 s12 s13 wx=>∃ok,s12=I T (s.jk i b c ok).2.2/\s13=I T (bif (s.jk i b c ok).2.2==0 then s.ns[i].ops+1 else 0)/\i2 hs[i].Kn hs[i].P t hs[i].C hs[i].left s.ns[i].nodes ((s.jk i b c ok).1,(s.jk i b c ok).2.1) ok s11 W2 wx)
  case first=>
   refine eR (S:=fun w'=>w'.cell? ⟨Wc,0,Z⟩=Y (J (Y ⟨g0,0,Z⟩) hs.length aa)/\w'.cell? ⟨g0,i,Z⟩=Y (P0 (Y ⟨hs[i].Kn,0,Z⟩))/\dC w' X #[I T (i:Int),I T e,I T 0,I T bl,I T (1+(s.ops.length:Int)),bool c,bool false,I T f,I T n] 178) (fun _=>?_) (hS:=⟨aw.out.1,aw.out.2,af.out.drew⟩)
   refine dB 0 ?_;refine dB 1 ?_;refine dB 2 ?_
   refine dB 3 (v:=J (Y ⟨g0,0,Z⟩) hs.length aa) ?_ (hy:=fun w A=>by have H:=A.1;go_simp)
   refine dB 4 ?_
   refine dB 5 (v:=P0 (Y ⟨g0,i,Z⟩)) ?_ (hy:=fun w A=>by go_simp)
   refine dB 6 (v:=P0 (Y ⟨hs[i].Kn,0,Z⟩)) ?_ (hy:=fun w A=>by have H:=A.2.1;go_simp)
   refine dB 7 ?_;refine dB 8 ?_
   refine dB 9 (v:=I T (1+(s.ops.length:Int))) ?_ (hy:=fun w A=>by have H:=A.2.2.cell 4;simp at H;go_simp)
   refine dE 10 fun K o=>?_
   (try go_simp)
   go_at_call 90
   refine bY.out.mono ?_
   rintro q w3 ⟨l,ok,rfl,aN⟩
   have aV:i2 hs[i].Kn hs[i].P t hs[i].C hs[i].left s.ns[i].nodes ((s.jk i b c ok).1,(s.jk i b c ok).2.1) ok l W2 w3:=by
    rw[aE.out,HR.out]
    obtain⟨k1,k2,C',l',k3,k4,k5⟩:=aN
    exact⟨k1,k2,C',l',k3,k4.pre (b_.drew),k5⟩
   rw[show s.ns[i].operate bl (1+(s.ops.length:Int)) ok=s.jk i b c ok from by rw[aE.out,HR.out];rfl]
   have B:w3.cell? ⟨Wc,0,Z⟩=Y (J (Y ⟨g0,0,Z⟩) hs.length aa)/\w3.cell? ⟨g0,i,Z⟩=Y (P0 (Y ⟨hs[i].Kn,0,Z⟩))/\dC w3 X #[I T (i:Int),I T e,I T 0,I T bl,I T (1+(s.ops.length:Int)),bool c,bool false,I T f,I T n] 178:=by
    obtain⟨_,_,C',l',_,hx,_⟩:=aV
    have c8:(v 0)=J (Y ⟨g0,0,Z⟩) hs.length aa:=by have H:=Q.out.cell (k:=0) (by decide);rw[aw.out.1]at H;simpa using H.symm
    exact⟨(World.cell?_of_block (a:=⟨Wc,0,Z⟩) (hx.kept.block Wc Q.out.blk.lt (Q.out.ng i W))).trans aw.out.1,(World.cell?_of_block (a:=⟨g0,i,Z⟩) (hx.kept.block g0 bQ (fun h8=>Q.out.lg 0 (by decide) g0 (by rw[c8];rfl) i W h8))).trans aw.out.2,hx.blk af (b2 i W)⟩
   refine k1 o (fun _=>?_) B;clear o K
   refine dB 11 ?_;refine dB 12 ?_;refine dB 13 ?_;refine dB 14 ?_
   refine dE 15 fun K o=>?_
   (try go_simp)
   refine k1 o (fun _=>?_) B;clear o K
   refine dE 16 fun K o=>?_
   (try go_simp)
   refine k1 o (fun _=>?_) B;clear o K
   refine dE 17 fun K o=>?_
   (try go_simp)
   refine k1 o (fun _=>?_) B;clear o K
   refine dn ?_
   go_wp2_with fail
   go_meet
   exact⟨ok,rfl,rfl,aV⟩
  obtain⟨ok,rfl,rfl,av⟩:=hcut
  obtain⟨w3,c2⟩:∃y,y=wc:=⟨_,rfl⟩
  subst c2
  obtain⟨l,ch⟩:∃y,y=u11:=⟨_,rfl⟩
  subst ch
 rotate_left;focus
  have bs:=dA ((Q.out.host i W hi).read hLO hUO hSO hBW hBS ht bl)
  go_wp2_with fail
  rw[hX]
  refine bs.out.mono ?_
  rintro q w3 ⟨l,ok,rfl,aN⟩
  have av:i2 hs[i].Kn hs[i].P t hs[i].C hs[i].left s.ns[i].nodes ((s.jk i b c ok).1,(s.jk i b c ok).2.1) ok l W2 w3:=by rw[aE.out,HR.out];exact aN
  rw[show s.ns[i].operate bl (s.ns[i].d.bk bl) ok=s.jk i b c ok from by rw[aE.out,HR.out];rfl]
  clear aN bs c0 x0
 all_goals
  obtain⟨d1,d2,hs',ax,az,bz,N,bG⟩:=Q.out.did2 W hi av (by have H:=bg.out.id ok;rw[ah]at H;exact H)
  have aS:dC w3 X #[I T (i:Int),I T e,I T 0,I T bl,I T (1+(s.ops.length:Int)),bool c,bool false,I T f,I T n] 178:=by
   obtain⟨_,_,C',l',_,hx,_⟩:=av
   exact hx.blk af (b2 i W)
  have au:∀j (hj:j<hs'.length),¬hs'[j].al X:=bG X af.out.lt b2
  obtain⟨E,hE⟩:∃y,(s.jk i b c ok).2.2=y:=⟨_,rfl⟩
  rw[hE]
  obtain⟨D,aQ⟩:∃y,(bif E==0 then s.ns[i].ops+1 else 0)=y:=⟨_,rfl⟩
  rw[aQ]
  have bV:=aS.set 2 (I T D)
  have bc:=dH.setCell w3 ⟨X,2,Z⟩ (I T D)
  have bb:base<=X:=by have:=V.out.jd;omega
  obtain⟨m1,m2⟩:=az.frame bc aD aq au bb
  have y2:=aS.cell 2;have z2:=aS.free 2;simp at y2
  have ag:=dA m1;have b8:=dA (bW.out.trans (bz.trans m2));have aL:=dA bV
  clear aS m1 m2 az bz
  go_upto_region 10 with fail
  generalize w3.setCell ⟨X,2,Z⟩ (I T D)=U at*
  have cj:=dA d1;have bn:=dA d2
  have ci:U.heap.size=w3.heap.size:=bc.size
  have aC:Hid (dW U W2.heap.size l (fP (s.jk i b c ok).2.1)):=d1.ql (C:=fun g=>g=X) (C':=fun g=>g=X) (fun g hg hh=>by have:=af.out.lt;omega) (dN.node bc rfl)
  clear y2 z2 d1 d2 bG
  by_cases ak:E=0
  ·have aY:(E==0)=true:=by simpa using ak
   have bE:D=(s.nd i).ops+1:=by rw[←aQ,aY,ah];rfl
   have cd:=dA bE;have bR:Hid ((s.jk i b c ok).2.2=0):=by unfold Hid;rw[hE,ak]
   clear ak bE aQ hE
   go_upto_region 11 with fail
   (try rw[hX])
   have ay:Hid (dC U X #[I T (i:Int),I T e,I T D,I T bl,I T (1+(s.ops.length:Int)),bool c,bool false,I T f,I T n] 178):=aL.out
   obtain⟨x,ab⟩:∃y,({s with ns:=s.ns.set i (s.jk i b c ok).1}:CS)=y:=⟨_,rfl⟩
   obtain⟨ae,ac⟩:∃y,(s.jk i b c ok).2.1=y:=⟨_,rfl⟩
   rw[ab]at ag
   rw[ac]at aC bn
   have bf:rN hs' x 6<=100000000:=by show x.ops.length<=_;rw[←ab];exact Nat.le_trans ar.2.1 (by omega)
   have bp:=ag.out.cell (k:=6) (by decide)
   have z:Below U.heap.size U (U.alloc (G #[I T (i:Int),I T e,I T D,I T bl,I T (1+(s.ops.length:Int)),bool c,bool false,I T f,I T n] 178)).drew:=(a_ _ _).drew
   have ao:base<=(U.alloc (G #[I T (i:Int),I T e,I T D,I T bl,I T (1+(s.ops.length:Int)),bool c,bool false,I T f,I T n] 178)).drew.heap.size:=Nat.le_trans ag.out.jd z.size
   have O:=dA (ag.out.later z)
   have bJ:(U.alloc (G #[I T (i:Int),I T e,I T D,I T bl,I T (1+(s.ops.length:Int)),bool c,bool false,I T f,I T n] 178)).drew.cell? ⟨Wc,6,Z⟩=Y (v 6):=O.out.cell (k:=6) (by decide)
   have am:dC U.drew X #[I T (i:Int),I T e,I T D,I T bl,I T (1+(s.ops.length:Int)),bool c,bool false,I T f,I T n] 178:=ay.out.drew
   have M:dC (U.alloc (G #[I T (i:Int),I T e,I T D,I T bl,I T (1+(s.ops.length:Int)),bool c,bool false,I T f,I T n] 178)).drew X #[I T (i:Int),I T e,I T D,I T bl,I T (1+(s.ops.length:Int)),bool c,bool false,I T f,I T n] 178:=ay.out.later z
   have an:(U.alloc (G #[I T (i:Int),I T e,I T D,I T bl,I T (1+(s.ops.length:Int)),bool c,bool false,I T f,I T n] 178)).drew.ownsRow base 178 9 (v 6) (rN hs' x 6) (rX hs' x 6):=O.out.row 6 (by decide)
   have aj:∀j u,[I T (i:Int),I T e,I T D,I T bl,I T (1+(s.ops.length:Int)),bool c,bool false,I T f,I T n][j]?=Y u->(U.alloc (G #[I T (i:Int),I T e,I T D,I T bl,I T (1+(s.ops.length:Int)),bool c,bool false,I T f,I T n] 178)).drew.cell? ((⟨U.heap.size,0,Z⟩:Addr).add j)=Y u:=by
    intro j u hu;rw[Go.WideShapes.add_plain];refine(World.cell?_alloc_at _ _ _ _ (by simp)).trans ?_;simpa using hu
   have HP:Hid (∀v' w3,w3.ownsRow base 178 9 v' (rN hs' x 6+1) (rX hs' x 6++[I T (i:Int),I T e,I T D,I T bl,I T (1+(s.ops.length:Int)),bool c,bool false,I T f,I T n])->(U.alloc (G #[I T (i:Int),I T e,I T D,I T bl,I T (1+(s.ops.length:Int)),bool c,bool false,I T f,I T n] 178)).drew.grownBy w3 (v 6).ownBlock->(∃g',v'.ownBlock=Y g'/\((v 6).ownBlock=Y g'∨(U.alloc (G #[I T (i:Int),I T e,I T D,I T bl,I T (1+(s.ops.length:Int)),bool c,bool false,I T f,I T n] 178)).drew.heap.size<=g'/\(U.alloc (G #[I T (i:Int),I T e,I T D,I T bl,I T (1+(s.ops.length:Int)),bool c,bool false,I T f,I T n] 178)).drew.grownBy w3 none))->(w3.cell? ⟨Wc,6,Z⟩=Y (v 6)/\w3.frozen? ⟨Wc,6,Z⟩=false/\((dC w3 X #[I T (i:Int),I T e,I T D,I T bl,I T (1+(s.ops.length:Int)),bool c,bool false,I T f,I T n] 178)/\(dC (w3.setCell ⟨Wc,6,Z⟩ v') X #[I T (i:Int),I T e,I T D,I T bl,I T (1+(s.ops.length:Int)),bool c,bool false,I T f,I T n] 178))/\dP (w3.setCell ⟨Wc,6,Z⟩ v') Wc base (t+1) (gD v 6 v') true hs' {x with ops:=x.ops++[(⟨(i:Int),e,D,bl,1+(s.ops.length:Int),c,false,f,n⟩:AG.As)]}/\dW (w3.setCell ⟨Wc,6,Z⟩ v') W2.heap.size l (fP ae)/\Below base w (w3.setCell ⟨Wc,6,Z⟩ v'))):=by
    intro v' w3 ho aB r
    obtain⟨a1,a2,a3,a4,a5⟩:=dP.push (s':={x with ops:=x.ops++[(⟨(i:Int),e,D,bl,1+(s.ops.length:Int),c,false,f,n⟩:AG.As)]}) (k:=6) (m:=1) (by decide) O ho aB r rfl rfl ⟨rfl,rfl⟩ (by
      intro j hj b1
      simp only[eO,List.mem_cons,List.mem_nil_iff,or_false]at hj
      rcases hj with rfl|rfl|rfl|rfl|rfl|rfl|rfl|rfl|rfl|rfl<;>first|exact⟨rfl,rfl⟩|exact absurd rfl b1) (by show(x.ops++[(⟨(i:Int),e,D,bl,1+(s.ops.length:Int),c,false,f,n⟩:AG.As)]).length=x.ops.length+1;simp) (by show(x.ops++[(⟨(i:Int),e,D,bl,1+(s.ops.length:Int),c,false,f,n⟩:AG.As)]).flatMap k8=x.ops.flatMap k8++_;rw[List.flatMap_append];rfl)
    have o1:dC w3 X #[I T (i:Int),I T e,I T D,I T bl,I T (1+(s.ops.length:Int)),bool c,bool false,I T f,I T n] 178:=M.same (aB.block _ M.lt (fun H=>aq 6 (by decide) H.symm))
    exact⟨a1,a2,⟨o1,o1.same ((dH.setCell w3 ⟨Wc,6,Z⟩ v').block _ aD)⟩,a3,(aC.out.later z).keep a5 O.out.blk (by decide) (fun g9 H=>eT (O.out.row 6 (by decide)) H) (by decide),b8.out.trans ((z.mono ag.out.jd).trans a4)⟩
   go_cut [86] (fun sx wx=>∃v',dP wx Wc base (t+1) (gD v 6 v') true hs' {x with ops:=x.ops++[(⟨(i:Int),e,D,bl,1+(s.ops.length:Int),c,false,f,n⟩:AG.As)]}/\dW wx W2.heap.size l (fP ae)/\Below base w wx)
   case first=>
    refine eR (S:=fun w'=>dC w' X #[I T (i:Int),I T e,I T D,I T bl,I T (1+(s.ops.length:Int)),bool c,bool false,I T f,I T n] 178) (fun _=>?_) (hS:=am)
    refine dB 0 ?_;refine dB 1 ?_;refine dB 2 ?_;refine dB 3 ?_
    refine iV 5 X 0 [I T (i:Int),I T e,I T D,I T bl,I T (1+(s.ops.length:Int)),bool c,bool false,I T f,I T n] ?_ (fun w A=>A.range rfl)
    refine iY [4,6] ?_
    refine .cons rfl (fun K o=>?_) ?_
    ·(try go_simp)
     refine k1 o (fun _=>?_) am;clear o K
     refine dE 6 fun K o=>?_
     (try go_simp)
     refine k1 o (fun _=>?_) M;clear o K
     refine dE 7 fun K o=>?_
     refine iQ rfl (.tmp 81) (.tmp 83) 61 rfl base 178 i0 (.agg #[I T 0,I T 0,I T 0,I T 0,I T 0,.bool false,.bool false,I T 0,I T 0]) 9 64 underlying61 aM aF aP aK rfl (by decide) (v 6) (rN hs' x 6) (rX hs' x 6) (by simp[Act.eval]) an ⟨U.heap.size,0,Z⟩ 1 1 [I T (i:Int),I T e,I T D,I T bl,I T (1+(s.ops.length:Int)),bool c,bool false,I T f,I T n] (by omega) (by simp[Act.eval]) rfl aj (by intro u hu;simp at hu;rcases hu with rfl|rfl|rfl|rfl|rfl|rfl|rfl|rfl|rfl<;>rfl) (by unfold maxLen;omega) (by omega) ao ?_
     intro v' w3 F L r
     obtain⟨ba,aZ,rfl⟩:=eB F
     obtain⟨b5,b9,B,a0⟩:=HP.out _ w3 F L r
     clear F L r
     refine k1 o (fun _=>?_) B.1;clear o K;refine dB 8 ?_;refine dB 9 ?_
     refine dE 10 fun K o=>?_
     (try go_simp)
     refine k1 o (fun _=>?_) B.2;clear o K
     refine dn ?_
     go_wp2_with fail
     go_meet
     exact⟨_,a0⟩
    refine .cons rfl (fun K o=>?_) .nil
    (try go_simp)
    refine k1 o (fun _=>?_) M;clear o K
    refine dE 4 fun K o=>?_
    (try go_simp)
    refine k1 o (fun _=>?_) M;clear o K
    refine dE 7 fun K o=>?_
    refine iQ rfl (.tmp 81) (.tmp 83) 61 rfl base 178 i0 (.agg #[I T 0,I T 0,I T 0,I T 0,I T 0,.bool false,.bool false,I T 0,I T 0]) 9 64 underlying61 aM aF aP aK rfl (by decide) (v 6) (rN hs' x 6) (rX hs' x 6) (by simp[Act.eval]) an ⟨U.heap.size,0,Z⟩ 1 1 [I T (i:Int),I T e,I T D,I T bl,I T (1+(s.ops.length:Int)),bool c,bool false,I T f,I T n] (by omega) (by simp[Act.eval]) rfl aj (by intro u hu;simp at hu;rcases hu with rfl|rfl|rfl|rfl|rfl|rfl|rfl|rfl|rfl<;>rfl) (by unfold maxLen;omega) (by omega) ao ?_
    intro v' w3 F L r
    obtain⟨ba,aZ,rfl⟩:=eB F
    obtain⟨b5,b9,B,a0⟩:=HP.out _ w3 F L r
    clear F L r
    refine k1 o (fun _=>?_) B.1;clear o K;refine dB 8 ?_;refine dB 9 ?_
    refine dE 10 fun K o=>?_
    (try go_simp)
    refine k1 o (fun _=>?_) B.2;clear o K
    refine dn ?_
    go_wp2_with fail
    go_meet
    exact⟨_,a0⟩
   case rest=>
   obtain⟨co,bv,bx,br⟩:=hcut
   clear HP aj an M am bJ O ao z bp bf
   obtain⟨W6,bN⟩:∃y,y=wc:=⟨_,rfl⟩
   subst bN
   have aT:eJ (hs'.length:Int) ae:=by
    have h8:=bn.out
    have h7:(hs'.length:Int)=s.ns[i].nodes:=by rw[a8.2.1,ax,bi]
    rw[h7];exact h8
   have ck:ae.length<=100:=by have H:=bg.out.ln ok;rw[←ac];exact H
   have bT:=dA (vZ Wc base (t+1) true hs' _ l ae W2.heap.size W6 _ bv bx aT (by show x.net.length+_<=_;rw[←ab];show s.net.length+_<=_;omega))
   have bU:=dA br
   clear bv bx br aT
   go_wp2_with fail
   refine bT.out.mono ?_
   rintro q w7 ⟨rfl,bm,bL,_⟩
   have cl:(E==3)=false:=by rw[show E=0 by simpa using aY];rfl
   have ad:({({x with ops:=x.ops++[(⟨(i:Int),e,D,bl,1+(s.ops.length:Int),c,false,f,n⟩:AG.As)]}:CS) with net:=x.net++ae}:CS)=s.oper i b c ok:=by
    unfold CS.oper
    rw[if_pos bR.out,ac,←ab]
    unfold CS.asd CS.bl
    rw[bt,b0,b7,aJ,←cd.out]
   have bw:CA w7 Wc base (t+1) true hs' (s.oper i b c ok):=by rw[←ad];exact bm
   have ce:=dA bw;have c1:=dA (bU.out.trans bL)
   clear ad bm bL bw
   go_wp2_with fail
   refine bodyPost_end (v:=.tuple #[]) (by simp[results,results56,go_sem]) rfl ?_
   have hR:=HR.out;subst hR
   exact⟨rfl,ok,hs',ax,ce,c1,N.1,by first|(rw[ah];exact N.2)|(rw[←a8.2.1];exact N.2)⟩
  have aY:(E==0)=false:=by simpa using ak
  have bj:Hid (¬(s.jk i b c ok).2.2=0):=by unfold Hid;rw[hE];exact ak
  have HE:=dA hE
  obtain⟨b3,e3⟩:∃y,(E==3)=y:=⟨_,rfl⟩
  have bC:=dA e3
  clear ak aQ hE
  cases b3
  all_goals
   try
    go_wp2_with fail
    refine bodyPost_end (v:=.tuple #[]) (by simp[results,results56,go_sem]) rfl ?_
    have hR:=HR.out;subst hR
    exact⟨rfl,ok,hs',ax,⟨_,by show dP _ _ _ _ _ _ _ (s.oper i b _ ok);unfold CS.oper;rw[if_neg bj.out,if_neg (fun H=>by first|(simp at H;done)|(rw[HE.out]at H;have h8:=bC.out;simp[H.1]at h8))];exact ag⟩,b8,N.1,by first|(rw[ah];exact N.2)|(rw[←a8.2.1];exact N.2)⟩
 have aI:=aL.out.set 2 (I T 0);have bH:=dH.setCell U ⟨X,2,Z⟩ (I T 0);have bo:=aI.set 6 (bool true);have bD:=dH.setCell (U.setCell ⟨X,2,Z⟩ (I T 0)) ⟨X,6,Z⟩ (bool true);obtain⟨m1,m2⟩:=ag.out.frame bH aD aq au bb;obtain⟨m3,m4⟩:=m1.frame bD aD aq au bb;have y2:=aL.out.cell 2;have z2:=aL.out.free 2;have y6:=aI.cell 6;have z6:=aI.free 6;simp at y2 y6;have aA:=dA m3;have cg:=dA (b8.out.trans (m2.trans m4));have ca:=dA bo;have aU:=dA ((aC.out.ql (C:=fun g=>g=X) (C':=fun g=>g=X) (fun g hg hh=>by have:=af.out.lt;omega) (dN.node bH rfl)).ql (C:=fun g=>g=X) (C':=fun g=>g=X) (fun g hg hh=>by have:=af.out.lt;omega) (dN.node bD rfl));clear m1 m2 m3 m4 aI bo;go_upto_region 16 with fail;(try rw[hX]);clear y2 z2 y6 z6;generalize (U.setCell ⟨X,2,Z⟩ (I T 0)).setCell ⟨X,6,Z⟩ (bool true)=W5 at*;have ay:Hid (dC W5 X #[I T (i:Int),I T e,I T 0,I T bl,I T (1+(s.ops.length:Int)),bool c,bool true,I T f,I T n] 178):=ca.out;obtain⟨x,ab⟩:∃y,({s with ns:=s.ns.set i (s.jk i b c ok).1}:CS)=y:=⟨_,rfl⟩;obtain⟨ae,ac⟩:∃y,(s.jk i b c ok).2.1=y:=⟨_,rfl⟩;rw[ab]at aA;rw[ac]at aU;have ad:({x with ops:=x.ops++[(⟨(i:Int),e,0,bl,1+(s.ops.length:Int),c,true,f,n⟩:AG.As)]}:CS)=s.oper i b c ok:=by unfold CS.oper;rw[if_neg bj.out,if_pos ⟨by rw[HE.out];simpa using bC.out,HR⟩,←ab];unfold CS.asd CS.bl;rw[bt,b0,b7,aJ]
 have bq:=dA ad;clear ad;have bf:rN hs' x 6<=100000000:=by show x.ops.length<=_;rw[←ab];exact Nat.le_trans ar.2.1 (by omega)
 have bp:=aA.out.cell (k:=6) (by decide);have z:Below W5.heap.size W5 (W5.alloc (G #[I T (i:Int),I T e,I T 0,I T bl,I T (1+(s.ops.length:Int)),bool c,bool true,I T f,I T n] 178)).drew:=(a_ _ _).drew;have ao:base<=(W5.alloc (G #[I T (i:Int),I T e,I T 0,I T bl,I T (1+(s.ops.length:Int)),bool c,bool true,I T f,I T n] 178)).drew.heap.size:=Nat.le_trans aA.out.jd z.size;have O:=dA (aA.out.later z);have bJ:(W5.alloc (G #[I T (i:Int),I T e,I T 0,I T bl,I T (1+(s.ops.length:Int)),bool c,bool true,I T f,I T n] 178)).drew.cell? ⟨Wc,6,Z⟩=Y (v 6):=O.out.cell (k:=6) (by decide);have am:dC W5.drew X #[I T (i:Int),I T e,I T 0,I T bl,I T (1+(s.ops.length:Int)),bool c,bool true,I T f,I T n] 178:=ay.out.drew;have M:dC (W5.alloc (G #[I T (i:Int),I T e,I T 0,I T bl,I T (1+(s.ops.length:Int)),bool c,bool true,I T f,I T n] 178)).drew X #[I T (i:Int),I T e,I T 0,I T bl,I T (1+(s.ops.length:Int)),bool c,bool true,I T f,I T n] 178:=ay.out.later z;have an:(W5.alloc (G #[I T (i:Int),I T e,I T 0,I T bl,I T (1+(s.ops.length:Int)),bool c,bool true,I T f,I T n] 178)).drew.ownsRow base 178 9 (v 6) (rN hs' x 6) (rX hs' x 6):=O.out.row 6 (by decide);have aj:∀j u,[I T (i:Int),I T e,I T 0,I T bl,I T (1+(s.ops.length:Int)),bool c,bool true,I T f,I T n][j]?=Y u->(W5.alloc (G #[I T (i:Int),I T e,I T 0,I T bl,I T (1+(s.ops.length:Int)),bool c,bool true,I T f,I T n] 178)).drew.cell? ((⟨W5.heap.size,0,Z⟩:Addr).add j)=Y u:=by intro j u hu;rw[Go.WideShapes.add_plain];refine(World.cell?_alloc_at _ _ _ _ (by simp)).trans ?_;simpa using hu
 have HP:Hid (∀v' w3,w3.ownsRow base 178 9 v' (rN hs' x 6+1) (rX hs' x 6++[I T (i:Int),I T e,I T 0,I T bl,I T (1+(s.ops.length:Int)),bool c,bool true,I T f,I T n])->(W5.alloc (G #[I T (i:Int),I T e,I T 0,I T bl,I T (1+(s.ops.length:Int)),bool c,bool true,I T f,I T n] 178)).drew.grownBy w3 (v 6).ownBlock->(∃g',v'.ownBlock=Y g'/\((v 6).ownBlock=Y g'∨(W5.alloc (G #[I T (i:Int),I T e,I T 0,I T bl,I T (1+(s.ops.length:Int)),bool c,bool true,I T f,I T n] 178)).drew.heap.size<=g'/\(W5.alloc (G #[I T (i:Int),I T e,I T 0,I T bl,I T (1+(s.ops.length:Int)),bool c,bool true,I T f,I T n] 178)).drew.grownBy w3 none))->(w3.cell? ⟨Wc,6,Z⟩=Y (v 6)/\w3.frozen? ⟨Wc,6,Z⟩=false/\((dC w3 X #[I T (i:Int),I T e,I T 0,I T bl,I T (1+(s.ops.length:Int)),bool c,bool true,I T f,I T n] 178)/\(dC (w3.setCell ⟨Wc,6,Z⟩ v') X #[I T (i:Int),I T e,I T 0,I T bl,I T (1+(s.ops.length:Int)),bool c,bool true,I T f,I T n] 178))/\dP (w3.setCell ⟨Wc,6,Z⟩ v') Wc base (t+1) (gD v 6 v') true hs' {x with ops:=x.ops++[(⟨(i:Int),e,0,bl,1+(s.ops.length:Int),c,true,f,n⟩:AG.As)]}/\dW (w3.setCell ⟨Wc,6,Z⟩ v') W2.heap.size l (fP ae)/\Below base w (w3.setCell ⟨Wc,6,Z⟩ v'))):=by
  intro v' w3 ho aB r;obtain⟨a1,a2,a3,a4,a5⟩:=dP.push (s':={x with ops:=x.ops++[(⟨(i:Int),e,0,bl,1+(s.ops.length:Int),c,true,f,n⟩:AG.As)]}) (k:=6) (m:=1) (by decide) O ho aB r rfl rfl ⟨rfl,rfl⟩ (by intro j hj b1;simp only[eO,List.mem_cons,List.mem_nil_iff,or_false]at hj;rcases hj with rfl|rfl|rfl|rfl|rfl|rfl|rfl|rfl|rfl|rfl<;>first|exact⟨rfl,rfl⟩|exact absurd rfl b1) (by show(x.ops++[(⟨(i:Int),e,0,bl,1+(s.ops.length:Int),c,true,f,n⟩:AG.As)]).length=x.ops.length+1;simp) (by show(x.ops++[(⟨(i:Int),e,0,bl,1+(s.ops.length:Int),c,true,f,n⟩:AG.As)]).flatMap k8=x.ops.flatMap k8++_;rw[List.flatMap_append];rfl)
  have o1:dC w3 X #[I T (i:Int),I T e,I T 0,I T bl,I T (1+(s.ops.length:Int)),bool c,bool true,I T f,I T n] 178:=M.same (aB.block _ M.lt (fun H=>aq 6 (by decide) H.symm));exact⟨a1,a2,⟨o1,o1.same ((dH.setCell w3 ⟨Wc,6,Z⟩ v').block _ aD)⟩,a3,(aU.out.later z).keep a5 O.out.blk (by decide) (fun g9 H=>eT (O.out.row 6 (by decide)) H) (by decide),cg.out.trans ((z.mono aA.out.jd).trans a4)⟩
 refine id ?_;case _=>
  refine eR (S:=fun w'=>dC w' X #[I T (i:Int),I T e,I T 0,I T bl,I T (1+(s.ops.length:Int)),bool c,bool true,I T f,I T n] 178) (fun _=>?_) (hS:=am);refine dB 0 ?_;refine dB 1 ?_;refine dB 2 ?_;refine dB 3 ?_;refine iV 5 X 0 [I T (i:Int),I T e,I T 0,I T bl,I T (1+(s.ops.length:Int)),bool c,bool true,I T f,I T n] ?_ (fun w A=>A.range rfl);refine iY [4,6] ?_;refine .cons rfl (fun K o=>?_) ?_;·(try go_simp);refine k1 o (fun _=>?_) am;clear o K;refine dE 6 fun K o=>?_;(try go_simp);refine k1 o (fun _=>?_) M;clear o K;refine dE 7 fun K o=>?_;refine iQ rfl (.tmp 102) (.tmp 104) 61 rfl base 178 i0 (.agg #[I T 0,I T 0,I T 0,I T 0,I T 0,.bool false,.bool false,I T 0,I T 0]) 9 64 underlying61 aM aF aP aK rfl (by decide) (v 6) (rN hs' x 6) (rX hs' x 6) (by simp[Act.eval]) an ⟨W5.heap.size,0,Z⟩ 1 1 [I T (i:Int),I T e,I T 0,I T bl,I T (1+(s.ops.length:Int)),bool c,bool true,I T f,I T n] (by omega) (by simp[Act.eval]) rfl aj (by intro u hu;simp at hu;rcases hu with rfl|rfl|rfl|rfl|rfl|rfl|rfl|rfl|rfl<;>rfl) (by unfold maxLen;omega) (by omega) ao ?_;intro v' w3 F L r;obtain⟨ba,aZ,rfl⟩:=eB F;obtain⟨b5,b9,B,a0⟩:=HP.out _ w3 F L r;clear F L r;refine k1 o (fun _=>?_) B.1;clear o K;refine dB 8 ?_;refine dB 9 ?_;refine dE 10 fun K o=>?_;(try go_simp);refine k1 o (fun _=>?_) B.2;clear o K;refine dn ?_;go_wp2_with fail;refine bodyPost_end (v:=.tuple #[]) (by simp[results,results56,go_sem]) rfl ?_;have hR:=HR.out;subst hR;exact⟨rfl,ok,hs',ax,⟨_,by show dP _ _ _ _ _ _ _ (s.oper i b _ ok);rw[←bq.out];exact a0.1⟩,a0.2.2,N.1,by first|(rw[ah];exact N.2)|(rw[←a8.2.1];exact N.2)⟩
  refine .cons rfl (fun K o=>?_) .nil;(try go_simp);refine k1 o (fun _=>?_) M;clear o K;refine dE 4 fun K o=>?_;(try go_simp);refine k1 o (fun _=>?_) M;clear o K;refine dE 7 fun K o=>?_;refine iQ rfl (.tmp 102) (.tmp 104) 61 rfl base 178 i0 (.agg #[I T 0,I T 0,I T 0,I T 0,I T 0,.bool false,.bool false,I T 0,I T 0]) 9 64 underlying61 aM aF aP aK rfl (by decide) (v 6) (rN hs' x 6) (rX hs' x 6) (by simp[Act.eval]) an ⟨W5.heap.size,0,Z⟩ 1 1 [I T (i:Int),I T e,I T 0,I T bl,I T (1+(s.ops.length:Int)),bool c,bool true,I T f,I T n] (by omega) (by simp[Act.eval]) rfl aj (by intro u hu;simp at hu;rcases hu with rfl|rfl|rfl|rfl|rfl|rfl|rfl|rfl|rfl<;>rfl) (by unfold maxLen;omega) (by omega) ao ?_;intro v' w3 F L r;obtain⟨ba,aZ,rfl⟩:=eB F;obtain⟨b5,b9,B,a0⟩:=HP.out _ w3 F L r;clear F L r;refine k1 o (fun _=>?_) B.1;clear o K;refine dB 8 ?_;refine dB 9 ?_;refine dE 10 fun K o=>?_;(try go_simp);refine k1 o (fun _=>?_) B.2;clear o K;refine dn ?_;go_wp2_with fail;refine bodyPost_end (v:=.tuple #[]) (by simp[results,results56,go_sem]) rfl ?_;have hR:=HR.out;subst hR;exact⟨rfl,ok,hs',ax,⟨_,by show dP _ _ _ _ _ _ _ (s.oper i b _ ok);rw[←bq.out];exact a0.1⟩,a0.2.2,N.1,by first|(rw[ah];exact N.2)|(rw[←a8.2.1];exact N.2)⟩
def CS.run(s:CS)(i:Nat)(n':AG.Nd):CS:={s with ns:=s.ns.set i n',lv:=s.lv.set i (s.lv.getD i 0+1)}
def CS.drop(s:CS)(k:Nat):CS:={s with net:=s.net.take k++s.net.drop (k+1)}
def CS.come(s:CS)(j:Nat)(m:AG.Ms)(ok:Bool):CS:=(s.put j ((s.nd j).receive m ok)).look j
theorem NC(s:CS)(i:Nat):(s.tell i).ns=s.ns/\(s.tell i).net=s.net:=by
 unfold CS.tell;split;·exact⟨rfl,rfl⟩
 ·split<;>exact⟨rfl,rfl⟩
theorem ND(s:CS)(j:Nat)(m:AG.Ms)(ok:Bool):(s.come j m ok).ns.length=s.ns.length/\s.net.length<=(s.come j m ok).net.length:=by unfold CS.come CS.look;refine⟨by simp[CS.put],?_⟩;show _<=((s.put j ((s.nd j).receive m ok)).tell j).net.length;rw[(NC _ _).2];simp[CS.put]
end Go.Proofs.YtdcainmlcpafbaaGreatDoor
