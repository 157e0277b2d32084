import Derived.Test.YtdcainmlcpafbaaGreatDoorJ22
set_option linter.all false
set_option maxHeartbeats 2000000
set_option maxRecDepth 20000
namespace Go.Proofs.YtdcainmlcpafbaaGreatDoor
namespace AG
section
variable {n nb:Int} {x:Int->Nd} {sn sn':Ms->Prop} {g g':Gh} {u u':Gv} {K j:Int} {a:Nd} {y y':Lv} {lv lv':Int->Int} {ops ops':List As} {rs:List Rs} {rd:List Bool} {k:Int} {pend:List Rs}
def tJ(y a:Nd):Prop:=a.d.bk=y.d.bk/\a.d.seen=y.d.seen/\a.d.last=y.d.last/\(a.act=true->y.act=true)/\(a.ph=1->y.ph=1)
def Sx(sn:Ms->Prop)(a:Nd)(m:Ms):Prop:=
  ((m.k=8∨m.k=10)/\m.f=a.id/\m.e=a.d.seen/\m.q=a.d.last/\∃m',sn m'/\m'.k=m.k - 1/\m'.e=m.e/\m'.q=m.q)∨
  (m.k=a.ow.k/\0<a.on/\m.e=a.ow.e/\m.q=a.ow.q/\m.bl=a.ow.bl/\m.v=a.ow.v)∨
  (m.k=9/\a.ph=1/\m.e=a.d.ep/\m.q=a.d.last/\m.zs=a.eu.zs)
def xH(y:Nd){b d:Int}(c:0<=b)(a:b<y.nb):y.eu.zs.getD b.toNat d=y.d.bk b:=by simp only[Nd.eu];rw[List.getD_eq_getElem?_getD,List.getElem?_map,List.getElem?_range oG];simp only[Option.map_some,Option.getD_some];congr 1;omega
def QI(n:Int)(sn':Ms->Prop)(u u':Gv)(j:Int)(lv':Int->Int)(ops':List As)(rs:List Rs)(y':Lv)(r:Rs):Prop:=(y'.op r.e r.q r.bl/\r.v=y'.W r.e r.q r.bl/\∀i,0<=i->i<n->bit (u'.R r.e).S i->(u'.R r.e).P≠i+1->∃m,sn' m/\m.k=8/\m.f=i/\m.e=r.e/\m.q=r.q)/\(u.R r.e).P=j+1/\(∀r'∈rs,¬(r'.e=r.e/\r'.q=r.q))/\∃o∈ops',o.nd=j/\o.lf=lv' j/\o.op=r.op/\(o.rd=false->Wf y' r.v r.e r.q)
def LI.still(h:LI n nb (vws x) sn u lv ops rs rd j [] y)(C:Cv n nb x sn g u K j a sn' g' u')(hv:tJ (x j) a)(hd:a.down=true->(x j).down=true/\a.tr=(x j).tr∨(a.tr.k=7∨a.tr.k=9->sn a.tr))(U:∀{m},sn' m->sn m∨(7<=m.k->Sx sn a m))(X:∀i,i≠j->lv' i=lv i)(Q:0<a.on->a.on=(x j).on/\a.ow=(x j).ow/\pend=[]/\lv' j=lv j)(S:pend.length<=1)(O:∀r∈pend,QI n sn' u u' j lv' ops rs y r):LI n nb (vws (upd x j a)) sn' u' lv' ops rs rd j pend y:=by
 obtain⟨v1,V,v3,v4,v5⟩:=hv;have w:=h.nd C.h0.1 C.h0.2;have A:=C.hi'.own C.h0.1 C.h0.2;rw[upd_self]at A;have q:=C.hi.own C.h0.1 C.h0.2;have E:a.act=true->a.d.ep=(x j).d.ep:=λha=>by have h1:=(A.t1 ha).2.2.1;have h2:=(q.t1 (v4 ha)).2.2.1;omega
 have hD:∀{e q b},y.op e q b->Dm n (vws x) sn u.R e q->Dm n (vws (upd x j a)) sn' u'.R e q:=λU=>C.dm (h.tk (h.om U).1.1).1;have s:Ln n nb ops.length (vws (upd x j a)) sn' u' lv' ops (rs++pend) y j a.vw:=by
  refine⟨?_,?_,?_,λ{f c e q b} o l p=>?_,λo l=>?_,λo=>?_,λo=>?_⟩;·simp only[Nd.vw,v1,V,v3];exact w.v1
  ·simp only[Nd.vw,V,v3];exact w.hl
  ·simp only[Nd.vw,V,v3];exact w.pt
  ·simp only[Nd.vw,v1];exact(w.n2 o l p).imp id (hD l)
  ·rcases hd o with⟨p,v⟩|p;·have F:a.tr.k=7∨a.tr.k=9:=l;show Vm nb y a.tr;rw[v]at F⊢;exact w.tr p F
   ·exact(h.ms (p l)).1 l
  ·have l:=w.ac (v4 o);have p:=E o;simp only[vws,Nd.vw]at l⊢;rw[p,v1,v3];exact⟨l.1,l.2.1,l.2.2.1,λc c0 c1 c2=>C.hu.ad (l.2.2.2.1 c c0 c1 c2),λv=>l.2.2.2.2 (v5 v)⟩
  ·obtain⟨e1,e2,rfl,e3⟩:=Q o;have l:=w.on (by show 0<(x j).on;rw[←e1];exact o);simp only[vws,Nd.vw]at l⊢;rw[E (A.o1 o).1,e2,e1,e3];exact l
 refine h.go C (Lx.refl _ y j) r_ (λ_=>id) X (λht=>⟨C.hu.tk (h.tk ht).1,(h.tk ht).2⟩) (λ_ _=>rfl) .inl h.w1 h.wf (λ_ o l=>absurd o l) (λo l=>absurd o l) h.ko s (λ{m} hm=>?_) S O;rcases U hm with o|o;·exact .inl o
 ·right;have W:=A.i0.1;refine⟨λhk=>?_,λhk=>?_⟩
  ·rcases o oG with⟨l,_⟩|⟨l,p,m1,z,t,m4⟩|⟨l,p,m1,z,t⟩;·omega
   ·obtain⟨_,o2,_,o4,_⟩:=s.on p;obtain⟨D,H,B,N,L⟩:=o4;simp only[Nd.vw]at D H B N o2;unfold Vm;rw[m1,z,t,m4];exact⟨D,H,B,λ_=>N o2,λv=>oG⟩
   ·have M:=(A.p1 p).2.1;obtain⟨D,H,B,N,L⟩:=s.ac M;simp only[Nd.vw]at D H B L;unfold Vm;rw[m1,z,t];refine⟨D,(L p).1,oG,λv=>oG,λ_=>⟨(L p).2,λb d b0 b1=>?_⟩⟩;rw[xH a b0 (by rw[A.i0.2.2.2.1];exact b1)];exact B b b0 b1
  ·rcases o oG with⟨l,m1,z,t,m',s1,s2,s3,s4⟩|⟨l,p,_⟩|⟨l,_⟩;·have p:=(h.ms s1).1 oG;have S:=s.pt (by show 0<a.d.last;rw[←t,←s4];exact p.2.1);rw[m1,W,z,t];refine⟨S,λv=>?_⟩;have:=(p.2.2.2.2 oG).1;rw[s3,s4,z,t]at this;exact this
   ·have v:a.ow.k=7:=(s.on p).2.1;omega
   ·omega
def LI.apply(h:LI n nb (vws x) sn u lv ops rs rd j [] y)(C:Cv n nb x sn g u K j a sn' g' u'){m:Ms}(hm:Vm nb y m)(t:m.k=7∨m.k=9)(a0:(x j).d.seen<m.e∨(x j).d.seen=m.e/\(x j).d.last<=m.q)(S:a.d=(x j).d.step m)(B:a.act=false)(dA:a.down=false)(O:∀{z},sn' z->sn z∨(7<=z.k->z.k=m.k+1/\z.f=j/\z.e=m.e/\z.q=m.q))(Q:∀i,i≠j->lv' i=lv i):∃y',LI n nb (vws (upd x j a)) sn' u' lv' ops rs rd j [] y':=by
 have H:=h.nd C.h0.1 C.h0.2;have q':=C.hi'.own C.h0.1 C.h0.2;rw[upd_self]at q';obtain⟨m1,m2,M,m4,m5⟩:=hm;obtain⟨e1,e2,e3,L,E⟩:=step79 (x j).d t;rw[←S]at L E;have V:∀{b},0<=b->b<nb->(a.d.bk b=(x j).d.bk b∨a.d.bk b=y.W m.e m.q b)/\(y.kd m.e m.q=b∨y.kd m.e m.q = -1->a.d.bk b=y.W m.e m.q b):=by
  intro b w A;rw[S];rcases t with t|t
  ·obtain⟨k1,k2,N⟩:=m4 t;have e:((x j).d.step m).bk b=if b=m.bl then m.v else(x j).d.bk b:=by simp[Du.step,t]
   rw[e];by_cases o:b=m.bl;·rw[if_pos o,N,o];exact⟨.inr rfl,λ_=>rfl⟩
   ·rw[if_neg o];exact⟨.inl rfl,λl=>oG⟩
  ·have e:((x j).d.step m).bk b=m.zs.getD b.toNat ((x j).d.bk b):=by simp[Du.step,t,w]
   rw[e,(m5 t).2 b _ w A];exact⟨.inr rfl,λ_=>rfl⟩
 have hl:¬lat (x j).d.seen (x j).d.last m.e m.q:=by unfold lat;omega
 have hx:Lx ops.length y {y with has:=λi e q=>y.has i e q∨(i=j/\e=m.e/\q=m.q)} j:=⟨id,λ_=>Int.le_refl _,λ_ _=>rfl,λ_ _=>rfl,λ_=>⟨rfl,rfl⟩,.inl,λl p=>p.resolve_right (λr=>l r.1),id⟩;have X:∀{e q b},y.op e q b->Dm n (vws x) sn u.R e q->Dm n (vws (upd x j a)) sn' u'.R e q:=λO=>C.dm (h.tk (h.om O).1.1).1;refine⟨_,h.go C hx r_ (λ_=>id) Q (λU=>⟨C.hu.tk (h.tk U).1,(h.tk U).2⟩) (λ_ _=>rfl) .inl h.w1 h.wf (λ_ l p=>absurd l p) (λl p=>absurd l p) h.ko ?_ (λ{z} hz=>?_) (Nat.zero_le _) sG⟩
 ·refine⟨λ{b} w A=>?_,λ{e q} l=>?_,λ_=>?_,λ{f c e q b} l p r=>?_,λl=>?_,λl=>?_,λl=>?_⟩
  ·simp only[Nd.vw,L,E];rcases(V w A).1 with l|l;·rw[l];have:=H.v1 w A;refine⟨this.1,λp=>?_⟩;have r:=this.2 p;simp only[vws,Nd.vw]at r;show¬lat (y.fe _) (y.fq _) _ _;unfold lat at*;omega
   ·rw[l];exact h.wf m1 oG M w A
  ·simp only[Nd.vw,L,E];rcases l with l|⟨_,rfl,rfl⟩;·have:=H.hl l;refine⟨this.1,this.2.1,this.2.2.1,?_⟩;have r:=this.2.2.2;simp only[vws,Nd.vw]at r;unfold lat at*;omega
   ·exact⟨m1,m2,M,by unfold lat;omega⟩
  ·exact .inr ⟨rfl,L,E⟩
  ·obtain⟨⟨o1,o2,o3,o4,o5⟩,o6,_⟩:=h.om p;have o:=V o4 o5;show jT y (a.d.bk b) e q b∨_;have D:¬lat e q m.e m.q->a.d.bk b=y.W m.e m.q b->jT y (a.d.bk b) e q b∨Dm n (vws (upd x j a)) sn' u'.R e q:=λhn he=>by rw[he];exact(h.beh p m1 oG M hn).imp id (X p)
   rcases l with l|⟨_,rfl,rfl⟩
   ·rcases o.1 with F|F;·rw[F];exact(H.n2 l p r).imp id (X p)
    ·refine D ?_ F;have h5:=(H.hl l).2.2.2;simp only[vws,Nd.vw]at h5;have s:f=e/\c=q∨y.kd f c = -1/\lat f c e q:=r;unfold lat at*;omega
   ·have s:m.e=e/\m.q=q∨y.kd m.e m.q = -1/\lat m.e m.q e q:=r;rcases s with⟨rfl,rfl⟩|⟨s,F⟩;·exact .inl (.inl (o.2 (.inl o6)))
    ·exact D (by unfold lat at*;omega) (o.2 (.inr s))
  ·have:a.down=true:=l;rw[dA]at this;simp at this
  ·have:a.act=true:=l;rw[B]at this;simp at this
  ·have:=(q'.o1 l).1;rw[B]at this;simp at this
 ·rcases O hz with l|l;·exact .inl l
  ·refine .inr ⟨λp=>?_,λp=>?_⟩;·have:=l oG;omega
   ·obtain⟨k1,k2,N,k4⟩:=l oG;rw[k2,N,k4];exact⟨.inr ⟨rfl,rfl,rfl⟩,λr=>(m5 oG).1⟩
end
end AG
namespace AG
def EN(P:Int->Prop):∀(k:Nat) {e:Int},¬P e->P (e+k)->∃f,e<=f/\f<e+k/\¬P f/\P (f+1)
 |0,e,h0,h1=>absurd (by simpa using h1) h0
 |k+1,e,h0,h1=>by
  by_cases h:P (e+k);·obtain⟨f,a,b,c⟩:=EN P k h0 h;exact⟨f,a,oG,c⟩
  ·exact⟨e+k,oG,oG,h,by rw[show e+(k:Int)+1=e+((k+1:Nat):Int) by omega];exact h1⟩
section
variable {n nb:Int} {x:Int->Nd} {sn sn':Ms->Prop} {g g':Gh} {u u':Gv} {K j:Int} {a:Nd} {y y':Lv} {lv lv':Int->Int} {ops ops':List As} {rs:List Rs} {rd:List Bool} {k:Int} {pend:List Rs}
def LI.take(h:LI n nb (vws x) sn u lv ops rs rd j [] y)(C:Cv n nb x sn g u K j a sn' g' u')(hb:a.d.bk=(x j).d.bk)(hs:(x j).d.seen<a.d.seen)(hl:a.d.last=0)(he:a.d.seen=a.d.ep)(hP:(a.d.rc a.d.ep).P=j+1)(ab:a.on=0)(ae:a.ph=0)(dA:a.down=false)(O:∀{m},sn' m->sn m∨m.k<7)(aa:∀i,i≠j->lv' i=lv i):∃y',LI n nb (vws (upd x j a)) sn' u' lv' ops rs rd j [] y':=by
 have w:=h.nd C.h0.1 C.h0.2;have q:=C.hi.own C.h0.1 C.h0.2;have q':=C.hi'.own C.h0.1 C.h0.2;rw[upd_self]at q';obtain⟨E,hE⟩:∃E,E=a.d.seen:=⟨_,rfl⟩;have N:j<5:=by have:=C.hi.nn;have:=C.h0;omega
 have ad:0<=(x j).d.seen:=by
  rcases q.t3 with l|l;·omega
  ·have:=(C.hi.t2 l.1).1;omega
 have a4:(u'.R E).P=j+1:=by rw[hE,he,←q'.rr q'.i0.2.2.2.2 (Int.le_refl _)];exact hP
 have a5:¬y.tk E:=by intro o;have l:=(h.tk o).1;obtain⟨_,i,i0,i1,i2,i3,_⟩:=C.hi.t2 l;rw[C.R l,i2]at a4;have:i=j:=oG;subst this;omega
 have a3:u'.tk E:=by
  rcases q'.t3 with l|l;·omega
  ·rw[hE];exact l.1
 have hD:∀{e q b},y.op e q b->Dm n (vws x) sn u.R e q->Dm n (vws (upd x j a)) sn' u'.R e q:=λO=>C.dm (h.tk (h.om O).1.1).1;have a8:∀{e q b},y.op e q b->e<E->jT y ((x j).d.bk b) e q b∨Dm n (vws (upd x j a)) sn' u'.R e q:=by
  intro e r b s ac;obtain⟨⟨X,o2,o3,o4,o5⟩,o6,o7⟩:=h.om s;have ut:=(h.tk X).1;have e0:=(C.hi.t2 ut).1;have hR:=C.R ut;have own:y.has j e r->jT y ((x j).d.bk b) e r b∨Dm n (vws (upd x j a)) sn' u'.R e r:=λl=>(w.n2 l s (.inl ⟨rfl,rfl⟩)).imp id (hD s);by_cases B:bit (u.R e).S j
  ·by_cases Q:(u.R e).P=j+1;·rw[Q,show j+1 - 1=j by omega]at o7;exact own o7
   ·by_cases hm:∃m,sn m/\m.k=8/\m.f=j/\m.e=e/\m.q=r;·obtain⟨m,m1,m2,m3,m4,m5⟩:=hm;have l:=((h.ms m1).2 (.inl m2)).1;rw[m3,m4,m5]at l;exact own l
    ·refine .inr ⟨j,C.h0.1,C.h0.2,by rw[hR];exact B,by rw[hR];exact Q,?_,λm a7 hk hf hh=>?_⟩;·show e<((upd x j a j).vw).se;rw[upd_self];show e<a.d.seen;omega
     ·rcases O a7 with l|l;·exact hm ⟨m,l,hk,hf,hh⟩
      ·omega
  ·have kn:=(C.hi'.known C.h0.1 C.h0.2 (e:=E - 1) oG (by rw[upd_self];omega)).1;rw[show E - 1+1=E by omega]at kn;have a6:bit (u'.R E).S j:=by have:=kn.2.2.2.2.2.2.2.1;rw[a4,show j+1 - 1=j by omega]at this;exact this
   obtain⟨f,f1,f2,f3,f4⟩:=EN (λf=>bit (u'.R f).S j) (E - e).toNat (e:=e) (by rw[hR];exact B) (by rw[show e+(((E - e).toNat:Nat):Int)=E by omega];exact a6);have V:=(C.hi'.known C.h0.1 C.h0.2 (e:=f) oG (by rw[upd_self];omega)).2;rcases V with V|⟨_,V⟩;·exact absurd (V j C.h0.1 N f4) f3
   ·rcases V j C.h0.1 N f4 with l|⟨m,m1,m2,m3,m4⟩;·exact absurd l f3
    ·rcases O m1 with m1|m1
     ·obtain⟨l,p⟩:=(h.ms m1).2 (.inr m2);rw[m3,m4]at l;have p:=p m2;rw[m4]at p;have hh:=w.hl l;refine(w.n2 l s (.inr ⟨p,?_⟩)).imp id (hD s);by_cases a9:f=e;·subst a9;exact .inr ⟨rfl,h.ko s hh.2.1 hh.2.2.1 p⟩
      ·exact .inl oG
     ·omega
 have ne:∀{e},y.tk e->e≠E:=λo l=>a5 (l ▸ o);have F:∀{e},y.tk e->dN y.mx E 0 e=y.mx e:=λo=>by simp[dN,ne o]
 have eW:∀{e},y.tk e->dN y.W E (λ_=>a.d.bk) e=y.W e:=λo=>by simp[dN,ne o]
 have U:Lx ops.length y {y with tk:=λe=>y.tk e∨e=E,mx:=dN y.mx E 0,W:=dN y.W E (λ_=>a.d.bk)} j:=
  ⟨.inl,λo=>by show _<=dN y.mx E 0 _;rw[F o];exact Int.le_refl _,λo _=>by show dN y.W E _ _ _=_;rw[eW o],λ_ _=>rfl,λ_=>⟨rfl,rfl⟩,id,λ_=>id,id⟩
 have M:dN y.W E (λ_=>a.d.bk) E 0=(x j).d.bk:=by simp[dN,hb]
 have t:dN y.mx E 0 E=0:=by simp[dN]
 refine⟨_,h.go C U r_ (λ_=>id) aa (λ{e} o=>?_) (λo _=>F o) .inl (λ{e r q1 b} o a0 a1 a2 D H=>?_) (λ{e r b} o a0 a1 D H=>?_) (λ{e r b f} l p L h6=>?_) (λl p=>absurd l p) (λ{e r b c} l c0 c1 c2=>?_) ?_ (λhm=>?_) (Nat.zero_le _) sG⟩
 ·rcases o with o|rfl;·exact⟨C.hu.tk (h.tk o).1,by show 0<=dN y.mx E 0 e;rw[F o];exact(h.tk o).2⟩
  ·exact⟨a3,by show 0<=dN y.mx e 0 e;rw[t];exact Int.le_refl _⟩
 ·rcases o with o|rfl
  ·have v:q1<=y.mx e:=by have l:q1<=dN y.mx E 0 e:=a2;rw[F o]at l;exact l
   show jT _ (dN y.W E _ e q1 b) e r b;rw[eW o];exact(h.w1 o a0 a1 v D H).jc U o oG (h.wf o oG v D H).1
  ·have l:q1<=dN y.mx e 0 e:=a2;rw[t]at l;have:r=q1:=oG;subst this;exact .inl rfl
 ·rcases o with o|rfl
  ·have v:r<=y.mx e:=by have l:r<=dN y.mx E 0 e:=a1;rw[F o]at l;exact l
   show nL _ _ (dN y.W E _ e r b) e r;rw[eW o];exact(h.wf o a0 v D H).jc U (Int.le_refl _)
  ·have l:r<=dN y.mx e 0 e:=a1;rw[t]at l;have:r=0:=oG;subst this;show nL _ _ (dN y.W e _ e 0 b) e 0;rw[M];have p:=w.v1 D H;refine⟨p.1,λL=>?_⟩;have h6:=p.2 L;simp only[vws,Nd.vw]at h6;show¬lat (y.fe _) (y.fq _) _ _;unfold lat at*;omega
 ·rcases p with p|rfl;·exact absurd p L
  ·show jT _ (dN y.W f _ f 0 b) e r b∨_;rw[M];obtain⟨⟨X,o2,o3,o4,o5⟩,_⟩:=h.om l;exact(a8 l h6).imp (λz=>z.jc U X o3 (w.v1 o4 o5).1) id
 ·have o:=(h.om l).1.1;have A:c<=dN y.mx E 0 e:=c1;rw[F o]at A;exact h.ko l c0 A c2
 ·refine⟨λD H=>?_,λl=>?_,λl=>?_,λ{f c e q b} l p L=>?_,λl=>?_,λl=>?_,λl=>?_⟩;·have p:=w.v1 D H;simp only[Nd.vw,hb];refine⟨p.1,λL=>?_⟩;have h6:=p.2 L;simp only[vws,Nd.vw]at h6;show¬lat (y.fe _) (y.fq _) _ _;unfold lat at*;omega
  ·obtain⟨p1,p2,p3,p4⟩:=w.hl l;refine⟨.inl p1,p2,by show _<=dN y.mx E 0 _;rw[F p1];exact p3,?_⟩;simp only[vws,Nd.vw]at p4⊢;unfold lat at*;omega
  ·have:0<a.d.last:=l;omega
  ·obtain⟨⟨X,o2,o3,o4,o5⟩,_⟩:=h.om p;show jT _ (a.d.bk b) e q b∨_;rw[congrFun hb b];exact(w.n2 l p L).imp (λz=>z.jc U X o3 (w.v1 o4 o5).1) (hD p)
  ·have:a.down=true:=l;rw[dA]at this;simp at this
  ·simp only[Nd.vw,←he,hl,←hE];refine⟨.inr sG,by rw[t],λb _ _=>by rw[M,hb],λc c0 c1=>?_,λp=>oG⟩;have A:c<=dN y.mx E 0 E:=c1;rw[t]at A;omega
  ·have:0<a.on:=l;omega
 ·rcases O hm with l|l;·exact .inl l
  ·exact .inr ⟨λp=>oG,λp=>oG⟩
def LI.raise(h:LI n nb (vws x) sn u lv ops rs rd j [] y)(C:Cv n nb x sn g u K j a sn' g' u')(ha:(x j).act=true)(al:(x j).ph=0)(I O:Prop){B V:Int}(hF:V=(x j).d.bk B∨V=ops.length+1/\ops.length+1<=ops'.length)(hN:ops.length<=ops'.length)(an:∀o∈ops,o∈ops')(hI:I->O/\0<=B/\B<nb)(hB:-1<=B){m:Ms}(hk:m.k=7∨m.k=9)(L:m.e=(x j).d.ep/\m.q=(x j).d.last+1)(h7:m.k=7->m.bl=B/\0<=B/\m.v=V)(h9:m.k=9->B = -1/\m.zs=(x j).eu.zs)(hA:(O/\(∀b,0<=b->b<nb->a.d.bk b=if b=B then V else(x j).d.bk b)/\a.d.seen=(x j).d.ep/\a.d.last=(x j).d.last+1/\a.d.ep=(x j).d.ep/\a.down=false/\(B = -1->u'.ad (x j).d.ep)/\(a.ph=1->B = -1))∨(¬O/\a.d=(x j).d/\a.act=false/\a.tr=m))(ho:∀{z},sn' z->sn z∨(z.k=m.k/\z.e=m.e/\z.q=m.q/\z.bl=m.bl/\z.v=m.v/\z.zs=m.zs))(aw:∀i,i≠j->lv' i=lv i)(a4:0<a.on->I/\a.ow.k=7/\a.ow.e=(x j).d.ep/\a.ow.q=(x j).d.last+1/\a.ow.bl=B/\a.ow.v=V/\pend=[]/\∃o∈ops',o.nd=j/\o.lf=lv' j/\o.op=a.on/\(o.rd=false->V=ops.length+1))(hp:pend.length<=1)(a6:∀r∈pend,I/\r.bl=B/\r.v=V/\r.e=(x j).d.ep/\r.q=(x j).d.last+1/\(∀i,0<=i->i<n->bit (u.R (x j).d.ep).S i->i=j)/\∃o∈ops',o.nd=j/\o.lf=lv' j/\o.op=r.op/\(o.rd=false->V=ops.length+1)):∃y',LI n nb (vws (upd x j a)) sn' u' lv' ops' rs rd j pend y':=by
 have hj:=h.nd C.h0.1 C.h0.2;have q:=C.hi.own C.h0.1 C.h0.2;have q':=C.hi'.own C.h0.1 C.h0.2;rw[upd_self]at q';obtain⟨E,hE⟩:∃E,E=(x j).d.ep:=⟨_,rfl⟩;obtain⟨Q,hQ⟩:∃Q,Q=(x j).d.last+1:=⟨_,rfl⟩;obtain⟨M,hM⟩:∃M:Int,M=ops.length+1:=⟨_,rfl⟩;have t:=q.t1 ha;obtain⟨c1,c2,c3,c4,c5⟩:=hj.ac ha;simp only[vws,Nd.vw]at c1 c2 c3 c4;rw[←hE]at c1 c2 c3 c4 t L hA a4 a6;rw[←hQ]at L hA a4 a6;rw[←hM]at hF a4 a6;have a8:=t.2.1;have aa:=C.R (h.tk c1).1;have m0:=(h.tk c1).2;have ab:0<Q/\Q=y.mx E+1:=oG;obtain⟨Ws,a5⟩:∃Ws:Int->Int,Ws=λb=>if b=B then V else(x j).d.bk b:=⟨_,rfl⟩
 have aj:∀b,Ws b=(x j).d.bk b∨(Ws b=M/\M<=ops'.length):=by
  intro b;rw[a5];dsimp only;by_cases hb:b=B;·rw[if_pos hb,hb];exact hF.imp id (λl=>⟨l.1,oG⟩)
  ·rw[if_neg hb];exact .inl rfl
 obtain⟨y',hy⟩:∃y':Lv,y'={y with mx:=dN y.mx E Q,W:=dN y.W E (dN (y.W E) Q Ws),fe:=dN y.fe M E,fq:=dN y.fq M Q,kd:=dN y.kd E (dN (y.kd E) Q B),op:=λe q b=>y.op e q b∨(I/\e=E/\q=Q/\b=B),has:=λi e q=>y.has i e q∨(O/\i=j/\e=E/\q=Q)}:=⟨_,rfl⟩;have f1:y'.mx E=Q:=by rw[hy];simp[dN]
 have f2:∀{e},e≠E->y'.mx e=y.mx e:=λs=>by rw[hy];simp[dN,s]
 have f3:y'.W E Q=Ws:=by rw[hy];simp[dN]
 have f4:∀{e q},(e≠E∨q≠Q)->y'.W e q=y.W e q:=λ{e q} s=>by
  rw[hy];dsimp only;by_cases h9:e=E;·subst h9;simp[dN,s.resolve_left (λl=>l rfl)]
  ·simp[dN,h9]
 have f5:y'.kd E Q=B:=by rw[hy];simp[dN]
 have f6:∀{e q},(e≠E∨q≠Q)->y'.kd e q=y.kd e q:=λ{e q} s=>by
  rw[hy];dsimp only;by_cases h9:e=E;·subst h9;simp[dN,s.resolve_left (λl=>l rfl)]
  ·simp[dN,h9]
 have f7:y'.fe M=E/\y'.fq M=Q:=by rw[hy];simp[dN]
 have f8:∀{w},w≠M->y'.fe w=y.fe w/\y'.fq w=y.fq w:=λs=>by rw[hy];simp[dN,s]
 have f9:∀{e q b},y'.op e q b↔y.op e q b∨(I/\e=E/\q=Q/\b=B):=by rw[hy]
 have fa:∀{i e q},y'.has i e q↔y.has i e q∨(O/\i=j/\e=E/\q=Q):=by rw[hy]
 have fb:∀{e},y'.tk e↔y.tk e:=by rw[hy]
 clear hy;have old:∀{e q},q<=y.mx e->e≠E∨q≠Q:=λ{e q} hq=>by
  by_cases l:e=E;·subst l;exact .inr oG
  ·exact .inl l
 have X:Lx ops.length y y' j:=⟨fb.2,λ{e} _=>by
  by_cases l:e=E;·subst l;rw[f1];omega
  ·rw[f2 l];exact Int.le_refl _,λ_ hq=>f4 (old hq),λ_ hq=>f6 (old hq),λ{w} hw=>f8 oG,λl=>fa.2 (.inl l),λs l=>(fa.1 l).resolve_right (λh7=>s h7.2.1),λl=>f9.2 (.inl l)⟩
 have ah:(ops.length:Int)<=ops'.length:=oG;have hD:∀{e q b},y.op e q b->Dm n (vws x) sn u.R e q->Dm n (vws (upd x j a)) sn' u'.R e q:=λho=>C.dm (h.tk (h.om ho).1.1).1;have vW:∀{b},0<=b->b<nb->nL ops'.length y' (Ws b) E Q:=by
  intro b A D;rcases aj b with l|⟨l,ao⟩;·rw[l];have p:=(hj.v1 A D).jc X ah;refine⟨p.1,λh5=>?_⟩;have h4:=p.2 h5;simp only[vws,Nd.vw]at h4;unfold lat at*;omega
  ·rw[l];exact⟨ao,λ_=>by rw[f7.1,f7.2];unfold lat;omega⟩
 have ai:∀{e H b},0<=b->b<nb->y.tk e->H<=y.mx e->lat E Q e H->jT y ((x j).d.bk b) e H b->jT y' (Ws b) e H b:=by
  intro e H b A D F hq hl hb;rcases aj b with l|⟨l,_⟩;·rw[l];exact hb.jc X F hq (hj.v1 A D).1
  ·rw[l];exact .inr ⟨oG,by rw[f7.1,f7.2];exact hl⟩
 have a9:∀{e q},q<=y'.mx e->¬(e=E/\q=Q)->q<=y.mx e:=by
  intro e H hq s;by_cases l:e=E;·subst l;rw[f1]at hq;have:H≠Q:=λh7=>s ⟨rfl,h7⟩;omega
  ·rw[f2 l]at hq;exact hq
 have ar:∀f,y'.tk f->E<f->Dm n (vws (upd x j a)) sn' u'.R E Q:=by
  intro f hf ay;have uf:=(h.tk (fb.1 hf)).1;obtain⟨i,e',i0,U,i2,i3,i4,i5,i6⟩:=C.hi.behind C.h0.1 C.h0.2 ha al (f - E).toNat uf oG oG;rw[←hE]at i3 i5;obtain⟨_,i',_,_,k2,k3,_⟩:=C.hi.t2 i4;have av:i'=i:=oG;subst av;refine⟨i',i0,U,by rw[aa];exact i3,by rw[aa,a8];omega,?_,λz hz zk zf zz=>?_⟩;·show E<((upd x j a i').vw).se;rw[upd_ne i2];show E<(x i').d.seen;omega
  ·rcases C.s8 z hz zk with l|l;·have h7:=((h.ms l).2 (.inl zk)).1;rw[zf,zz.1,zz.2]at h7;have:=((h.nd i0 U).hl h7).2.2.1;omega
   ·omega
 have ag:Vm nb y' m:=by
  refine⟨?_,?_,?_,λhk=>?_,λhk=>?_⟩;·rw[L.1];exact fb.2 c1
  ·omega
  ·rw[L.1,L.2,f1];exact Int.le_refl _
  ·obtain⟨a1,a2,a3⟩:=h7 hk;rw[L.1,L.2,f5,f3,a1,a3,a5];exact⟨rfl,a2,sG⟩
  ·obtain⟨a1,a2⟩:=h9 hk;rw[L.1,L.2,f5,f3,a2,a5];refine⟨a1,λb d A D=>?_⟩;rw[xH _ A (by rw[q.i0.2.2.2.1];exact D)];simp only;rw[if_neg oG]
 have aq:¬u.ad E:=λl=>q.ap ha (by rw[←hE];exact l) al;have ak:∀r∈rs,¬(r.e=E/\r.q=Q):=by rintro r hr ⟨r1,r2⟩;have l:=(h.om (h.re r (List.mem_append_left _ hr)).1).1.2.2.1;rw[r1,r2]at l;omega
 have ax:(x j).d.seen=E:=oG;refine⟨y',h.go C X hN an aw (λ{e} F=>?_) (λ{e} F hP=>f2 (λl=>hP (l ▸ a8))) (λ{e H b} l=>?_) (λ{e H q1 b} F a0 a1 a2 A D=>?_) (λ{e H b} F a0 a1 A D=>?_) (λ_ l h7=>absurd (fb.1 l) h7) (λ{e H b} l h7'=>?_) (λ{e H b c} l d0 d1 d2=>?_) ?_ (λ{z} hz=>?_) hp (λr hr=>?_)⟩;·have F:=fb.1 F;refine⟨C.hu.tk (h.tk F).1,?_⟩;have:=X.mx F;have:=(h.tk F).2;omega
 ·rcases f9.1 l with l|⟨_,rfl,rfl,rfl⟩;·exact .inl l
  ·exact .inr ⟨c1,oG,ar⟩
 ·have F:=fb.1 F;by_cases hn:e=E/\q1=Q
  ·obtain⟨rfl,rfl⟩:=hn;by_cases hq:H=q1;·subst hq;exact .inl rfl
   ·rw[f3];refine ai A D F oG (.inr ⟨rfl,oG⟩) ?_;rw[c3 b A D];exact h.w1 F a0 oG oG A D
  ·have l:=a9 a2 hn;rw[X.W F l];exact(h.w1 F a0 a1 l A D).jc X F oG (h.wf F oG l A D).1
 ·have F:=fb.1 F;by_cases hn:e=E/\H=Q;·obtain⟨rfl,rfl⟩:=hn;rw[f3];exact vW A D
  ·have l:=a9 a1 hn;rw[X.W F l];exact(h.wf F a0 l A D).jc X ah
 ·rcases f9.1 l with l|⟨U,rfl,rfl,rfl⟩;·exact absurd l h7'
  ·refine⟨⟨fb.2 c1,ab.1,by rw[f1];exact Int.le_refl _,(hI U).2⟩,f5,fa.2 (.inr ⟨(hI U).1,?_,rfl,rfl⟩)⟩;rw[aa,a8];omega
 ·rcases f9.1 l with l|⟨U,rfl,rfl,rfl⟩
  ·by_cases hn:e=E/\c=Q;·obtain⟨rfl,rfl⟩:=hn;have:=(h.om l).1.2.2.1;omega
   ·have p:=a9 d1 hn;rw[f6 (old p)]at d2;exact h.ko l d0 p d2
  ·by_cases hn:c=H;·subst hn;rw[f5]at d2;have:=(hI U).2.1;omega
   ·have p:=a9 d1 (λh5=>hn h5.2);rw[f6 (old p)]at d2;exact absurd (c4 c d0 p d2) aq
 ·rcases hA with⟨hO,p1,p2,p3,p4,p5,p6,p7⟩|⟨hO,p1,p2,p3⟩
  ·have pW:∀{b},0<=b->b<nb->a.d.bk b=Ws b:=λA D=>by rw[p1 _ A D,a5]
   refine⟨λA D=>?_,λ{e H} l=>?_,λ_=>?_,λ{f c e H b} l p h5=>?_,λl=>?_,λl=>?_,λl=>?_⟩;·simp only[Nd.vw,p2,p3];rw[pW A D];exact vW A D
   ·simp only[Nd.vw,p2,p3];rcases fa.1 l with l|⟨_,_,rfl,rfl⟩;·obtain⟨g1,g2,g3,g4⟩:=hj.hl l;refine⟨fb.2 g1,g2,Int.le_trans g3 (X.mx g1),?_⟩;simp only[vws,Nd.vw]at g4;unfold lat at*;omega
    ·exact⟨fb.2 c1,ab.1,by rw[f1];exact Int.le_refl _,by unfold lat;omega⟩
   ·exact fa.2 (.inr ⟨hO,rfl,p2,p3⟩)
   ·show jT y' (a.d.bk b) e H b∨_;have N:0<=b/\b<nb:=by
     rcases f9.1 p with p|⟨U,_,_,rfl⟩;·exact(h.om p).1.2.2.2
     ·exact(hI U).2
    rw[pW N.1 N.2];rcases f9.1 p with p|⟨U,rfl,rfl,rfl⟩
    ·obtain⟨⟨o1,o2,o3,_⟩,_⟩:=h.om p;rcases fa.1 l with l|⟨_,_,rfl,rfl⟩;·have g:=hj.hl l;rw[X.kd g.1 g.2.2.1]at h5;have g4:=g.2.2.2;simp only[vws,Nd.vw]at g4;exact(hj.n2 l p h5).imp (ai N.1 N.2 o1 o3 (by unfold lat at*;omega)) (hD p)
     ·rcases h5 with⟨rfl,rfl⟩|⟨_,h5⟩;·omega
      ·have au:¬lat e H f (y.mx f):=by
        by_cases ae:e=f;·subst ae;unfold lat;omega
        ·unfold lat at*;omega
       have h4:=h.beh p c1 m0 (Int.le_refl _) au;rw[←c2,←c3 b N.1 N.2]at h4;exact h4.imp (ai N.1 N.2 o1 o3 h5) (hD p)
    ·rcases fa.1 l with l|⟨_,_,rfl,rfl⟩
     ·have g:=hj.hl l;have g4:=g.2.2.2;simp only[vws,Nd.vw]at g4;clear a4 a6;exfalso;have g3:=g.2.2.1;by_cases ae:f=e;·subst ae;unfold lat at*;omega
      ·unfold lat at*;omega
     ·exact .inl (.inl (by rw[f3]))
   ·have:a.down=true:=l;rw[p5]at this;simp at this
   ·simp only[Nd.vw,p3,p4];refine⟨fb.2 c1,f1.symm,λb A D=>by rw[pW A D,f3],λc d0 d1 d2=>?_,λp=>⟨ab.1,by rw[f5];exact p7 p⟩⟩;by_cases hn:c=Q;·subst hn;rw[f5]at d2;exact p6 d2
    ·have p:=a9 d1 (λh5=>hn h5.2);rw[f6 (old p)]at d2;exact C.hu.ad (c4 c d0 p d2)
   ·obtain⟨U,w1,w2,w3,w4,w5,rfl,o,o1,o2,o3,o4,o5⟩:=a4 l;simp only[Nd.vw,w2,w3,w4,w5,p4];refine⟨f9.2 (.inr ⟨U,rfl,rfl,rfl⟩),w1,sG,?_,⟨o,o1,o2,o3,o4,λp=>?_⟩,λr hr=>?_⟩;·unfold Vm;rw[w2,w3,w4,w5,f1,f3,f5,a5];exact⟨fb.2 c1,ab.1,Int.le_refl _,λ_=>⟨rfl,(hI U).2.1,sG⟩,λp=>oG⟩
    ·have:=o5 p;subst this;exact⟨oG,f7⟩
    ·rw[List.append_nil]at hr;exact ak r hr
  ·have a7:∀{i e q},y'.has i e q->y.has i e q:=λl=>(fa.1 l).resolve_right (λp=>hO p.1);have af:∀{e q b},y'.op e q b->y.op e q b:=λl=>(f9.1 l).resolve_right (λp=>hO (hI p.1).1);have e1:a.d.bk=(x j).d.bk/\a.d.seen=(x j).d.seen/\a.d.last=(x j).d.last:=by rw[p1];exact⟨rfl,rfl,rfl⟩
   refine⟨λA D=>?_,λ{e H} l=>?_,λl=>?_,λ{f c e H b} l p h5=>?_,λl p=>?_,λl=>?_,λl=>?_⟩;·simp only[Nd.vw,e1];exact(hj.v1 A D).jc X ah
   ·simp only[Nd.vw,e1];obtain⟨g1,g2,g3,g4⟩:=hj.hl (a7 l);exact⟨fb.2 g1,g2,Int.le_trans g3 (X.mx g1),g4⟩
   ·simp only[Nd.vw,e1]at l⊢;exact fa.2 (.inl (hj.pt l))
   ·simp only[Nd.vw,e1];have p:=af p;have l:=a7 l;obtain⟨⟨o1,o2,o3,o4,o5⟩,_⟩:=h.om p;have g:=hj.hl l;rw[X.kd g.1 g.2.2.1]at h5;exact(hj.n2 l p h5).imp (λz=>z.jc X o1 o3 (hj.v1 o4 o5).1) (hD p)
   ·show Vm nb y' a.tr;rw[p3];exact ag
   ·have:a.act=true:=l;rw[p2]at this;simp at this
   ·have:=(q'.o1 l).1;rw[p2]at this;simp at this
 ·rcases ho hz with l|⟨z1,z2,z3,z4,z5,z6⟩;·exact .inl l
  ·refine .inr ⟨λ_=>?_,λl=>by clear a4 a6;omega⟩;unfold Vm at ag⊢;rw[z1,z2,z3,z4,z5,z6];exact ag
 ·obtain⟨U,r1,r2,r3,r4,r5,o,o1,o2,o3,o4,o5⟩:=a6 r hr;refine⟨⟨f9.2 (.inr ⟨U,r3,r4,r1⟩),by rw[r1,r2,r3,r4,f3,a5];simp,λi i0 U i2 i3=>?_⟩,by rw[r3];exact a8,λr' am=>by rw[r3,r4];exact ak r' am,o,o1,o2,o3,o4,λp=>?_⟩;·rw[r3,aa]at i2 i3;have:=r5 i i0 U i2;rw[a8]at i3;omega
  ·have:=o5 p;rw[r2,r3,r4,this];exact⟨oG,f7⟩
end
end AG
namespace AG
def Vd(y a:Nd):Prop:=tJ y a/\(a.down=true->y.down=true/\a.tr=y.tr∨(a.tr.k≠7/\a.tr.k≠9))
def Vt(y a:Nd):Prop:=a.d.bk=y.d.bk/\y.d.seen<a.d.seen/\a.d.last=0/\a.d.seen=a.d.ep/\(a.d.rc a.d.ep).P=y.id+1/\a.on=0/\a.ph=0/\a.down=false
def Vc(sn:Ms->Prop)(y a:Nd)(out:List (Int×Ms)):Prop:=
  (tJ y a/\(a.down=true->y.down=true/\a.tr=y.tr∨(a.tr.k=7∨a.tr.k=9->sn a.tr))/\∀z∈out,7<=z.2.k->Sx sn a z.2)∨
  (Vt y a/\∀z∈out,z.2.k<7)∨
  (∃m,(sn m∨y.down=true/\m=y.tr)/\(m.k=7∨m.k=9)/\(y.d.seen<m.e∨y.d.seen=m.e/\y.d.last<=m.q)/\a.d=y.d.step m/\a.act=false/\a.down=false/\∀z∈out,7<=z.2.k->z.2.k=m.k+1/\z.2.f=y.id/\z.2.e=m.e/\z.2.q=m.q)∨
  (y.act=true/\y.ph=0/\a.on<=0/\(∀z∈out,∃f,z.2={y.eu with q:=y.d.last+1,f:=f})/\((a.d=y.d.step {y.eu with q:=y.d.last+1}/\a.down=false/\a.ph=1/\∃i,0<=i/\i<5/\bit a.gS i/\¬bit (y.d.rc y.d.ep).S i)∨(a.d=y.d/\a.act=false/\a.tr={y.eu with q:=y.d.last+1})))
def Vd.refl(y:Nd):Vd y y:=⟨⟨rfl,rfl,rfl,id,id⟩,λh=>.inl ⟨h,rfl⟩⟩
def Vd.fall(y:Nd){m:Ms}(a:m.k≠7/\m.k≠9):Vd y (y.fall m):=⟨⟨rfl,rfl,rfl,λh=>by simp[Nd.fall,Nd.stand]at h,λh=>by simp[Nd.fall,Nd.stand]at h⟩,λ_=>.inr a⟩
def Vd.save(y:Nd){m:Ms}(a:m.k=1∨m.k=3):Vd y (y.save m true):=by
 have e:(y.save m true).d.bk=y.d.bk/\(y.save m true).d.seen=y.d.seen/\(y.save m true).d.last=y.d.last:=by rcases a with a|a<;>simp[Nd.save,Du.step,a]
 exact⟨⟨e.1,e.2.1,e.2.2,id,id⟩,λh=>.inl ⟨h,rfl⟩⟩
def Vd.trans{x y z:Nd}(h:Vd x y)(h':Vd y z):Vd x z:=by
 obtain⟨⟨a1,l,m,b,n⟩,k⟩:=h;obtain⟨⟨c,i,j,g,d⟩,f⟩:=h';refine⟨⟨c.trans a1,i.trans l,j.trans m,λh=>b (g h),λh=>n (d h)⟩,λh=>?_⟩;rcases f h with⟨a,e⟩|a;·rw[e];exact k a
 ·exact .inr a
def Vd.vt{x y z:Nd}(h:Vd x y)(a:y.id=x.id)(h':Vd y z∨Vt y z):Vd x z∨Vt x z:=by
 rcases h' with h'|⟨b,f,g,e,c,d⟩;·exact .inl (h.trans h')
 ·exact .inr ⟨b.trans h.1.1,by rw[←h.1.2.1];exact f,g,e,by rw[←a];exact c,d⟩
def Vd.jr(y:Nd){a:Nd}(h:a={y with ph:=a.ph,gP:=a.gP,gS:=a.gS,jo:=a.jo,ba:=a.ba,rf:=a.rf,fo:=a.fo,an:=a.an,ops:=a.ops,on:=a.on,ow:=a.ow,oa:=a.oa,res:=a.res})(b:a.ph=1->y.ph=1):Vd y a:=by rw[h];exact⟨⟨rfl,rfl,rfl,id,b⟩,λh=>.inl ⟨h,rfl⟩⟩
def Vd.iy(y:Nd){m:Ms}(b:m.k=1∨m.k=3)(ok:Bool):Vd y (y.iy m ok).1/\(y.iy m ok).2.k<7:=by
 unfold Nd.iy;split;·exact⟨.refl y,show(6:Int)<7 by decide⟩
 split;·exact⟨.refl y,show(5:Int)<7 by decide⟩
 dsimp only;have a:∀p q:Ms,p.k=4->q.k=2->(if m.k=3 then p else q).k<7:=by intro p q d c;split<;>omega
 split;·exact⟨.refl y,a _ _ rfl rfl⟩
 split;·exact⟨.save y b,a _ _ rfl rfl⟩
 ·exact⟨.fall y oG,show(0:Int)<7 by decide⟩
def Lo(out:List (Int×Ms)):Prop:=∀z∈out,z.2.k<7
def Lo.nil:Lo []:=by simp[Lo]
def Lo.tell(y:Nd){m:Ms}(l:List Int)(h:m.k<7):Lo (y.tell m l):=i9 λ_=>h
def Vd.prepare(y:Nd)(ok:Bool):Vd y (y.prepare ok).1/\Lo (y.prepare ok).2:=by
 unfold Nd.prepare;dsimp only;split;·exact⟨.refl y,.nil⟩
 have h:=(Vd.iy y (m:={Ms.nil with k:=1,e:=y.d.ep,b:=y.gu y.rf}) (.inl rfl) ok).1;split;·exact⟨h,.nil⟩
 ·exact⟨h.trans (.jr _ rfl (λa=>by simp at a)),.tell _ _ (show(1:Int)<7 by decide)⟩
def Vd.ig(y:Nd)(ok:Bool):Vd y (y.ig ok).1/\Lo (y.ig ok).2:=by
 unfold Nd.ig;dsimp only;have a:Vd y (if 0<y.fo.wa then{y with gP:=y.fo.p,gS:=y.fo.s} else y):=by
  split;·exact .jr y rfl id
  ·exact .refl y
 generalize (if 0<y.fo.wa then{y with gP:=y.fo.p,gS:=y.fo.s} else y)=z at*;have h:=(Vd.iy z (m:={Ms.nil with k:=3,e:=z.d.ep,b:=z.ba,p:=z.gP,s:=z.gS}) (.inr rfl) ok).1;split;·exact⟨a.trans h,.nil⟩
 ·exact⟨a.trans (h.trans (.jr _ rfl (λc=>by simp at c))),.tell _ _ (show(3:Int)<7 by decide)⟩
def DL{d:Du}{E p s:Int}(b:E=d.ep+1):((d.learn E p s).bk=d.bk/\(d.learn E p s).ep=E/\((d.learn E p s).rc E).P=p)/\(d.takes E p=true->d.seen<E/\p=d.id+1/\(d.learn E p s).seen=E/\(d.learn E p s).last=0)/\(d.takes E p=false->(d.learn E p s).seen=d.seen/\(d.learn E p s).last=d.last):=by
 have e:(d.learn E p s).ep=E:=by simp[Du.learn,Du.ep]at b⊢;omega
 refine⟨⟨rfl,e,?_⟩,λa=>?_,λa=>?_⟩;·simp only[Du.learn,Du.rc,Du.ep]at b⊢;rw[List.getD_eq_getElem?_getD,show E.toNat=d.recs.length by omega,List.getElem?_append_right r_];simp
 ·have c:p=d.id+1/\d.seen<E:=by simpa[Du.takes] using a
  refine⟨c.2,c.1,?_,?_⟩<;>simp[Du.learn,a]
 ·simp[Du.learn,a]
def A9(y:Nd){m:Ms}(o:m.k=6)(q:folB (y.d.rc y.d.ep) (m.e+1) m.p m.s=true->m.e=y.d.ep)(b:y.d.id=y.id)(dA:y.down=false)(ok:Bool):Vd y (y.decided m ok).1∨Vt y (y.decided m ok).1:=by
 unfold Nd.decided;split
 ·next hf=>
  split
  ·have hs:(y.save m true).d=y.d.learn (m.e+1) m.p m.s:=by simp[Nd.save,Du.step,o]
   obtain⟨⟨g,h,r⟩,i,f⟩:=DL (d:=y.d) (E:=m.e+1) (p:=m.p) (s:=m.s) (by have:=q hf;omega);cases ht:y.d.takes (m.e+1) m.p
   ·left;refine⟨⟨?_,?_,?_,λa=>by simp at a,λa=>by simp[Nd.stand]at a⟩,λa=>?_⟩;·show(y.save m true).d.bk=_;rw[hs];exact g
    ·show(y.save m true).d.seen=_;rw[hs];exact(f ht).1
    ·show(y.save m true).d.last=_;rw[hs];exact(f ht).2
    ·have:y.down=true:=a;rw[dA]at this;simp at this
   ·right;obtain⟨l,j,c,n⟩:=i ht;refine⟨?_,?_,?_,?_,?_,rfl,rfl,dA⟩;·show(y.save m true).d.bk=_;rw[hs];exact g
    ·show _<(y.save m true).d.seen;rw[hs,c];exact l
    ·show(y.save m true).d.last=_;rw[hs];exact n
    ·show(y.save m true).d.seen=(y.save m true).d.ep;rw[hs,h,c]
    ·show((y.save m true).d.rc (y.save m true).d.ep).P=_;rw[hs,h,r,j,b]
  ·exact .inl (.fall y oG)
 ·exact .inl (.refl y)
def Vc.je{sn:Ms->Prop}{y a:Nd}{out:List (Int×Ms)}(h:Vd y a∨Vt y a)(b:Lo out):Vc sn y a out:=by
 rcases h with h|h;·refine .inl ⟨h.1,λc=>(h.2 c).imp id (λe f=>oG),λz d c=>?_⟩;have:=b z d;omega
 ·exact .inr (.inl ⟨h,b⟩)
section
variable {n nb:Int} {x:Int->Nd} {sn:Ms->Prop} {g:Gh} {u:Gv} {j:Int}
def Inv.foe(h:Inv n nb x sn g u)(b:0<=j)(a:j<n){E p s:Int}(e:folB ((x j).d.rc (x j).d.ep) (E+1) p s=true):E=(x j).d.ep:=by have c:=(h.own b a).i0.2.2.2.2;rw[(h.own b a).rr c (Int.le_refl _)]at e;have f:=h.recE b a c (Int.le_refl _);have:=(wJ e).2.2.1;omega
def Inv.rcv_v(h:Inv n nb x sn g u)(z:0<=j)(A:j<n){m:Ms}(w:sn m)(C:m.k≠8)(ok:Bool):Vc sn (x j) ((x j).receive m ok).1 ((x j).receive m ok).2:=by
 have q:=h.own z A;unfold Nd.receive;split;·exact .je (.inl (.refl _)) .nil
 next c0=>
 have l:(x j).down=false:=by
  cases hd:(x j).down;·rfl
  ·exact absurd (.inl hd) c0
 have o:(x j).d.id=(x j).id:=by have:=q.i0;omega
 split
 ·next hk=>
  obtain⟨v1,B⟩:=Vd.iy (x j) hk ok;exact .je (.inl v1) (jU λ_=>B)
 split
 ·unfold Nd.promised;split
  ·dsimp only;have c:=Vd.jr (x j) (a:={x j with fo:=if(x j).fo.wa<m.wa then m else(x j).fo,an:=(x j).an++[(2,m.e,m.b,m.f)]}) rfl id;split;·have v:=Vd.ig {x j with fo:=if(x j).fo.wa<m.wa then m else(x j).fo,an:=(x j).an++[(2,m.e,m.b,m.f)]} ok;exact .je (.inl (c.trans v.1)) v.2
   ·exact .je (.inl c) .nil
  ·exact .je (.inl (.refl _)) .nil
 split
 ·unfold Nd.accepted;split
  ·dsimp only;split
   ·unfold Nd.conclude;dsimp only;have e:=A9 ({x j with an:=[],ph:=0,gP:=0,gS:=0,jo:=0,ba:=0,rf:=0,fo:=.nil}:Nd) (m:={Ms.nil with k:=6,e:=(x j).d.ep,p:=(x j).gP,s:=(x j).gS}) rfl (λ_=>rfl) o l ok;refine .je (Vd.vt (y:={x j with an:=[],ph:=0,gP:=0,gS:=0,jo:=0,ba:=0,rf:=0,fo:=.nil}) (.jr (x j) rfl (λi=>by simp at i)) rfl e) ?_
    ·split;·exact .tell _ _ (show(6:Int)<7 by decide)
     ·exact .nil
   ·exact .je (.inl (.jr _ rfl id)) .nil
  ·exact .je (.inl (.refl _)) .nil
 split
 ·unfold Nd.refused;split;·exact .je (.inl (.jr _ rfl id)) .nil
  ·exact .je (.inl (.refl _)) .nil
 split;·next hk=>exact .je (A9 _ hk (λi=>h.foe z A i) o l ok) .nil
 split
 ·next hk=>
  unfold Nd.update;split;·exact .je (.inl (.refl _)) (by simp[Nd.rep,Ms.nil,Lo])
  next c1=>
  split;·refine .je (.inl (.refl _)) (jU λ_=>?_);dsimp only;split<;>simp[Nd.decision,Ms.nil]
  next c2=>
  dsimp only;split
  ·next c3=>
   refine .inl ⟨⟨rfl,rfl,rfl,id,id⟩,λi=>.inl ⟨i,rfl⟩,jU λ_ _=>.inl ⟨by dsimp only;omega,rfl,c3.1,c3.2,m,w,by dsimp only;omega,rfl,rfl⟩⟩
  next c3=>
  have t:(x j).d.seen<m.e∨(x j).d.seen=m.e/\(x j).d.last<=m.q:=by
   by_cases r:m.e=(x j).d.seen;·refine .inr ⟨r.symm,?_⟩;apply Classical.byContradiction;intro D;exact c1 (.inr ⟨r,.inr oG⟩)
   ·exact .inl oG
  split
  ·refine .inr (.inr (.inl ⟨m,.inl w,hk,t,?_,?_,?_,jU λ_ _=>⟨rfl,rfl,rfl,rfl⟩⟩));·show(if m.e=(x j).d.seen then(x j).save m true else((x j).save m true).stand).d=_;split<;>rfl
   ·show(if m.e=(x j).d.seen then(x j).save m true else((x j).save m true).stand).act=_;split
    ·next r=>
     show(x j).act=false;cases ha:(x j).act;·rfl
     ·exact absurd (.inr ⟨r,.inl ha⟩) c1
    ·rfl
   ·show(if m.e=(x j).d.seen then(x j).save m true else((x j).save m true).stand).down=_;split<;>exact l
  ·exact .inl ⟨⟨rfl,rfl,rfl,λi=>by simp[Nd.rep,Nd.fall,Nd.stand]at i,λi=>by simp[Nd.rep,Nd.fall,Nd.stand]at i⟩,λ_=>.inr (λ_=>w),by simp[Nd.rep,Ms.nil]⟩
 split
 ·unfold Nd.copied;split;·have v:=Vd.prepare ({x j with ph:=2}:Nd) ok;exact .je (.inl ((Vd.jr (x j) rfl (λi=>by simp at i)).trans v.1)) v.2
  ·exact .je (.inl (.refl _)) .nil
 ·exact .je (.inl (.refl _)) .nil
def pro_v(y:Nd)(set:Int)(ok:Bool):Vc sn y (y.gq set ok).1 (y.gq set ok).2.1:=by
 unfold Nd.gq;split;·exact .je (.inl (.refl _)) .nil
 split;·exact .je (.inl (.refl _)) .nil
 split;·exact .je (.inl (.refl _)) .nil
 have v:=Vd.prepare ({y with ph:=2,gP:=y.id+1,gS:=set,jo:=0,ba:=0,rf:=0,fo:=.nil,an:=[]}:Nd) ok;exact .je (.inl ((Vd.jr y rfl (λa=>by simp at a)).trans v.1)) v.2
def ret_v(y:Nd)(ok:Bool):Vc sn y (y.retry ok).1 (y.retry ok).2:=by
 unfold Nd.retry;split;·exact .je (.inl (.refl _)) .nil
 have d:Vd y (y.iq ok).1/\∀z∈(y.iq ok).2,7<=z.2.k->Sx sn (y.iq ok).1 z.2:=by
  unfold Nd.iq;split;·exact⟨.refl y,i9 λi b=>by simp at b⟩
  split;·next c=>exact⟨.refl y,i9 λi _=>.inr (.inr ⟨rfl,c,rfl,rfl,rfl⟩)⟩
  ·have v:=Vd.prepare y ok;exact⟨v.1,λz a b=>by have:=v.2 z a;omega⟩
 refine .inl ⟨d.1.1,λb=>(d.1.2 b).imp id (λf e=>by dsimp only at e;omega),λz a b=>?_⟩;rcases List.mem_append.1 a with a|a;·exact d.2 z a b
 ·split at a
  ·next ho=>
   have:∀z∈(y.iq ok).1.tell (y.iq ok).1.ow (y.iq ok).1.missing,Sx sn (y.iq ok).1 z.2:=i9 λi=>.inr (.inl ⟨rfl,ho,rfl,rfl,rfl,rfl⟩);exact this z a
  ·simp at a
def Inv.adm_v(h:Inv n nb x sn g u)(e:0<=j)(k:j<n)(node:Int)(ok:Bool):Vc sn (x j) ((x j).admi node ok).1 ((x j).admi node ok).2.1:=by
 have q:=h.own e k;have p:=h.nn;unfold Nd.admi;split;·exact .je (.inl (.refl _)) .nil
 next c0=>
 obtain⟨o,b,a,r,f,m⟩:=sV (Classical.byContradiction λl=>c0 l);obtain⟨c3,s,c⟩:0<=node/\node<(x j).nodes/\¬bit ((x j).d.rc (x j).d.ep).S node:=by unfold Nd.adm fK at a;simp only[Bool.and_eq_true,decide_eq_true_eq,Bool.not_eq_true',beq_eq_false_iff_ne]at a;exact⟨a.1.1,a.1.2,a.2⟩
 dsimp only;split
 ·refine .inr (.inr (.inr ⟨b,f,m,i9 λi=>⟨_,rfl⟩,.inl ⟨rfl,o,rfl,node,c3,by have:=q.i0.2.2.1;omega,?_,c⟩⟩));have hS:0<=((x j).d.rc (x j).d.ep).S/\((x j).d.rc (x j).d.ep).S<=31:=by rw[q.rr q.i0.2.2.2.2 (Int.le_refl _)];exact h.ny e k q.i0.2.2.2.2 (Int.le_refl _)
  exact((BP hS.1 hS.2 c3 (by have:=q.i0.2.2.1;omega) c).2 node c3 (by have:=q.i0.2.2.1;omega)).2 (.inr rfl)
 ·exact .inr (.inr (.inr ⟨b,f,Int.le_refl _,sG,.inr ⟨rfl,rfl,rfl⟩⟩))
def Inv.cr_v(h:Inv n nb x sn g u)(m:0<=j)(t:j<n)(l:(x j).down=true):Vc sn (x j) ((x j).fresh ((x j).d.step (x j).tr)) []:=by
 have f:(x j).d.id=(x j).id:=by have:=(h.own m t).i0;omega
 rcases(h.own m t).pd l with⟨k,c,i⟩|⟨k,c,i,B⟩|⟨k,c,b,i⟩|⟨k,c,i,B,F,z⟩;·exact .inl ⟨by simp[tJ,Nd.fresh,Nd.stand,Du.step,k],λa=>by simp[Nd.fresh]at a,sG⟩
 ·exact .inl ⟨by simp[tJ,Nd.fresh,Nd.stand,Du.step,k],λa=>by simp[Nd.fresh]at a,sG⟩
 ·have hs:(x j).d.step (x j).tr=(x j).d.learn ((x j).tr.e+1) (x j).tr.p (x j).tr.s:=by simp[Du.step,k]
  obtain⟨⟨q,r,C⟩,v,o⟩:=DL (d:=(x j).d) (E:=(x j).tr.e+1) (p:=(x j).tr.p) (s:=(x j).tr.s) oG;rw[hs];cases ht:(x j).d.takes ((x j).tr.e+1) (x j).tr.p;·exact .inl ⟨⟨q,(o ht).1,(o ht).2,λa=>by simp[Nd.fresh,Nd.stand]at a,λa=>by simp[Nd.fresh,Nd.stand]at a⟩,λa=>by simp[Nd.fresh]at a,sG⟩
  ·obtain⟨D,w,y,A⟩:=v ht;refine .inr (.inl ⟨⟨q,?_,A,y.trans r.symm,?_,rfl,rfl,rfl⟩,sG⟩);·show _<((x j).d.learn _ _ _).seen;omega
   ·show(((x j).d.learn _ _ _).rc ((x j).d.learn _ _ _).ep).P=_;rw[r,C,w,f]
 ·exact .inr (.inr (.inl ⟨(x j).tr,.inr ⟨l,rfl⟩,k,z,rfl,rfl,rfl,sG⟩))
end
end AG
end Go.Proofs.YtdcainmlcpafbaaGreatDoor
