import Derived.Test.YtdcainmlcpafbaaGreatDoorJ23
set_option linter.all false
set_option maxRecDepth 20000
namespace Go.Proofs.YtdcainmlcpafbaaGreatDoor
namespace AG
theorem MZ(x:Int->Nd)(n:Int)(s:0<n):∃K:Int,Kn n x K/\∃i,0<=i/\i<n/\(x i).d.ep=K:=by
 have c:∀k:Nat,0<k->∃K:Int,(∀j,0<=j->j<(k:Int)->(x j).d.ep<=K)/\∃i,0<=i/\i<(k:Int)/\(x i).d.ep=K:=by
  intro k;induction k with
  |zero=>intro h;omega
  |succ k ih=>
   intro _;by_cases l:k=0;·subst l;exact⟨(x 0).d.ep,fun j q b=>by rw[show j=0 by omega];exact Int.le_refl _,0,by omega,by omega,rfl⟩
   ·obtain⟨K,b,i,e,r,m⟩:=ih (by omega);by_cases o:K<=(x k).d.ep
    ·refine⟨(x k).d.ep,fun j a g=>?_,k,by omega,by omega,rfl⟩;by_cases f:j=k;·subst f;exact Int.le_refl _
     ·exact Int.le_trans (b j a (by omega)) o
    ·refine⟨K,fun j a g=>?_,i,e,by omega,m⟩;by_cases f:j=k;·subst f;omega
     ·exact b j a (by omega)
 obtain⟨K,b,e⟩:=c n.toNat (by omega);refine⟨K,fun j a g=>b j a (by omega),?_⟩;obtain⟨i,a,g,p⟩:=e;exact⟨i,a,by omega,p⟩
section
variable {n nb:Int} {x:Int->Nd} {sn:Ms->Prop} {g:Gh} {u:Gv} {j:Int}
theorem Inv.one(h:Inv n nb x sn g u){i e b:Int}{p s:Int}(j:0<=i)(m:i<n)(c:0<=e)(k:e<(x i).d.ep)(t:kR n g e b (p,s)):u.R (e+1)=⟨e+1,p,s⟩:=by
 obtain⟨o,w,v⟩:=(h.own j m).rf c k;have f:=h.vx.toPx.one v t;have l:(u.R (e+1)).P=p:=congrArg Prod.fst f;have q:(u.R (e+1)).S=s:=congrArg Prod.snd f;have a:∀r:Rc,r.E=e+1->r.P=p->r.S=s->r=⟨e+1,p,s⟩:=by rintro⟨E,P,S⟩ rfl rfl rfl;rfl
 exact a _ o l q
theorem Inv.learn(h:Inv n nb x sn g u)(D:0<=j)(F:j<n){m:Ms}{b:Int}(hk:m.k=6)(he:m.e=(x j).d.ep)(hc:kR n g m.e b (m.p,m.s)){a:Nd}(hd:a.d=(x j).d.step m)(hi:a.id=(x j).id/\a.nodes=(x j).nodes/\a.nb=(x j).nb)(X:a.act=true->(x j).d.takes (m.e+1) m.p=true)(hp:a.ph=0)(hb:a.ba=0)(ho:a.on=0)(dA:a.down=false):∃u' K,Inv n nb (upd x j a) sn g u'/\Kn n x K/\0<=K/\Grv K u u'/\u'.R (m.e+1)=⟨m.e+1,m.p,m.s⟩/\u'.wr=u.wr/\(∀e,u.tk e->u'.mx e=u.mx e):=by
 have a0:=(h.own D F).i0.2.2.2.2;obtain⟨K,N,i,U,W,iK⟩:=MZ x n (by have:=h.nn;omega);have H:0<=K:=by have:=(h.own U W).i0.2.2.2.2;omega
 have hs:a.d={(x j).d with recs:=(x j).d.recs++[⟨m.e+1,m.p,m.s⟩],seen:=if(x j).d.takes (m.e+1) m.p=true then m.e+1 else(x j).d.seen,last:=if(x j).d.takes (m.e+1) m.p=true then 0 else(x j).d.last,di:=gH (x j).d.di m.e}:=by rw[hd];simp[Du.step,hk,Du.learn]
 have t:a.d.ep=(x j).d.ep+1:=by rw[hs];simp[Du.ep]
 have C:(x j).d.ep+1<=K->u.R (m.e+1)=⟨m.e+1,m.p,m.s⟩:=fun y=>h.one U W (by omega) (by omega) hc;have E:(x j).d.takes (m.e+1) m.p=true->¬u.tk (m.e+1):=by
  intro c r;obtain⟨_,k,B,q2,w,q4,q5⟩:=h.t2 r;have:=N k B q2;have L:=C (by omega);rw[L]at w;simp only[Du.takes,Bool.and_eq_true,beq_iff_eq,decide_eq_true_eq]at c;have:=(h.own D F).i0.2.1;have Q:k=j:=by dsimp only at w;omega
  subst Q;omega
 let u':Gv:={u with R:=eC u.R (m.e+1) ⟨m.e+1,m.p,m.s⟩,tk:=fun e=>u.tk e∨((x j).d.takes (m.e+1) m.p=true/\e=m.e+1),mx:=fun e=>if(x j).d.takes (m.e+1) m.p=true/\e=m.e+1 then 0 else u.mx e};have v:∀e,u.tk e->u'.mx e=u.mx e:=by
  intro e r;show(if _ then _ else _)=_;split;·next f=>rw[f.2]at r;exact absurd r (E f.1)
  ·rfl
 have L:∀e,e≠m.e+1->u'.R e=u.R e:=fun e M=>by show eC _ _ _ _=_;simp[eC,M]
 have o:u'.R (m.e+1)=⟨m.e+1,m.p,m.s⟩:=by show eC _ _ _ _=_;simp[eC]
 have V:Grv K u u':=by
  refine⟨fun{e} A B=>?_,.inl,id,fun r=>by rw[v _ r];exact Int.le_refl _,id⟩;by_cases y:e=m.e+1;·subst y;rw[o,C (by omega)]
  ·exact L e y
 have hV:=h.vx.learn (j:=j) (a:=a.vo) (by simp[Nd.vo,t]) (by intro e q;simp[Nd.vo,t]at q;simp only[Nd.vo,hs];rw[vmGet_del _ _ _ (by omega)]) (by intro e q;simp[Nd.vo,t]at q;simp only[Nd.vo,hs];rw[vmGet_del _ _ _ (by omega)]) (by intro e q;simp[Nd.vo,t]at q;simp only[Nd.vo,hs];rw[vmGet_del _ _ _ (by omega)]) (by simp[Nd.vo,hb]);have l:a.d.seen=(if(x j).d.takes (m.e+1) m.p=true then m.e+1 else(x j).d.seen)/\a.d.last=(if(x j).d.takes (m.e+1) m.p=true then 0 else(x j).d.last):=by rw[hs];exact⟨rfl,rfl⟩
 have z:(x j).d.takes (m.e+1) m.p=true->m.p=j+1/\(x j).d.seen<m.e+1:=by intro c;simp only[Du.takes,Bool.and_eq_true,beq_iff_eq,decide_eq_true_eq]at c;have:=(h.own D F).i0.2.1;omega
 refine⟨u',K,h.go (.refl g) V N (by omega) ?_ hV id .inl (fun _ _=>?_) .inl ?_ (fun r=>.inl (h.at_ r)) ?_ H,N,H,V,o,rfl,v⟩
 ·rw[l.1,l.2];by_cases c:(x j).d.takes (m.e+1) m.p=true;·rw[if_pos c];exact .inl (z c).2
  ·rw[if_neg c,if_neg c];exact .inr ⟨rfl,Int.le_refl _⟩
 ·have q:=h.own D F;refine⟨?_,fun f=>by omega,fun f=>by omega,fun{i} A B=>?_,fun{e} A B=>?_,fun f=>absurd hp f,fun O f=>?_,fun O=>?_,?_,?_,by rw[dA];simp,fun f=>by omega,by rw[dA];simp,fun f=>by omega,fun f=>by omega⟩;·have f:=q.i0;refine⟨hi.1.trans f.1,?_,hi.2.1.trans f.2.2.1,hi.2.2.trans f.2.2.2.1,by omega⟩;rw[hs];exact f.2.1
  ·by_cases y:i=m.e+1
   ·subst y;rw[o,hs];simp only[Du.rc,Du.ep] at*;rw[List.getD_eq_getElem?_getD,List.getElem?_append_right (by omega)];have:(m.e+1).toNat - (x j).d.recs.length=0:=by omega
    rw[this];rfl
   ·rw[L i y,←q.rr A (by omega),hs];simp only[Du.rc,Du.ep] at*;rw[List.getD_eq_getElem?_getD,List.getD_eq_getElem?_getD,List.getElem?_append_left (by omega)]
  ·by_cases y:e=m.e;·subst y;rw[o];exact⟨rfl,b,hc⟩
   ·rw[L (e+1) (by omega)];exact q.rf A (by omega)
  ·rw[t,←he]at f;exact absurd (h.at_ f) (E (X O))
  ·have c:(x j).d.takes (m.e+1) m.p=true:=X O;have S:a.d.ep=m.e+1:=by omega
   rw[S,o,l.1,l.2,if_pos c,if_pos c];refine⟨.inr ⟨c,rfl⟩,(z c).1,rfl,?_⟩;show(0:Int)=if _ then _ else _;rw[if_pos ⟨c,rfl⟩]
  ·rw[l.1,l.2];by_cases c:(x j).d.takes (m.e+1) m.p=true;·rw[if_pos c,if_pos c];refine .inr ⟨.inr ⟨c,rfl⟩,?_⟩;show(0:Int)<=if _ then _ else _;rw[if_pos ⟨c,rfl⟩];exact Int.le_refl _
   ·rw[if_neg c,if_neg c];exact q.t3.imp id (fun w=>⟨.inl w.1,by rw[v _ w.1];exact w.2⟩)
  ·rw[hs];exact q.bv
 ·intro e r;rcases r with r|⟨c,rfl⟩;·exact .inl r
  ·refine .inr ⟨by omega,j,D,F,?_,?_,?_⟩;·rw[o];exact(z c).1
   ·rw[upd_self,l.1,if_pos c];exact Int.le_refl _
   ·rw[upd_self];omega
 ·intro k A B q2 w;exact⟨id,v _ ((h.own A B).t1 w).1⟩
end
end AG
namespace AG
section
variable {n nb:Int} {x:Int->Nd} {sn:Ms->Prop} {g:Gh} {u:Gv} {j:Int}
theorem step79(d:Du){m:Ms}(a:m.k=7∨m.k=9):(d.step m).recs=d.recs/\(d.step m).di=d.di/\(d.step m).id=d.id/\(d.step m).seen=m.e/\(d.step m).last=m.q:=by rcases a with a|a<;>simp[Du.step,a]
theorem zN{d:Du}{m:Ms}(a:m.k=7∨m.k=9)(c:∀{i},0<=i->i<nb->jF u i (d.bk i))(j:m.k=7->jF u m.bl m.v)(h:m.k=9->∀i:Nat,i<m.zs.length->jF u i (m.zs.getD i 0)){i:Int}(b:0<=i)(g:i<nb):jF u i ((d.step m).bk i):=by
 rcases a with a|a
 ·simp only[Du.step,a];show jF u i (if i=m.bl then m.v else d.bk i);split;·next hh=>subst hh;exact j a
  ·exact c b g
 ·simp only[Du.step,a];show jF u i (bif decide (0<=i) then m.zs.getD i.toNat (d.bk i) else d.bk i);rw[show decide (0<=i)=true by simp[b],cond_true];by_cases f:i.toNat<m.zs.length
  ·have:=h a i.toNat f;rw[List.getD_eq_getElem?_getD,List.getElem?_eq_getElem f]at this⊢;simp only[Option.getD_some]at this⊢;have e:((i.toNat:Nat):Int)=i:=by omega
   rw[e]at this;exact this
  ·rw[List.getD_eq_getElem?_getD,List.getElem?_eq_none (by omega)];exact c b g
theorem Inv.write(h:Inv n nb x sn g u)(E:0<=j)(M:j<n){m:Ms}(A:m.k=7∨m.k=9)(F:u.tk m.e)(L:m.q<=u.mx m.e)(N:m.k=7->jF u m.bl m.v)(H:m.k=9->∀i:Nat,i<m.zs.length->jF u i (m.zs.getD i 0))(R:(x j).d.seen<m.e∨(x j).d.seen=m.e/\(x j).d.last<=m.q){a:Nd}(y:a.d=(x j).d.step m)(hi:a.id=(x j).id/\a.nodes=(x j).nodes/\a.nb=(x j).nb)(B:a.act=false)(Q:a.on<=0)(b:(a.ph=0/\a.ba=0)∨(a.ph=(x j).ph/\a.ba=(x j).ba/\a.gP=(x j).gP/\a.gS=(x j).gS/\a.fo=(x j).fo/\a.an=(x j).an))(dA:a.down=false)(p:(a.ph=0/\a.ba=0)∨(x j).act=false):Inv n nb (upd x j a) sn g u:=by
 obtain⟨K,r,O⟩:=h.kn;have q:=h.own E M;obtain⟨t,o,C,D,z⟩:=step79 (x j).d A;rw[←y]at t o C D z;have c:a.d.ep=(x j).d.ep:=by simp[Du.ep,t]
 have s:∀i,a.d.rc i=(x j).d.rc i:=fun i=>by simp[Du.rc,t]
 refine h.go (.refl g) (.refl K u) O (by omega) (by omega) ?_ id .inl (fun _ _=>?_) .inl .inl h.at_ (fun _ _ _ _ _=>⟨id,rfl⟩) r
 ·rcases b with b|b;·exact h.vx.idle (by simp[Nd.vo,c]) (by simp[Nd.vo,o]) (by simp[Nd.vo,o]) (by simp[Nd.vo,o]) (by simp[Nd.vo,b.2])
  ·have e:a.vo=(x j).vo:=by simp[Nd.vo,c,o,b]
   rw[e];have:=lC (fun i=>(x i).vo) j;rw[this];exact h.vx
 ·refine⟨?_,fun f=>?_,fun f=>?_,?_,?_,fun f=>?_,by simp[B],by simp[B],.inr (by rw[D,z];exact⟨F,L⟩),?_,by rw[dA];simp,fun f=>by omega,by rw[dA];simp,fun f=>?_,fun f=>by omega⟩;·rw[hi.1,hi.2.1,hi.2.2,C,c];exact q.i0
  ·rcases b with b|b;·omega
   ·rw[b.2.2.2.2.2,b.2.1,c];exact q.k2 (by omega)
  ·rcases b with b|b;·omega
   ·rw[b.2.2.2.2.2,b.2.1,c];exact q.k3 (by omega)
  ·intro i l w;rw[s];exact q.rr l (by omega)
  ·intro e l w;exact q.rf l (by omega)
  ·rcases b with b|b;·exact absurd b.1 f
   ·rw[b.2.2.1,b.2.2.2.1,c];exact q.gc (by omega)
  ·intro i l w;rw[y];exact zN A q.bv N H l w
  ·rcases b with b|b;·omega
   ·rcases p with p|p;·omega
    ·exact absurd (q.p1 (by omega)).2 (by rw[p];simp)
theorem Inv.raise(h:Inv n nb x sn g u)(h0:0<=j)(h1:j<n){m:Ms}(hk:m.k=7∨m.k=9)(L:u.tk m.e)(hP:(u.R m.e).P=j+1)(a0:(x j).d.seen=m.e)(hq:m.q=(x j).d.last+1)(z:(x j).act=true∨(x j).act=false/\u.mx m.e<=m.q){W:Int->Int->Prop}(hW:∀{i v},u.wr i v->W i v)(h7:m.k=7->m.v=0∨W m.bl m.v)(h9:m.k=9->∀i:Nat,i<m.zs.length->m.zs.getD i 0=0∨W i (m.zs.getD i 0)){A:Prop}{a:Nd}(X:a.d=(x j).d.step m)(hi:a.id=(x j).id/\a.nodes=(x j).nodes/\a.nb=(x j).nb)(U:a.act=true->(x j).act=true/\(x j).d.ep=m.e)(ho:0<a.on->a.act=true/\a.ow=m/\m.k=7/\a.oa=[])(f:a.ba<=0∨(a.ph=0/\a.vo=(x j).vo))(a1:a.ph=0∨a.ph=1)(hA:A->a.ph=1∨a.act=false)(M:u.ad m.e->a.ph=1∨a.act=false)(hg:a.ph=1->m.e=(x j).d.ep/\Fol (u.R m.e) (m.e+1) a.gP a.gS/\(sub a.gS (u.R m.e).S∨u.ad m.e∨A))(dA:a.down=false)(p:a.ph=1->a.act=true)(E:m.k=7->0<=m.bl):Inv n nb (upd x j a) sn g {u with mx:=eC u.mx m.e m.q,wr:=W,ad:=fun e=>u.ad e∨(A/\e=m.e)}:=by
 obtain⟨K,O,hK⟩:=h.kn;have q:=h.own h0 h1;obtain⟨Q,C,e3,V,F⟩:=step79 (x j).d hk;rw[←X]at Q C e3 V F;have l:a.d.ep=(x j).d.ep:=by simp[Du.ep,Q]
 have H:∀i,a.d.rc i=(x j).d.rc i:=fun i=>by simp[Du.rc,Q]
 have N:u.mx m.e<=m.q:=by
  rcases z with z|z
  ·have:=q.t1 z;have h3:(x j).d.ep=m.e:=by omega
   rw[h3]at this;omega
  ·exact z.2
 have hu:Grv K u {u with mx:=eC u.mx m.e m.q,wr:=W,ad:=fun e=>u.ad e∨(A/\e=m.e)}:=by
  refine⟨fun _ _=>rfl,id,.inl,fun{e} _=>?_,hW⟩;show u.mx e<=eC u.mx m.e m.q e;unfold eC;split;·next b=>subst b;exact N
  ·exact Int.le_refl _
 refine h.go (.refl g) hu hK (by omega) (by omega) ?_ id .inl (fun _ _=>?_) .inl .inl ?_ ?_ O
 ·rcases f with f|f;·exact h.vx.idle (by simp[Nd.vo,l]) (by simp[Nd.vo,C]) (by simp[Nd.vo,C]) (by simp[Nd.vo,C]) (by simp[Nd.vo,f])
  ·rw[f.2,lC (fun i=>(x i).vo) j];exact h.vx
 ·refine⟨?_,fun c=>by omega,fun c=>by omega,?_,?_,fun c=>?_,fun c b=>?_,fun c=>?_,.inr ?_,?_,by rw[dA];simp,fun c=>?_,by rw[dA];simp,fun c=>⟨f.resolve_right (fun b=>by omega),p c⟩,fun c=>?_⟩;·rw[hi.1,hi.2.1,hi.2.2,e3,l];exact q.i0
  ·intro i s y;rw[H];exact q.rr s (by omega)
  ·intro e s y;exact q.rf s (by omega)
  ·have p:a.ph=1:=by omega
   obtain⟨w,B,o⟩:=hg p;rw[l,←w];exact⟨B,o.elim .inl (fun o=>.inr (o.imp id (fun r=>⟨r,rfl⟩)))⟩
  ·have D:=(U c).2;rw[l,D]at b;rcases b with b|⟨b,_⟩;·have:=M b;rw[c]at this;simp at this;omega
   ·have:=hA b;rw[c]at this;simp at this;omega
  ·have D:=(U c).2;rw[l,D,V,F];refine⟨L,hP,rfl,?_⟩;show m.q=eC u.mx m.e m.q m.e;simp[eC]
  ·rw[V,F];refine⟨L,?_⟩;show m.q<=eC u.mx m.e m.q m.e;simp[eC]
  ·intro i s y;rw[X];exact zN (u:={u with mx:=eC u.mx m.e m.q,wr:=W,ad:=fun e=>u.ad e∨(A/\e=m.e)}) hk (fun p0 p1=>(q.bv p0 p1).imp id hW) h7 h9 s y
  ·obtain⟨w,B,o,r4⟩:=ho c;have D:=(U w).2;rw[B,r4];exact⟨w,o,by omega,by omega,by simp⟩
  ·obtain⟨w,B,o,r4⟩:=ho c;rw[B];exact⟨E o,h7 o⟩
 ·rintro e (b|⟨_,rfl⟩);·exact h.at_ b
  ·exact L
 ·intro i s y q2 q3;have r:=(h.own s y).t1 q3;have t:(x i).d.ep≠m.e:=by intro b;rw[b,hP]at r;omega
  exact⟨fun b=>b.resolve_right (fun r=>t r.2),by show eC _ _ _ _=_;simp[eC,t]⟩
end
end AG
namespace AG
section
variable {n nb:Int} {x:Int->Nd} {sn:Ms->Prop} {g:Gh} {u:Gv} {j:Int}
theorem mS.mr{y a:Nd}(q:mS n nb j y sn g u)(h:a.d.recs=y.d.recs)(hs:a.d.id=y.d.id/\a.d.seen=y.d.seen/\a.d.last=y.d.last/\a.d.bk=y.d.bk)(hi:a.id=y.id/\a.nodes=y.nodes/\a.nb=y.nb)(k:a.act=y.act)(c:a.on=y.on/\a.ow=y.ow/\a.oa=y.oa)(dA:a.down=false)(k2:a.ph=2->0<a.ba->∀z∈a.an,z.1=2/\z.2.1=a.d.ep/\z.2.2.1=a.ba)(p:a.ph=3->0<a.ba->∀z∈a.an,z.1=4/\z.2.1=a.d.ep/\z.2.2.1=a.ba)(m:a.ph≠0->Fol (u.R a.d.ep) (a.d.ep+1) a.gP a.gS/\(sub a.gS (u.R a.d.ep).S∨u.ad a.d.ep))(s:a.act=true->u.ad a.d.ep->a.ph≠0)(l:a.ph≠1):mS n nb j a sn g u:=by
 have b:a.d.ep=y.d.ep:=by simp[Du.ep,h]
 have f:∀i,a.d.rc i=y.d.rc i:=fun i=>by simp[Du.rc,h]
 refine⟨by rw[hi.1,hi.2.1,hi.2.2,hs.1,b];exact q.i0,k2,p,fun e r=>by rw[f];exact q.rr e (by omega),fun e r=>q.rf e (by omega),m,s,by rw[k,b,hs.2.1,hs.2.2.1];exact q.t1,by rw[hs.2.1,hs.2.2.1];exact q.t3,by rw[hs.2.2.2];exact q.bv,by rw[dA];simp,by rw[k,c.1,c.2.1,c.2.2,b,hs.2.2.1];exact q.o1,by rw[dA];simp,fun o=>absurd o l,by rw[c.1,c.2.1];exact q.o2⟩
theorem qB{y:Nd}{k:Int}(q:mS n nb j y sn g u)(a:y.ph=k)(b:k≠0:=by omega):y.down=false:=by
 cases hd:y.down;·rfl
 ·have:=(q.dn hd).2.1;omega
theorem Inv.take(h:Inv n nb x sn g u)(y:0<=j)(B:j<n){m:Ms}(U:m.k=1)(w:m.e=(x j).d.ep)(W:m.b%5=j)(t:0<m.b)(Q:(dG (x j).d.di m.e).pr<m.b){a:Nd}(O:a.d=(x j).d.step m)(hi:a.id=(x j).id/\a.nodes=(x j).nodes/\a.nb=(x j).nb)(ha:a.act=(x j).act)(V:a.on=(x j).on/\a.ow=(x j).ow/\a.oa=(x j).oa)(dA:a.down=false)(A:a.ph=2)(r:a.ba=m.b)(C:a.fo.wa=(dG (x j).d.di m.e).ac/\a.fo.p=(dG (x j).d.di m.e).pm/\a.fo.s=(dG (x j).d.di m.e).st)(o:a.an=[(2,m.e,m.b,j)])(H:Fol (u.R m.e) (m.e+1) a.gP a.gS/\(sub a.gS (u.R m.e).S∨u.ad m.e)):Inv n nb (upd x j a) sn {g with jg:=fun i c f wa v=>g.jg i c f wa v∨(i=j/\c=m.e/\f=m.b/\wa=(dG (x j).d.di m.e).ac/\v=((dG (x j).d.di m.e).pm,(dG (x j).d.di m.e).st))} u:=by
 obtain⟨K,E,N⟩:=h.kn;have hs:a.d={(x j).d with di:=fX (x j).d.di m.e {dG (x j).d.di m.e with pr:=m.b}}:=by rw[O];simp[Du.step,U,PV.after]
 have l:a.d.ep=(x j).d.ep:=by rw[hs];rfl
 have L:=h.vx.take y B W t (by simp only[Nd.vo];rw[←w];exact Q) (a.gP,a.gS);have X:a.vo={(x j).vo with pr:=eC (x j).vo.pr (x j).vo.ep m.b,ph:=2,ba:=m.b,go:=(a.gP,a.gS),fw:=(x j).vo.ac (x j).vo.ep,fv:=(x j).vo.vl (x j).vo.ep,an:=[j]}:=by
  simp only[Nd.vo,A,r,o,C,l];rw[hs];simp only[vmGet_put,←w];congr 1;·funext c;simp only[eC];split<;>simp_all
  ·funext c;split<;>simp_all
  ·funext c;split<;>simp_all
 rw[←X]at L;have M:lO g {g with jg:=fun i c f wa v=>g.jg i c f wa v∨(i=j/\c=m.e/\f=m.b/\wa=(dG (x j).d.di m.e).ac/\v=((dG (x j).d.di m.e).pm,(dG (x j).d.di m.e).st))}:=⟨id,id,.inl⟩;have F:({g with jg:=fun i c f wa v=>g.jg i c f wa v∨(i=j/\c=(x j).vo.ep/\f=m.b/\wa=(x j).vo.ac (x j).vo.ep/\v=(x j).vo.vl (x j).vo.ep)}:Gh)={g with jg:=fun i c f wa v=>g.jg i c f wa v∨(i=j/\c=m.e/\f=m.b/\wa=(dG (x j).d.di m.e).ac/\v=((dG (x j).d.di m.e).pm,(dG (x j).d.di m.e).st))}:=by simp only[Nd.vo,←w]
 rw[F]at L;refine h.go M (.refl K u) N (by omega) (.inr ⟨by rw[hs],by rw[hs];exact Int.le_refl _⟩) L id .inl (fun _ _=>?_) .inl .inl h.at_ (fun _ _ _ _ _=>⟨id,rfl⟩) E;have q:=(h.own y B).jy (sn':=sn) id M (.refl K u) (N j y B) (fun _=>id) (fun _=>rfl);refine q.mr (by rw[hs]) (by rw[hs];exact⟨rfl,rfl,rfl,rfl⟩) hi ha V dA (fun _ _ z D=>?_) (fun h9=>by omega) (fun _=>by rw[l,←w];exact H) (fun _ _=>by omega) (by omega);rw[o]at D;simp at D;subst D;exact⟨rfl,by rw[l,w],r.symm⟩
theorem Inv.count(h:Inv n nb x sn g u)(A:0<=j)(B:j<n){m:Ms}(F:g.jg m.f m.e m.b m.wa (m.p,m.s))(t:m.e=(x j).d.ep)(o:m.b=(x j).ba)(D:0<m.b)(c:(x j).ph=2)(E:(2,m.e,m.b,m.f)∉(x j).an){a:Nd}(K:a={x j with fo:=if(x j).fo.wa<m.wa then m else(x j).fo,an:=(x j).an++[(2,m.e,m.b,m.f)]}):Inv n nb (upd x j a) sn g u:=by
 have q:=h.own A B;have r:m.f∉(x j).vo.an:=by intro w;simp only[Nd.vo,List.mem_map]at w;obtain⟨y,hy,v⟩:=w;have:=q.k2 c (by omega) y hy;apply E;obtain⟨L,O,N,M⟩:=y;simp only at this v;rw[t,o,←v,←this.1,←this.2.1,←this.2.2];exact hy
 have C:=h.vx.count A B (wa:=m.wa) (u:=(m.p,m.s)) (i:=m.f) (by simp[Nd.vo,c]) (by simp[Nd.vo];omega) (by simp only[Nd.vo];rw[←t,←o];exact F) r;subst K;have H:({x j with fo:=if(x j).fo.wa<m.wa then m else(x j).fo,an:=(x j).an++[(2,m.e,m.b,m.f)]}:Nd).vo={(x j).vo with fw:=if(x j).vo.fw<m.wa then m.wa else(x j).vo.fw,fv:=if(x j).vo.fw<m.wa then(m.p,m.s) else(x j).vo.fv,an:=(x j).vo.an++[m.f]}:=by
  simp only[Nd.vo,List.map_append,List.map_cons,List.map_nil];by_cases l:(x j).fo.wa<m.wa;·simp[l]
  ·simp[l]
 rw[←H]at C;refine h.vol rfl C (fun _ _=>q.mr rfl ⟨rfl,rfl,rfl,rfl⟩ ⟨rfl,rfl,rfl⟩ rfl ⟨rfl,rfl,rfl⟩ (show(x j).down=false from qB q c) (fun _ _ z k=>?_) (fun l=>by simp only at l;omega) q.gc q.ap (by simp only;omega));rcases List.mem_append.1 k with k|k;·exact q.k2 c (by omega) z k
 ·simp at k;subst k;exact⟨rfl,t,o⟩
theorem Inv.tally(h:Inv n nb x sn g u)(s:0<=j)(t:j<n){e b f:Int}{v:V}(C:g.acc f e b v)(o:e=(x j).d.ep)(l:b=(x j).ba)(A:0<b)(c:(x j).ph=3)(B:(4,e,b,f)∉(x j).an){a:Nd}(F:a={x j with an:=(x j).an++[(4,e,b,f)]}):Inv n nb (upd x j a) sn g u:=by
 have q:=h.own s t;have m:f∉(x j).vo.an:=by intro r;simp only[Nd.vo,List.mem_map]at r;obtain⟨y,hy,p⟩:=r;have:=q.k3 c (by omega) y hy;apply B;obtain⟨H,M,L,K⟩:=y;simp only at this p;rw[o,l,←p,←this.1,←this.2.1,←this.2.2];exact hy
 have w:=h.vx.tally s t (u:=v) (i:=f) (by simp[Nd.vo,c]) (by simp[Nd.vo];omega) (by simp only[Nd.vo];rw[←o,←l];exact C) m;subst F;have E:({x j with an:=(x j).an++[(4,e,b,f)]}:Nd).vo={(x j).vo with an:=(x j).vo.an++[f]}:=by simp only[Nd.vo,List.map_append,List.map_cons,List.map_nil]
 rw[←E]at w;refine h.vol rfl w (fun _ _=>q.mr rfl ⟨rfl,rfl,rfl,rfl⟩ ⟨rfl,rfl,rfl⟩ rfl ⟨rfl,rfl,rfl⟩ (show(x j).down=false from qB q c) (fun D=>by simp only at D;omega) (fun _ _ z k=>?_) q.gc q.ap (by simp only;omega));rcases List.mem_append.1 k with k|k;·exact q.k3 c (by omega) z k
 ·simp at k;subst k;exact⟨rfl,o,l⟩
theorem Inv.gy(h:Inv n nb x sn g u)(o:0<=j)(t:j<n)(k:(x j).ph=2)(l:0<(x j).ba)(E:n<2*((x j).an.length:Int)){p s:Int}(a:p=(if 0<(x j).fo.wa then(x j).fo.p else(x j).gP))(c:s=(if 0<(x j).fo.wa then(x j).fo.s else(x j).gS)):Inv n nb (upd x j {x j with ph:=3,gP:=p,gS:=s,an:=[]}) sn {g with jl:=fun e b w=>g.jl e b w∨(e=(x j).d.ep/\b=(x j).ba/\w=(p,s))} u:=by
 obtain⟨K,y,D⟩:=h.kn;have q:=h.own o t;have F:=h.vx.gy o t (v:=(p,s)) (by simp[Nd.vo,k]) (by simp[Nd.vo,l]) (by simpa[Nd.vo] using E) (by intro f;simp only[Nd.vo]at f⊢;rw[a,c,if_pos f,if_pos f]);have r:Fol (u.R (x j).d.ep) ((x j).d.ep+1) p s/\(sub s (u.R (x j).d.ep).S∨u.ad (x j).d.ep):=by
  by_cases f:0<(x j).fo.wa
  ·rw[if_pos f]at a c;obtain⟨_,_,m⟩:=h.vx.n7 (j:=j) o t (by simp[Nd.vo,k]) (by simp[Nd.vo,l]);rcases m with m|⟨i,m⟩;·simp only[Nd.vo]at m;omega
   ·have B:=h.gr (h.vx.a1 (h.vx.a4 m (by simp only[Nd.vo];exact f)));simp only[Nd.vo]at B;rw[a,c];exact B.2.2
  ·rw[if_neg f]at a c;rw[a,c];exact q.gc (by omega)
 have C:lO g {g with jl:=fun e b w=>g.jl e b w∨(e=(x j).d.ep/\b=(x j).ba/\w=(p,s))}:=⟨id,.inl,id⟩;refine h.go C (.refl K u) D (Int.le_refl _) (.inr ⟨rfl,Int.le_refl _⟩) ?_ id .inl (fun _ _=>?_) ?_ .inl h.at_ (fun _ _ _ _ _=>⟨id,rfl⟩) y;·exact F
 ·have H:=q.jy (sn':=sn) id C (.refl K u) (D j o t) (fun _=>id) (fun _=>rfl);exact H.mr rfl ⟨rfl,rfl,rfl,rfl⟩ ⟨rfl,rfl,rfl⟩ rfl ⟨rfl,rfl,rfl⟩ (show(x j).down=false from qB q k) (fun f=>by simp at f) (fun _ _ z L=>by simp at L) (fun _=>r) (fun _ _=>by simp) (by simp)
 ·intro e b w A;rcases A with A|⟨rfl,rfl,rfl⟩;·exact .inl A
  ·exact .inr ⟨q.i0.2.2.2.2,⟨j,o,t,Int.le_refl _⟩,r⟩
theorem Inv.chosen(h:Inv n nb x sn g u)(e:0<=j)(c:j<n)(b:(x j).ph=3)(a:0<(x j).ba)(f:n<2*((x j).an.length:Int)):kR n g (x j).d.ep (x j).ba ((x j).gP,(x j).gS):=h.vx.chosen e c (by simp[Nd.vo,b]) (by simp[Nd.vo,a]) (by simpa[Nd.vo] using f)
theorem Inv.oper(h:Inv n nb x sn g u){a:Nd}(t:a={x j with on:=a.on,ow:=a.ow,oa:=a.oa,ops:=a.ops,res:=a.res})(r:0<a.on->0<(x j).on/\a.ow=(x j).ow/\∀y∈a.oa,y∈(x j).oa∨(y.1=8/\y.2.1=a.ow.e/\y.2.2.1=max 0 a.ow.q/\∃m,sn m/\m.k=8/\m.f=y.2.2.2/\m.e=a.ow.e/\m.q=a.ow.q))(dA:(x j).down=true->a.on=0):Inv n nb (upd x j a) sn g u:=by
 have M:a.vo=(x j).vo:=by rw[t];rfl
 have b:a.d=(x j).d:=by rw[t]
 refine h.vol b (by rw[M,lC (fun i=>(x i).vo) j];exact h.vx) (fun L O=>?_);have q:=h.own L O;have Q:a.id=(x j).id/\a.nodes=(x j).nodes/\a.nb=(x j).nb/\a.down=(x j).down/\a.act=(x j).act/\a.ph=(x j).ph/\a.gP=(x j).gP/\a.gS=(x j).gS/\a.ba=(x j).ba/\a.an=(x j).an/\a.tr=(x j).tr:=by rw[t];exact⟨rfl,rfl,rfl,rfl,rfl,rfl,rfl,rfl,rfl,rfl,rfl⟩
 obtain⟨B,F,H,w,o,l,A,R,v,p,s⟩:=Q;refine⟨by rw[B,F,H,b];exact q.i0,by rw[l,v,p,b];exact q.k2,by rw[l,v,p,b];exact q.k3,by rw[b];exact q.rr,by rw[b];exact q.rf,by rw[l,A,R,b];exact q.gc,by rw[o,l,b];exact q.ap,by rw[o,b];exact q.t1,by rw[b];exact q.t3,by rw[b];exact q.bv,by rw[w,o,l];exact fun c=>⟨(q.dn c).1,(q.dn c).2.1,dA c⟩,fun c=>?_,by rw[w,s,b];exact q.pd,by rw[l,v,o];exact q.p1,fun c=>by rw[(r c).2.1];exact q.o2 (r c).1⟩;obtain⟨E,z,C⟩:=r c;obtain⟨U,S,D,K,N⟩:=q.o1 E;rw[o,b,z];refine⟨U,S,D,K,fun y hy=>?_⟩;rcases C y hy with hy|hy;·exact N y hy
 ·rw[z]at hy;exact hy
end
end AG
namespace AG
def Call(n nb:Int)(x:Int->Nd)(sn:Ms->Prop)(u:Gv)(j:Int)(a:Nd)(out:List (Int×Ms))(W:Int->Int->Prop):Prop:=
  ∃g' u' K,Kn n x K/\0<=K/\Grv K u u'/\u'.wr=W/\Inv n nb (upd x j a) (fun y=>sn y∨∃z∈out,y=z.2) g' u'/\∀z∈out,z.2.k=8->z.2.f=j/\z.2.e=a.d.seen
section
variable {n nb:Int} {x:Int->Nd} {sn:Ms->Prop} {g:Gh} {u:Gv} {j:Int}
theorem Inv.nil(h:Inv n nb x sn g u):Inv n nb x (fun y=>sn y∨∃z∈([]:List (Int×Ms)),y=z.2) g u:=h.says (by simp)
theorem Inv.same(h:Inv n nb x sn g u):Inv n nb (upd x j (x j)) sn g u:=by rw[lC];exact h
theorem Call.none(h:Inv n nb x sn g u):Call n nb x sn u j (x j) [] u.wr:=by obtain⟨K,b,a⟩:=h.kn;exact⟨g,u,K,a,b,.refl K u,rfl,by rw[lC];exact h.nil,by simp⟩
theorem Inv.call{a:Nd}{b:Gh}{u':Gv}{K:Int}{out:List (Int×Ms)}(i:Kn n x K)(l:0<=K)(m:Grv K u u')(h:Inv n nb (upd x j a) sn b u')(c:∀z∈out,kM n (upd x j a) b u' z.2)(g:∀z∈out,z.2.k=8->z.2.f=j/\z.2.e=a.d.seen):Call n nb x sn u j a out u'.wr:=⟨b,u',K,i,l,m,rfl,h.says c,g⟩
theorem Inv.gu{a:Nd}{b:Gh}{out:List (Int×Ms)}(h':Inv n nb x sn g u)(h:Inv n nb (upd x j a) sn b u)(c:∀z∈out,kM n (upd x j a) b u z.2)(i:∀z∈out,z.2.k=8->z.2.f=j/\z.2.e=a.d.seen):Call n nb x sn u j a out u.wr:=by obtain⟨K,m,l⟩:=h'.kn;exact Inv.call l m (.refl K u) h c i
theorem Inv.fall(h:Inv n nb x sn g u){m:Ms}(a:En n (x j).d g u m):Inv n nb (upd x j ((x j).fall m)) sn g u:=h.idle rfl ⟨rfl,rfl,rfl⟩ rfl rfl rfl rfl (fun _=>a)
theorem u4{m:Ms}(h:m.k=1∨m.k=5):kM n x g u m:=by refine⟨fun a=>?_,fun a=>?_,fun a=>?_,fun a=>?_,fun a=>?_,fun a=>?_⟩<;>omega
theorem Inv.decision(h:Inv n nb x sn g u)(k:0<=j)(c:j<n){e f:Int}(b:0<=e)(l:e<(x j).d.ep):kM n x g u {(x j).decision e with f:=f}:=by
 refine⟨fun a=>?_,fun a=>?_,fun a=>?_,fun _=>?_,fun a=>?_,fun a=>?_⟩;·simp[Nd.decision]at a
 ·simp[Nd.decision]at a
 ·simp[Nd.decision]at a
 ·have q:=(h.own k c).rr (i:=e+1) (by omega) (by omega);simp only[Nd.decision];exact⟨b,by rw[q],by rw[q],j,k,c,l⟩
 ·simp[Nd.decision]at a
 ·simp[Nd.decision]at a
def Nd.rep(n:Nd)(tq:Int)(r:Nd×Ms):Nd×List (Int×Ms):=(r.1,if r.2.k=0 then[] else[(tq,{r.2 with f:=n.id})])
theorem kF{y:Nd}{b:Int}{r:Nd×Ms}{Q:Int×Ms->Prop}(h:r.2.k≠0->Q (b,{r.2 with f:=y.id})):∀z∈(y.rep b r).2,Q z:=by
 intro z a;unfold Nd.rep at a;dsimp only at a;split at a;·simp at a
 ·next hk=>simp at a;subst a;exact h hk
theorem Inv.jc(h:Inv n nb x sn g u)(r:0<=j)(t:j<n)(w:(x j).down=false){m:Ms}(c:m.k=1∨m.k=3)(L:sn m)(C:0<=m.e)(ok:Bool):Call n nb x sn u j ((x j).rep m.f ((x j).jc m ok)).1 ((x j).rep m.f ((x j).jc m ok)).2 u.wr:=by
 have y:=(h.own r t).i0.1;have D:=(h.ms L).s3;unfold Nd.jc;by_cases E:m.e<(x j).d.ep
 ·rw[if_pos E];refine h.gu (by rw[show((x j).rep m.f (x j,(x j).decision m.e)).1=x j from rfl,lC];exact h) (kF fun _=>?_) (kF fun _ l=>?_);·rw[show((x j).rep m.f (x j,(x j).decision m.e)).1=x j from rfl,lC];exact h.decision r t C E
  ·simp[Nd.decision]at l
 rw[if_neg E];by_cases F:m.b<(dG (x j).d.di m.e).pr;·rw[if_pos F];refine h.gu (a:=x j) h.same (kF fun _=>u4 (.inr rfl)) (kF fun _ l=>by simp at l)
 rw[if_neg F];dsimp only;have s8:∀z∈((x j).rep m.f (x j,if m.k=3 then{Ms.nil with k:=4,e:=m.e,b:=m.b} else{Ms.nil with k:=2,e:=m.e,b:=m.b,wa:=(dG (x j).d.di m.e).ac,p:=(dG (x j).d.di m.e).pm,s:=(dG (x j).d.di m.e).st})).2,z.2.k≠8:=by refine kF fun _ l=>?_;by_cases M:m.k=3<;>simp[M,Ms.nil]at l
 have mk:∀{x':Int->Nd} {A:Gh},(m.k=1->A.jg j m.e m.b (dG (x j).d.di m.e).ac ((dG (x j).d.di m.e).pm,(dG (x j).d.di m.e).st))->(m.k=3->∃v,A.acc j m.e m.b v)->∀z∈((x j).rep m.f (x j,if m.k=3 then{Ms.nil with k:=4,e:=m.e,b:=m.b} else{Ms.nil with k:=2,e:=m.e,b:=m.b,wa:=(dG (x j).d.di m.e).ac,p:=(dG (x j).d.di m.e).pm,s:=(dG (x j).d.di m.e).st})).2,kM n x' A u z.2:=by
  intro x' A a1 N;refine kF fun _=>?_;rcases c with c|c;·rw[if_neg (by omega)];refine⟨fun _=>by rw[y];exact a1 c,fun i=>?_,fun i=>?_,fun i=>?_,fun i=>?_,fun i=>?_⟩<;>simp[Ms.nil]at i
  ·rw[if_pos c];refine⟨fun i=>?_,fun i=>?_,fun _=>by rw[y];exact N c,fun i=>?_,fun i=>?_,fun i=>?_⟩<;>simp[Ms.nil]at i
 split
 ·next c3=>
  rcases c with c|c
  ·have K:(dG (x j).d.di m.e).pr=m.b:=by have:=congrArg PV.pr (rW c3);simp[PV.after,c]at this;exact this.symm
   have o:=h.again r t (e:=m.e) (b:=m.b) (by omega) K;refine h.gu (a:=x j) o.same (mk (fun _=>.inr ⟨rfl,rfl,rfl,rfl,rfl⟩) (fun i=>by omega)) (fun z q l=>absurd l (s8 z q))
  ·have H:=D c;have B:(dG (x j).d.di m.e).ac=m.b:=by have:=congrArg PV.ac (rW c3);simp[PV.after,c]at this;exact this.symm
   have o:=h.vx.n2 r t (j:=j) (e:=m.e) (by simp only[Nd.vo];omega) (by simp only[Nd.vo];have:=h.vx.a6 H;omega);simp only[Nd.vo]at o;rw[B]at o;exact h.gu (a:=x j) h.same (mk (fun i=>by omega) (fun _=>⟨_,o⟩)) (fun z q l=>absurd l (s8 z q))
 ·split
  ·rcases c with c|c;·have o:=h.promise r t w c (by omega) (by omega);exact h.gu (a:={x j with d:=(x j).d.step m}) o (mk (fun _=>.inr ⟨rfl,rfl,rfl,rfl,rfl⟩) (fun i=>by omega)) (fun z q l=>absurd l (s8 z q))
   ·have o:=h.accept r t w c (by omega) (by omega) (D c);exact h.gu (a:={x j with d:=(x j).d.step m}) o (mk (fun i=>by omega) (fun _=>⟨_,.inr ⟨rfl,rfl,rfl,rfl⟩⟩)) (fun z q l=>absurd l (s8 z q))
  ·refine h.gu (a:=(x j).fall m) (h.fall ?_) (by simp[Nd.rep,Ms.nil]) (by simp[Nd.rep,Ms.nil]);rcases c with c|c;·exact .inl ⟨c,by omega,by omega⟩
   ·exact .inr (.inl ⟨c,by omega,by omega,D c⟩)
end
end AG
namespace AG
section
variable {n nb:Int} {x:Int->Nd} {sn:Ms->Prop} {g:Gh} {u:Gv} {j:Int}
theorem Inv.recE(h:Inv n nb x sn g u)(c:0<=j)(a:j<n){e:Int}(f:0<=e)(i:e<=(x j).d.ep):(u.R e).E=e:=by
 by_cases b:e=0;·subst b;rw[h.r0]
 ·have:=((h.own c a).rf (e:=e - 1) (by omega) (by omega)).1;rw[show e - 1+1=e by omega]at this;exact this
theorem Inv.known(h:Inv n nb x sn g u)(o:0<=j)(m:j<n){e:Int}(a:0<=e)(f:e<(x j).d.ep):Fol (u.R e) (e+1) (u.R (e+1)).P (u.R (e+1)).S/\(sub (u.R (e+1)).S (u.R e).S∨u.ad e):=by obtain⟨_,b,l,c,k⟩:=(h.own o m).rf a f;obtain⟨i,hi,_⟩:=qZ c c;exact(h.gr (h.vx.a1 (k i hi))).2.2
theorem Inv.qp(h:Inv n nb x sn g u)(f:0<=j)(c:j<n){e:Int}(b:0<=e)(k:e<=(x j).d.ep):0<=(u.R e).S/\(u.R e).S<=31:=by
 by_cases i:e=0
 ·subst i;rw[h.r0];have l:=h.nn;have a:n=2∨n=3∨n=4∨n=5:=by omega
  rcases a with rfl|rfl|rfl|rfl<;>decide
 ·have:=(h.known f c (e:=e - 1) (by omega) (by omega)).1;rw[show e - 1+1=e by omega]at this;obtain⟨_,_,_,_,_,s0,s1,_⟩:=this;omega
theorem Inv.learned(h:Inv n nb x sn g u)(f:0<=j)(l:j<n)(q:(x j).down=false){m:Ms}{b:Int}(r:m.k=6)(o:folB ((x j).d.rc (x j).d.ep) (m.e+1) m.p m.s=true)(z:m.e=(x j).d.ep->kR n g m.e b (m.p,m.s))(ok:Bool){y:Nd}(hy:y.d=(x j).d/\y.id=(x j).id/\y.nodes=(x j).nodes/\y.nb=(x j).nb/\y.down=(x j).down):∃u' K,Kn n x K/\0<=K/\Grv K u u'/\u'.wr=u.wr/\Inv n nb (upd x j (y.decided m ok).1) sn g u'/\((y.decided m ok).2=true->u'.R (m.e+1)=⟨m.e+1,m.p,m.s⟩/\m.e<(y.decided m ok).1.d.ep):=by
 obtain⟨i,A,w,v,N⟩:=hy;have t:=(h.own f l).i0.2.2.2.2;have c:m.e=(x j).d.ep:=by have C:=(h.own f l).rr t (Int.le_refl _);have S:=h.recE f l t (Int.le_refl _);rw[C]at o;have:=(AQ o).2.2.1;omega
 unfold Nd.decided;rw[i,if_pos o];cases ok;·obtain⟨K,F,L⟩:=h.kn;refine⟨u,K,L,F,.refl K u,rfl,?_,by simp⟩;exact h.idle (a:=y.fall m) (by simp[Nd.fall,Nd.stand,i]) ⟨A,w,v⟩ rfl rfl rfl rfl (fun _=>.inr (.inr (.inl ⟨r,c,b,z c⟩)))
 ·obtain⟨u',K,H,O,M,B,E,D,Q⟩:=h.learn f l r c (z c) (a:={(y.save m true).stand with act:=(x j).d.takes (m.e+1) m.p}) (by simp[Nd.save,Nd.stand,i]) ⟨A,w,v⟩ id rfl rfl rfl (by simp[Nd.save,Nd.stand,N,q]);refine⟨u',K,O,M,B,D,H,fun _=>⟨E,?_⟩⟩;show m.e<((y.save m true).stand).d.ep;simp[Nd.save,Nd.stand,i,Du.step,r,Du.learn,Du.ep]at c⊢;omega
theorem Inv.decided(h:Inv n nb x sn g u)(v:0<=j)(B:j<n)(a:(x j).down=false){m:Ms}(f:m.k=6)(A:sn m)(ok:Bool):Call n nb x sn u j ((x j).decided m ok).1 [] u.wr:=by
 by_cases c:folB ((x j).d.rc (x j).d.ep) (m.e+1) m.p m.s=true;·obtain⟨C,t,w,i,o,z,q⟩:=(h.ms A).s6 f;obtain⟨_,b,l⟩:=(h.own o z).rf C q;rw[t,w]at l;obtain⟨u',K,D,H,E,r,F,_⟩:=h.learned v B a f c (fun _=>l) ok (y:=x j) ⟨rfl,rfl,rfl,rfl,rfl⟩;rw[←r];exact Inv.call D H E F (by simp) (by simp)
 ·unfold Nd.decided;rw[if_neg c];exact Call.none h
theorem jT{y:Nd}{m:Ms}{l:List Int}{Q:Int×Ms->Prop}(h:∀i,Q (i,{m with f:=y.id})):∀z∈y.tell m l,Q z:=by intro z a;simp only[Nd.tell,List.mem_map]at a;obtain⟨i,_,rfl⟩:=a;exact h i
theorem Inv.conclude(h:Inv n nb x sn g u)(b:0<=j)(f:j<n)(c:(x j).ph=3)(l:0<(x j).ba)(A:n<2*((x j).an.length:Int))(ok:Bool):Call n nb x sn u j ((x j).conclude ok).1 ((x j).conclude ok).2 u.wr:=by
 have q:=h.own b f;have o:=qB q c;have E:=h.chosen b f c l A;have r:=(q.gc (by omega)).1;unfold Nd.conclude;dsimp only;have v:folB ((x j).d.rc (x j).d.ep) (({Ms.nil with k:=6,e:=(x j).d.ep,p:=(x j).gP,s:=(x j).gS}:Ms).e+1) ({Ms.nil with k:=6,e:=(x j).d.ep,p:=(x j).gP,s:=(x j).gS}:Ms).p ({Ms.nil with k:=6,e:=(x j).d.ep,p:=(x j).gP,s:=(x j).gS}:Ms).s=true:=by rw[q.rr q.i0.2.2.2.2 (Int.le_refl _)];exact KF (h.qp b f q.i0.2.2.2.2 (Int.le_refl _)) r
 obtain⟨u',K,C,H,D,w,F,B⟩:=h.learned b f o (m:={Ms.nil with k:=6,e:=(x j).d.ep,p:=(x j).gP,s:=(x j).gS}) rfl v (fun _=>E) ok (y:={x j with ph:=0,gP:=0,gS:=0,jo:=0,ba:=0,rf:=0,fo:=.nil,an:=[]}) ⟨rfl,rfl,rfl,rfl,rfl⟩;rw[←w];refine Inv.call C H D F ?_ ?_
 ·split
  ·next hh=>
   obtain⟨t,z⟩:=B hh;refine jT fun i=>?_;refine⟨fun a=>?_,fun a=>?_,fun a=>?_,fun _=>⟨q.i0.2.2.2.2,by rw[t],by rw[t],j,b,f,by rw[upd_self];exact z⟩,fun a=>?_,fun a=>?_⟩<;>simp at a
  ·simp
 ·split;·exact jT fun i a=>by simp at a
  ·simp
theorem Inv.update(h:Inv n nb x sn g u)(r:0<=j)(v:j<n)(s:(x j).down=false){m:Ms}(t:m.k=7∨m.k=9)(F:sn m)(A:0<=m.e)(ok:Bool):Call n nb x sn u j ((x j).rep m.f ((x j).update m ok)).1 ((x j).rep m.f ((x j).update m ok)).2 u.wr:=by
 have q:=h.own r v;have i:=q.i0.1;obtain⟨y,w,z,B⟩:=(h.ms F).s7 t;unfold Nd.update;split;·exact h.gu (a:=x j) h.same (kF fun b=>absurd rfl b) (kF fun b=>absurd rfl b)
 next c1=>
 split
 ·next c2=>
  refine h.gu (a:=x j) h.same (kF fun b=>?_) (kF fun b D=>?_)
  ·by_cases c3:m.e<(x j).d.ep;·rw[if_pos c3,lC];exact h.decision r v A c3
   ·rw[if_neg c3]at b;exact absurd rfl b
  ·by_cases c3:m.e<(x j).d.ep;·rw[if_pos c3]at D;simp[Nd.decision]at D
   ·rw[if_neg c3]at b;exact absurd rfl b
 next c2=>
 dsimp only;have mk:∀{x':Int->Nd},(x' j).d.seen=m.e->m.q<=(x' j).d.last->kM n x' g u {({Ms.nil with k:=m.k+1,e:=m.e,q:=m.q}:Ms) with f:=(x j).id}:=by
  intro x' a1 H;refine⟨fun b=>?_,fun b=>?_,fun b=>?_,fun b=>?_,fun b=>?_,fun b=>?_⟩;·dsimp only at b;omega
  ·dsimp only at b;omega
  ·dsimp only at b;omega
  ·dsimp only at b;omega
  ·dsimp only at b;omega
  ·dsimp only;rw[i];exact⟨y,w,r,v,.inr ⟨a1.symm,H⟩⟩
 split
 ·next c3=>
  refine h.gu (a:=x j) h.same (kF fun _=>by rw[lC];exact mk c3.1.symm (by omega)) (kF fun _ _=>⟨i,c3.1⟩)
 next c3=>
 have l:(x j).d.seen<m.e∨(x j).d.seen=m.e/\(x j).d.last<=m.q:=by
  by_cases p:m.e=(x j).d.seen;·refine .inr ⟨p.symm,?_⟩;apply Classical.byContradiction;intro E;exact c1 (.inr ⟨p,.inr (by omega)⟩)
  ·exact .inl (by omega)
 split
 ·have o:(((x j).save m true).stand).d.seen=m.e/\(((x j).save m true).stand).d.last=m.q/\((x j).save m true).d.seen=m.e/\((x j).save m true).d.last=m.q:=by have:=step79 (x j).d t;exact⟨this.2.2.2.1,this.2.2.2.2,this.2.2.2.1,this.2.2.2.2⟩
  by_cases p:m.e=(x j).d.seen
  ·rw[if_pos p];have c:(x j).act=false:=by
    cases ha:(x j).act;·rfl
    ·exact absurd (.inr ⟨p,.inl ha⟩) c1
   have C:(x j).on<=0:=by apply Classical.byContradiction;intro E;have:=(q.o1 (by omega)).1;rw[c]at this;simp at this
   refine h.gu (a:=(x j).save m true) (h.write r v t y w (fun k=>(z k).2) B l rfl ⟨rfl,rfl,rfl⟩ c C (.inr ⟨rfl,rfl,rfl,rfl,rfl,rfl⟩) s (.inr c)) (kF fun _=>mk (by rw[upd_self];exact o.2.2.1) (by rw[upd_self,o.2.2.2];exact Int.le_refl _)) (kF fun _ _=>⟨i,o.2.2.1.symm⟩)
  ·rw[if_neg p];refine h.gu (a:=((x j).save m true).stand) (h.write r v t y w (fun k=>(z k).2) B l rfl ⟨rfl,rfl,rfl⟩ rfl (Int.le_refl _) (.inl ⟨rfl,rfl⟩) s (.inl ⟨rfl,rfl⟩)) (kF fun _=>mk (by rw[upd_self];exact o.1) (by rw[upd_self,o.2.1];exact Int.le_refl _)) (kF fun _ _=>⟨i,o.1.symm⟩)
 ·exact h.gu (a:=(x j).fall m) (h.fall (.inr (.inr (.inr ⟨t,y,w,fun k=>(z k).2,B,l⟩)))) (by simp[Nd.rep,Ms.nil]) (by simp[Nd.rep,Ms.nil])
end
end AG
namespace AG
section
variable {n nb:Int} {x:Int->Nd} {sn:Ms->Prop} {g:Gh} {u:Gv} {j:Int}
theorem Call.trans{a a1:Nd}{out:List (Int×Ms)}{W:Int->Int->Prop}(p:(x j).d.ep<=a1.d.ep)(o:Call n nb (upd x j a1) sn u j a out W):Call n nb x sn u j a out W:=by
 obtain⟨f,u',K,e,b,l,c,h,k⟩:=o;rw[pY]at h;refine⟨f,u',K,fun i g m=>?_,b,l,c,h,k⟩;have:=e i g m;by_cases hi:i=j;·subst hi;rw[upd_self]at this;omega
 ·rw[upd_ne hi]at this;exact this
theorem LS{a rf id:Int}(d:0<=a)(f:0<=id)(e:id<5):∀b,b=(if max a rf - max a rf%5+id<=max a rf then max a rf - max a rf%5+id+5 else max a rf - max a rf%5+id)->b%5=id/\0<b/\a<b:=by intro b c;subst c;split<;>omega
theorem Inv.prepare(h:Inv n nb x sn g u)(t:0<=j)(z:j<n)(l:(x j).down=false){y:Nd}(hy:y.d=(x j).d/\y.id=(x j).id/\y.nodes=(x j).nodes/\y.nb=(x j).nb/\y.down=(x j).down/\y.act=(x j).act/\y.on=(x j).on/\y.ow=(x j).ow/\y.oa=(x j).oa)(v:Fol (u.R (x j).d.ep) ((x j).d.ep+1) y.gP y.gS/\(sub y.gS (u.R (x j).d.ep).S∨u.ad (x j).d.ep))(ok:Bool)(o:1000000000000<y.dw y.rf->Inv n nb (upd x j y) sn g u):Call n nb x sn u j (y.prepare ok).1 (y.prepare ok).2 u.wr:=by
 obtain⟨c,B,E,D,C,H,K,X,Q⟩:=hy;have q:=h.own t z;have A:=q.i0.1;have hE:=q.i0.2.2.2.2;have r:=h.vx.lm (j:=j) (e:=(x j).d.ep) t z (Int.le_refl _);simp only[Nd.vo]at r;have U:=LS (rf:=y.rf) (show 0<=(dG y.d.di y.d.ep).pr by rw[c];omega) (show 0<=y.id by omega) (by have:=h.nn;omega) (y.dw y.rf) rfl;rw[c]at U;unfold Nd.prepare;dsimp only;by_cases w:1000000000000<y.dw y.rf;·rw[if_pos w];exact h.gu (o w) (by simp) (by simp)
 rw[if_neg w];have V:y.jc {Ms.nil with k:=1,e:=y.d.ep,b:=y.dw y.rf} ok=if ok=true then(y.save {Ms.nil with k:=1,e:=y.d.ep,b:=y.dw y.rf} true,{Ms.nil with k:=2,e:=y.d.ep,b:=y.dw y.rf,wa:=(dG y.d.di y.d.ep).ac,p:=(dG y.d.di y.d.ep).pm,s:=(dG y.d.di y.d.ep).st}) else(y.fall {Ms.nil with k:=1,e:=y.d.ep,b:=y.dw y.rf},.nil):=by
  unfold Nd.jc;dsimp only;have c1:¬y.d.ep<y.d.ep:=Int.lt_irrefl _;have F:¬y.dw y.rf<(dG y.d.di y.d.ep).pr:=by rw[c];omega
  have c3:¬(1:Int)=3:=by omega
  have W:¬(((dG y.d.di y.d.ep).after 1 (y.dw y.rf) Ms.nil.p Ms.nil.s).qj (dG y.d.di y.d.ep)=true):=by intro O;have:=congrArg PV.pr (rW O);simp[PV.after]at this;rw[c]at this;omega
  rw[if_neg c1,if_neg F,if_neg W,if_neg c3]
 rw[V];cases ok
 ·have N:¬(false=true):=by simp
  rw[if_neg N];have cd:(y.fall {Ms.nil with k:=1,e:=y.d.ep,b:=y.dw y.rf}).down=true:=rfl;rw[if_pos cd];refine h.gu (h.idle (by simp[Nd.fall,Nd.stand,c]) ⟨B,E,D⟩ rfl rfl rfl rfl (fun _=>.inl ⟨rfl,?_,?_⟩)) (by simp) (by simp);·show(x j).d.ep<=y.d.ep;rw[c];exact Int.le_refl _
  ·show(dG (x j).d.di y.d.ep).pr<=y.dw y.rf;rw[c];omega
 ·rw[if_pos rfl,if_neg (by simp[Nd.save,C,l])];have M:=h.take t z (m:={Ms.nil with k:=1,e:=y.d.ep,b:=y.dw y.rf}) rfl (by simp[c]) (by dsimp only;omega) (by dsimp only;omega) (by dsimp only;rw[c];omega) (a:={y.save {Ms.nil with k:=1,e:=y.d.ep,b:=y.dw y.rf} true with ph:=2,ba:=y.dw y.rf,fo:={({Ms.nil with k:=2,e:=y.d.ep,b:=y.dw y.rf,wa:=(dG y.d.di y.d.ep).ac,p:=(dG y.d.di y.d.ep).pm,s:=(dG y.d.di y.d.ep).st}:Ms) with f:=y.id},an:=[(2,y.d.ep,y.dw y.rf,y.id)]}) (by simp[Nd.save,c]) ⟨B,E,D⟩ H ⟨K,X,Q⟩ (by simp[Nd.save,C,l]) rfl rfl (by simp[c]) (by dsimp only;rw[B,A]) (by dsimp only[Nd.save];rw[c];exact v);exact h.gu M (jT fun i=>u4 (.inl rfl)) (jT fun i L=>by simp at L)
theorem Inv.qf(h:Inv n nb x sn g u)(w:0<=j)(A:j<n)(y:(x j).ph=2)(B:0<(x j).ba)(X:n<2*((x j).an.length:Int))(ok:Bool):Call n nb x sn u j ((x j).gy ok).1 ((x j).gy ok).2 u.wr:=by
 have q:=h.own w A;have o:=qB q y;have N:=q.i0.1;have hE:=q.i0.2.2.2.2;obtain⟨P,E⟩:∃P,P=(if 0<(x j).fo.wa then(x j).fo.p else(x j).gP):=⟨_,rfl⟩;obtain⟨S,hS⟩:∃S,S=(if 0<(x j).fo.wa then(x j).fo.s else(x j).gS):=⟨_,rfl⟩;have F:=h.gy w A y B X E hS;have hn:(if 0<(x j).fo.wa then{x j with gP:=(x j).fo.p,gS:=(x j).fo.s} else x j)={x j with gP:=P,gS:=S}:=by
  by_cases c:0<(x j).fo.wa;·rw[if_pos c]at E hS⊢;rw[E,hS]
  ·rw[if_neg c]at E hS⊢;rw[E,hS]
 unfold Nd.gy;rw[hn];dsimp only;have Q:∀{x':Int->Nd} {r:Gh},r.jl (x j).d.ep (x j).ba (P,S)->∀z∈({x j with gP:=P,gS:=S}:Nd).tell {Ms.nil with k:=3,e:=(x j).d.ep,b:=(x j).ba,p:=P,s:=S} ({x j with gP:=P,gS:=S}:Nd).others,kM n x' r u z.2:=by intro x' r M;refine jT fun i=>?_;refine⟨fun D=>?_,fun _=>M,fun D=>?_,fun D=>?_,fun D=>?_,fun D=>?_⟩<;>simp at D
 have V:∀z∈({x j with gP:=P,gS:=S}:Nd).tell {Ms.nil with k:=3,e:=(x j).d.ep,b:=(x j).ba,p:=P,s:=S} ({x j with gP:=P,gS:=S}:Nd).others,z.2.k≠8:=jT fun i C=>by simp at C
 have l:∀{d:Du} {r:Gh},(∃O,O=upd x j {x j with d:=d,ph:=3,gP:=P,gS:=S,an:=[]}/\Inv n nb O sn r u)->d.ep=(x j).d.ep->(∃v,r.acc j (x j).d.ep (x j).ba v)->r.jl (x j).d.ep (x j).ba (P,S)->Call n nb x sn u j {x j with d:=d,gP:=P,gS:=S,ph:=3,an:=[(4,(x j).d.ep,(x j).ba,(x j).id)]} (({x j with gP:=P,gS:=S}:Nd).tell {Ms.nil with k:=3,e:=(x j).d.ep,b:=(x j).ba,p:=P,s:=S} ({x j with gP:=P,gS:=S}:Nd).others) u.wr:=by rintro d r ⟨O,rfl,t⟩ W ⟨v,hv⟩ M;have R:=t.tally w A (e:=(x j).d.ep) (b:=(x j).ba) (f:=j) hv (by rw[upd_self];exact W.symm) (by rw[upd_self]) B (by rw[upd_self]) (by rw[upd_self];simp) rfl;rw[upd_self,pY]at R;refine h.gu (a:={x j with d:=d,gP:=P,gS:=S,ph:=3,an:=[(4,(x j).d.ep,(x j).ba,(x j).id)]}) (by rw[N];exact R) (Q M) (fun z L C=>absurd C (V z L))
 unfold Nd.jc;dsimp only;rw[if_neg (Int.lt_irrefl _)];by_cases U:(x j).ba<(dG (x j).d.di (x j).d.ep).pr;·rw[if_pos U];dsimp only;rw[if_neg (by rw[o];simp),if_neg (by decide)];exact h.gu (a:={x j with gP:=P,gS:=S,ph:=3,an:=[]}) F (Q (.inr ⟨rfl,rfl,rfl⟩)) (fun z L C=>absurd C (V z L))
 rw[if_neg U];rw[if_pos rfl];split
 ·next c3=>
  rw[if_neg (by rw[o];simp),if_pos rfl];have H:(dG (x j).d.di (x j).d.ep).ac=(x j).ba:=by have:=congrArg PV.ac (rW c3);simp[PV.after]at this;exact this.symm
  have K:=h.vx.n2 (j:=j) (e:=(x j).d.ep) w A (Int.le_refl _) (by simp only[Nd.vo];omega);simp only[Nd.vo]at K;rw[H]at K;exact l (d:=(x j).d) ⟨_,rfl,F⟩ rfl ⟨_,K⟩ (.inr ⟨rfl,rfl,rfl⟩)
 ·cases ok
  ·have cf:¬(false=true):=by simp
   simp only[if_neg cf];have cd:(({x j with gP:=P,gS:=S}:Nd).fall {Ms.nil with k:=3,e:=(x j).d.ep,b:=(x j).ba,p:=P,s:=S}).down=true:=rfl;rw[if_pos cd];have t:=F.idle (j:=j) (a:=({x j with gP:=P,gS:=S}:Nd).fall {Ms.nil with k:=3,e:=(x j).d.ep,b:=(x j).ba,p:=P,s:=S}) (by rw[upd_self];rfl) (by rw[upd_self];exact⟨rfl,rfl,rfl⟩) rfl rfl rfl rfl (fun _=>.inr (.inl ⟨rfl,by rw[upd_self];exact Int.le_refl _,by rw[upd_self];show(dG (x j).d.di (x j).d.ep).pr<=(x j).ba;omega,.inr ⟨rfl,rfl,rfl⟩⟩));rw[pY]at t;exact h.gu t (by simp) (by simp)
  ·rw[if_pos rfl,if_neg (by simp[Nd.save,o]),if_pos rfl];have t:=F.accept (j:=j) w A (by rw[upd_self];exact o) (m:={Ms.nil with k:=3,e:=(x j).d.ep,b:=(x j).ba,p:=P,s:=S}) rfl (by rw[upd_self];exact Int.le_refl _) (by rw[upd_self];show(dG (x j).d.di (x j).d.ep).pr<=(x j).ba;omega) (.inr ⟨rfl,rfl,rfl⟩);rw[upd_self,pY]at t;exact l (d:=(x j).d.step {Ms.nil with k:=3,e:=(x j).d.ep,b:=(x j).ba,p:=P,s:=S}) ⟨_,rfl,t⟩ (by simp[Du.step,Du.ep]) ⟨_,.inr ⟨rfl,rfl,rfl,rfl⟩⟩ (.inr ⟨rfl,rfl,rfl⟩)
end
end AG
end Go.Proofs.YtdcainmlcpafbaaGreatDoor
