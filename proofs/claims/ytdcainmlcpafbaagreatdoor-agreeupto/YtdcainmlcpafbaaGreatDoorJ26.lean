import Derived.Test.YtdcainmlcpafbaaGreatDoorJ25
set_option linter.all false
set_option maxRecDepth 20000
namespace Go.Proofs.YtdcainmlcpafbaaGreatDoor
namespace AG
section
variable {n nb:Int} {x:Int->Nd} {sn:Ms->Prop} {g:Gh} {u:Gv} {j:Int} {lv:Int->Int} {ops:List As} {rs:List Rs} {hi:List Rc}
theorem CI.mute{pend:List Rs}{k:Int}(c:CI n nb x sn g u lv ops rs hi k pend){o:As}(t:o.op=0)(z:o.lf<=lv o.nd)(j:0<=o.nd/\o.nd<n):CI n nb x sn g u lv (ops++[o]) rs hi k pend:=by
 have f:∀{y},y∈ops->y∈ops++[o]:=fun hy=>List.mem_append.2 (.inl hy);refine⟨c.inv,fun y hy=>?_,c.og,?_,fun l A e=>?_,c.ny,fun w=>?_,c.res,?_,c.hi0,c.hik,c.hiu⟩
 ·rcases List.mem_append.1 hy with hy|hy;·exact c.num y hy
  ·simp at hy;subst hy;exact⟨by omega,z,fun _=>by rw[t];exact(c.og j.1 j.2).1⟩
 ·refine List.pairwise_append.2 ⟨c.unq,by simp,fun a C b i B=>?_⟩;simp at i;subst i;omega
 ·obtain⟨y,h,d⟩:=c.lnk l A e;exact⟨y,f h,d⟩
 ·obtain⟨y,h,d⟩:=c.qg w;exact⟨y,f h,d⟩
 ·rcases c.pen with m|⟨r,q,p2,⟨y,p,s⟩,v⟩;·exact .inl m
  ·exact .inr ⟨r,q,p2,⟨y,f p,s⟩,v⟩
theorem CI.ni{a:Nd}(c:CI n nb x sn g u lv ops rs hi j [])(h0:0<=j)(h1:j<n)(D:(x j).d.ep<hi.length)(hc:Call n nb x sn u j a [] u.wr)(ha:a.on=0/\a.ops=0/\a.res=[])(he:a.d.ep=(x j).d.ep∨a.d.ep=(x j).d.ep+1):∃p u',CI n nb (upd x j a) (fun y=>sn y∨∃z∈([]:List (Int×Ms)),y=z.2) p u' (upd lv j (lv j+1)) ops rs hi j []:=by
 obtain⟨p,u',K,v,U,l,F,h',h8⟩:=hc;have hn:∀m,(sn m∨∃z∈([]:List (Int×Ms)),m=z.2)->m.k=8->sn m∨(m.f=j/\m.e=a.d.seen):=by
  rintro m (hm|⟨z,O,rfl⟩) hk;·exact .inl hm
  ·simp at O
 have s:∀i,(x i).d.ep<=(upd x j a i).d.ep:=by
  intro i;by_cases hi:i=j;·subst hi;rw[upd_self];omega
  ·rw[upd_ne hi];exact Int.le_refl _
 refine⟨p,u',⟨h',fun o X=>?_,fun{i} i0 i1=>?_,c.unq,fun{i} i0 i1 hon=>?_,fun r q=>⟨l.tk (c.ny r q).1,Int.le_trans (c.ny r q).2 (l.mx (c.ny r q).1)⟩,fun b=>c.qg (by rw[F]at b;exact b),fun{i} i0 i1=>?_,.inl rfl,c.hi0,fun i hi=>?_,fun{i} i0 i1=>?_⟩⟩
 ·obtain⟨h,B,M⟩:=c.num o X;by_cases hi:o.nd=j;·rw[hi]at B⊢;rw[upd_self];exact⟨h,by omega,fun b=>by omega⟩
  ·rw[upd_ne hi,upd_ne hi];exact⟨h,B,M⟩
 ·by_cases hi:i=j;·subst hi;rw[upd_self];omega
  ·rw[upd_ne hi];exact c.og i0 i1
 ·by_cases hi:i=j;·subst hi;rw[upd_self]at hon;omega
  ·have e:upd x j a i=x i:=upd_ne hi;obtain⟨o,S,N,V,W,H,E,L,Q⟩:=c.lnk i0 i1 (by rw[e]at hon;exact hon);refine⟨o,S,N,by rw[upd_ne hi];exact V,by rw[e];exact W,H,by rw[e];exact E,by rw[e];exact L,?_⟩;rw[e];exact Q.imp id (fun C=>C.on c.inv h' v l hn i0 i1 hon (by rw[e]) (by rw[e]))
 ·have b:=c.res i0 i1;by_cases hi:i=j;·subst hi;rw[upd_self,if_pos rfl];exact ha.2.2
  ·rw[upd_ne hi];exact b
 ·obtain⟨h,y,w,t,A⟩:=c.hik i hi;refine⟨?_,y,w,t,Int.le_trans A (s y)⟩;rw[l.R (by omega) (Int.le_trans A (v y w t))];exact h
 ·by_cases hi:i=j;·subst hi;rw[upd_self];omega
  ·rw[upd_ne hi];rcases c.hiu i0 i1 with b|b;·exact .inl b
   ·exact absurd b.1 hi
theorem CI.begin(c:CI n nb x sn g u lv ops rs hi j [])(Q:0<=j)(V:j<n)(ad:(x j).d.ep<hi.length)(bl v:Int)(U:Bool){D q0:Int}(a6:(D = -1/\q0=0)∨∃r∈rs,r.e=D/\r.q=q0)(a4:U=true->v=(x j).d.bk bl)(hh:(x j).jv ((x j).blk bl)=0):∃g' u' pend,CI n nb (upd x j ((x j).operate bl v true).1) (fun y=>sn y∨∃z∈((x j).operate bl v true).2.1,y=z.2) g' u' lv (ops++[⟨j,lv j,(x j).ops+1,bl,v,U,false,D,q0⟩]) rs hi j pend:=by
 have q:=c.inv.own Q V;obtain⟨c1,c2,a5,c6,c7,c8⟩:=wN hh;obtain⟨c3,c4⟩:0<=bl/\bl<(x j).nb:=by unfold Nd.blk at a5;simpa using a5
 have t:=q.t1 c2;have hR:=q.rr q.i0.2.2.2.2 (Int.le_refl _);have ae:=c.inv.nn;have af:=q.i0.2.2.2.1;have hc:=c.inv.operate Q V bl v true (W:=fun i w=>u.wr i w∨(U=false/\i=bl/\w=v)) .inl (by
  cases U;·exact .inr (.inr ⟨rfl,rfl,rfl⟩)
  ·rw[a4 rfl];exact(q.bv c3 (by omega)).imp id .inl) hh
 have O:sL (x j).d.ep ((x j).d.last+1) D q0∨(∃y E,0<=y/\y<n/\y≠j/\bit (u.R (x j).d.ep).S y/\u.tk E/\(x j).d.ep<E/\(u.R E).P=y+1):=by
  rcases a6 with l|⟨r,hr,r1,r2⟩;·exact .inl (.inl (by have:=q.i0.2.2.2.2;omega))
  ·obtain⟨k1,k2⟩:=c.ny r hr;rw[r1]at k1 k2;by_cases hx:(x j).d.ep<D;·exact .inr (c.inv.behind Q V c2 c7 (D - (x j).d.ep).toNat k1 (by omega) hx)
   ·refine .inl ?_;by_cases hy:D=(x j).d.ep;·exact .inr ⟨hy,by rw[hy]at k2;omega⟩
    ·exact .inl (by omega)
 have M:∀m,sn m->m.k=8->¬(m.e=(x j).d.ep/\m.q=(x j).d.last+1):=by rintro m F hk ⟨m1,m2⟩;have:=((c.inv.ms F).s8 (.inl hk)).2.1;rw[m1]at this;omega
 obtain⟨A,hA⟩:∃A,A=((x j).operate bl v true).1:=⟨_,rfl⟩;obtain⟨out,N⟩:∃o,o=((x j).operate bl v true).2.1:=⟨_,rfl⟩;have hY:∃y:Nd,A=y.finish/\y.on=(x j).ops+1/\y.ops=(x j).ops+1/\y.res=(x j).res/\y.ow={Ms.nil with k:=7,e:=(x j).d.ep,q:=(x j).d.last+1,bl:=bl,v:=v}/\y.oa=[]/\y.d.ep=(x j).d.ep/\y.d.rc y.d.ep=(x j).d.rc (x j).d.ep/\y.id=(x j).id/\y.nodes=(x j).nodes/\∀z∈out,z.2.k=7:=by
  rw[hA,N];unfold Nd.operate;rw[if_neg (by simp[hh])];refine⟨_,rfl,rfl,rfl,rfl,rfl,rfl,?_,?_,rfl,rfl,jT fun i=>rfl⟩;·simp[Nd.save,Du.step,Du.ep]
  ·simp[Nd.save,Du.step,Du.ep,Du.rc]
 rw[←hA,←N]at hc⊢;obtain⟨y,y1,y2,y3,y4,y5,y6,y7,y8,y9,a7,a8⟩:=hY;obtain⟨g',u',K,hK,ac,H,hW,h',h8⟩:=hc;have B:=c.res Q V;rw[if_pos rfl]at B;have a2:A.d.ep=(x j).d.ep:=by rw[y1];unfold Nd.finish;split<;>exact y7
 have h:A.ops=(x j).ops+1:=by rw[y1];unfold Nd.finish;split<;>exact y3
 have hn:∀m,(sn m∨∃z∈out,m=z.2)->m.k=8->sn m∨(m.f=j/\m.e=A.d.seen):=by
  rintro m (F|⟨z,hz,rfl⟩) hk;·exact .inl F
  ·exact .inr (h8 z hz hk)
 have aa:∀m,(sn m∨∃z∈out,m=z.2)->m.k=8->¬(m.e=(x j).d.ep/\m.q=(x j).d.last+1):=by
  rintro m (F|⟨z,hz,rfl⟩) hk;·exact M m F hk
  ·have:=a8 z hz;omega
 have L:∀i,(upd x j A i).d.ep=(x i).d.ep:=by
  intro i;by_cases hi:i=j;·subst hi;rw[upd_self];exact a2
  ·rw[upd_ne hi]
 have F:∀{z},z∈ops->z∈ops++[(⟨j,lv j,(x j).ops+1,bl,v,U,false,D,q0⟩:As)]:=fun hy=>List.mem_append.2 (.inl hy);have a0:(⟨j,lv j,(x j).ops+1,bl,v,U,false,D,q0⟩:As)∈ops++[(⟨j,lv j,(x j).ops+1,bl,v,U,false,D,q0⟩:As)]:=by simp
 have ab:=(c.og Q V).1;have a9:(∃pend,A.res=pend/\(0<A.on->A.on=(x j).ops+1/\A.ow=y.ow)/\(pend=[]/\A.on=(x j).ops+1∨(pend=[⟨(x j).ops+1,bl,v,(x j).d.ep,(x j).d.last+1⟩]/\A.on=0/\y.all))):=by
  rw[y1];unfold Nd.finish;split
  ·next hall=>
   refine⟨_,rfl,fun l=>by simp at l,.inr ⟨?_,rfl,AS (by rw[y8,hR];exact c.inv.qp Q V q.i0.2.2.2.2 (Int.le_refl _)) (by rw[y9,q.i0.1];omega) (by rw[a7,q.i0.2.2.1];omega) hall⟩⟩;simp only[y4,B,List.nil_append,y2,y5]
  ·exact⟨[],by rw[y4,B],fun _=>⟨y2,rfl⟩,.inl ⟨rfl,y2⟩⟩
 obtain⟨pend,f1,f2,X⟩:=a9;have a1:(∃y E,0<=y/\y<n/\y≠j/\bit (u.R (x j).d.ep).S y/\u.tk E/\(x j).d.ep<E/\(u.R E).P=y+1)->0<A.on->pH n (upd x j A) (fun y=>sn y∨∃z∈out,y=z.2) u' j:=by rintro⟨z,E,z0,z1,z2,z3,z4,z5,z6⟩ s;obtain⟨_,p,p0,p1,_,_,p4⟩:=c.inv.t2 z4;have:=hK p p0 p1;refine⟨z,E,z0,z1,z2,by rw[L,H.R q.i0.2.2.2.2 (hK j Q V)];exact z3,H.tk z4,by rw[L];exact z5,by rw[H.R (by have:=q.i0.2.2.2.2;omega) (by omega)];exact z6,fun m F hk _=>?_⟩;rw[upd_self,(f2 s).2,y5];exact aa m F hk
 refine⟨g',u',pend,⟨h',fun o oo=>?_,fun{i} i0 i1=>?_,?_,fun{i} i0 i1 s=>?_,fun r hr=>⟨H.tk (c.ny r hr).1,Int.le_trans (c.ny r hr).2 (H.mx (c.ny r hr).1)⟩,fun{i w} l=>?_,fun{i} i0 i1=>?_,?_,c.hi0,fun i hi=>?_,fun{i} i0 i1=>?_⟩⟩
 ·rcases List.mem_append.1 oo with oo|oo
  ·obtain⟨r1,r2,r3⟩:=c.num o oo;refine⟨r1,r2,fun l=>?_⟩;have:=r3 l;by_cases hi:o.nd=j;·rw[hi]at this⊢;rw[upd_self,h];omega
   ·rw[upd_ne hi];exact this
  ·simp at oo;subst oo;exact⟨by show 0<=(x j).ops+1;omega,Int.le_refl _,fun _=>by rw[upd_self,h];exact Int.le_refl _⟩
 ·by_cases hi:i=j;·subst hi;rw[upd_self,h];refine⟨by omega,?_⟩;rcases X with X|X<;>omega
  ·rw[upd_ne hi];exact c.og i0 i1
 ·refine List.pairwise_append.2 ⟨c.unq,by simp,fun a ha b hb hh=>?_⟩;simp at hb;subst hb;have r3:=(c.num a ha).2.2;obtain⟨k1,k2,k3,_⟩:=hh;dsimp only at k1 k2 k3;have:=r3 (by rw[k1,k2]);rw[k1]at this;omega
 ·by_cases hi:i=j;·subst hi;have C:=s;rw[upd_self]at C;obtain⟨k1,k2⟩:=f2 C;refine⟨_,a0,rfl,rfl,by rw[upd_self,k1],rfl,by rw[upd_self,k2,y5],fun _=>by rw[upd_self,k2,y5],?_⟩;rw[upd_self,k2,y5];exact O.imp id (fun hd=>a1 hd C)
  ·have e:upd x j A i=x i:=upd_ne hi;obtain⟨o,o1,o2,o3,o4,o5,o6,o7,o8⟩:=c.lnk i0 i1 (by rw[e]at s;exact s);refine⟨o,F o1,o2,o3,by rw[e];exact o4,o5,by rw[e];exact o6,by rw[e];exact o7,?_⟩;rw[e];exact o8.imp id (fun hd=>hd.on c.inv h' hK H hn i0 i1 s (by rw[e]) (by rw[e]))
 ·rw[hW]at l;rcases l with l|⟨l,rfl,rfl⟩;·obtain⟨o,o1,o2⟩:=c.qg l;exact⟨o,F o1,o2⟩
  ·exact⟨_,a0,l,rfl,rfl⟩
 ·by_cases hi:i=j;·subst hi;rw[upd_self,if_pos rfl];exact f1
  ·rw[upd_ne hi,if_neg hi];have:=c.res i0 i1;rw[if_neg hi]at this;exact this
 ·rcases X with⟨X,_⟩|⟨X,f4,f5⟩;·exact .inl X
  ·refine .inr ⟨_,X,by show 0<(x j).ops+1;omega,⟨_,a0,rfl,rfl,rfl,rfl,rfl,fun _=>rfl,O.resolve_right ?_⟩,?_,H.tk t.1,?_,by rw[upd_self,h];exact Int.le_refl _,by rw[upd_self];exact f4⟩;·rintro⟨z,E,z0,z1,z2,z3,_⟩;have:=(f5 z z0 (by omega) (by rw[y8,hR];exact z3) (by rw[y9,q.i0.1];exact z2)).2;rw[y6]at this;simp at this
   ·show jF u' bl v;cases U;·right;rw[hW];exact .inr ⟨rfl,rfl,rfl⟩
    ·rw[a4 rfl];exact(q.bv c3 (by omega)).jy H
   ·show(x j).d.last+1<=u'.mx (x j).d.ep;have t':=(h'.own Q V).t3;rw[upd_self]at t';have a3:A.d.seen=(x j).d.ep/\A.d.last=(x j).d.last+1:=by rw[hA];unfold Nd.operate;rw[if_neg (by simp[hh])];dsimp only;rw[if_pos rfl];unfold Nd.finish;split<;>simp[Nd.save,Du.step]
    rw[a3.1,a3.2]at t';rcases t' with t'|t';·have:=(c.inv.t2 t.1).1;omega
    ·exact t'.2
 ·obtain⟨q1,z,z0,z1,z2⟩:=c.hik i hi;refine⟨?_,z,z0,z1,by rw[L];exact z2⟩;rw[H.R (by omega) (Int.le_trans z2 (hK z z0 z1))];exact q1
 ·rw[L];rcases c.hiu i0 i1 with l|l;·exact .inl l
  ·exact .inr l
end
end AG
namespace AG
section
variable {n nb:Int} {x:Int->Nd} {sn:Ms->Prop} {g:Gh} {u:Gv} {k:Int} {lv:Int->Int} {ops:List As} {rs:List Rs} {hi:List Rc}
theorem CI.told{r:Rs}(c:CI n nb x sn g u lv ops rs hi k [r])(h0:0<=k)(h1:k<n){p:Nat}(M:p<ops.length)(s:ops[p].nd=k/\ops[p].lf=lv k/\ops[p].op=r.op):(ops[p].dn=false/\ops[p].bl=r.bl/\(ops[p].rd=false->ops[p].v=r.v)/\sL r.e r.q ops[p].e ops[p].q/\(r.v=0∨∃o∈ops,o.rd=false/\o.bl=r.bl/\o.v=r.v))/\CI n nb (upd x k {x k with res:=[]}) sn g u lv (ops.set p {ops[p] with dn:=true}) (rs++[r]) hi k []:=by
 rcases c.pen with H|⟨R,p1,p2,⟨o,o1,o2,o3,X,o5,o6,o7,o8⟩,p4,p5,p6,p7,p8⟩;·simp at H
 obtain rfl:r=R:=by simpa using p1
 have b:ops[p]=o:=by
  obtain⟨i,hi,h⟩:=List.mem_iff_getElem.1 o1;have j:=List.pairwise_iff_getElem.1 c.unq;rcases Nat.lt_trichotomy p i with B|B|B;·exact absurd ⟨by rw[s.1,h,o2],by rw[s.2.1,h,o3],by rw[s.2.2,h,X],by rw[s.2.2];exact p2⟩ (j p i M hi B)
  ·subst B;exact h
  ·exact absurd ⟨by rw[s.1,h,o2],by rw[s.2.1,h,o3],by rw[s.2.2,h,X],by rw[h,X];exact p2⟩ (j i p hi M B)
 refine⟨⟨by rw[b];exact o5,by rw[b];exact o6,by rw[b];exact o7,by rw[b];exact o8,p4.imp id c.qg⟩,?_⟩;have hI:Inv n nb (upd x k {x k with res:=[]}) sn g u:=c.inv.oper rfl (fun B=>by dsimp only at B;omega) (fun _=>p8);have f:∀i,(upd x k {x k with res:=[]} i).ops=(x i).ops/\(upd x k {x k with res:=[]} i).on=(x i).on/\(upd x k {x k with res:=[]} i).ow=(x i).ow/\(upd x k {x k with res:=[]} i).d=(x i).d:=by
  intro i;by_cases hi:i=k;·subst hi;rw[upd_self];exact⟨rfl,rfl,rfl,rfl⟩
  ·rw[upd_ne hi];exact⟨rfl,rfl,rfl,rfl⟩
 have W:∀z∈ops.set p {ops[p] with dn:=true},∃y∈ops,z.nd=y.nd/\z.lf=y.lf/\z.op=y.op:=by
  intro z a;rcases List.mem_or_eq_of_mem_set a with a|a;·exact⟨z,a,rfl,rfl,rfl⟩
  ·exact⟨ops[p],List.getElem_mem M,by rw[a],by rw[a],by rw[a]⟩
 have t:∀z∈ops,z∈ops.set p {ops[p] with dn:=true}∨z=ops[p]:=by
  intro z a;obtain⟨i,hi,h⟩:=List.mem_iff_getElem.1 a;by_cases E:i=p;·subst E;exact .inr h.symm
  ·refine .inl (List.mem_iff_getElem.2 ⟨i,by simpa using hi,?_⟩);rw[List.getElem_set_ne (Ne.symm E)];exact h
 refine⟨hI,fun z a=>?_,fun w A=>?_,?_,fun{i} w A hon=>?_,fun R D=>?_,fun hw=>?_,fun{i} w A=>?_,.inl rfl,c.hi0,fun i hi=>?_,fun w A=>?_⟩;·obtain⟨y,S,y2,y3,y4⟩:=W z a;rw[y2,y3,y4,(f _).1];exact c.num y S
 ·rw[(f _).1,(f _).2.1];exact c.og w A
 ·have j:=List.pairwise_iff_getElem.1 c.unq;refine List.pairwise_iff_getElem.2 fun i O hi l Q=>?_;have e:∀m (N:m<(ops.set p {ops[p] with dn:=true}).length),(ops.set p {ops[p] with dn:=true})[m].nd=(ops[m]'(by simpa using N)).nd/\(ops.set p {ops[p] with dn:=true})[m].lf=(ops[m]'(by simpa using N)).lf/\(ops.set p {ops[p] with dn:=true})[m].op=(ops[m]'(by simpa using N)).op:=by
   intro m N;by_cases L:m=p;·subst L;simp
   ·rw[List.getElem_set_ne (Ne.symm L)];exact⟨rfl,rfl,rfl⟩
  rw[(e i hi).1,(e i hi).2.1,(e i hi).2.2,(e O l).1,(e O l).2.1,(e O l).2.2];exact j i O (by simpa using hi) (by simpa using l) Q
 ·rw[(f i).2.1]at hon;obtain⟨z,U,C,K,F,z5,z6,z7,z8⟩:=c.lnk w A hon;have V:i≠k:=by intro H;rw[H,p8]at hon;omega
  have a:z∈ops.set p {ops[p] with dn:=true}:=(t z U).resolve_right (fun H=>V (by rw[←C,H,s.1]));refine⟨z,a,C,K,by rw[(f i).2.1];exact F,z5,by rw[(f i).2.2.1];exact z6,by rw[(f i).2.2.1];exact z7,?_⟩;rw[(f i).2.2.1];refine z8.imp id (fun⟨y,e',d⟩=>⟨y,e',?_⟩);rw[(f i).2.2.1,(f i).2.2.2];exact d
 ·rcases List.mem_append.1 D with D|D;·exact c.ny R D
  ·simp at D;subst D;exact⟨p5,p6⟩
 ·obtain⟨z,U,C,K,F⟩:=c.qg hw;rcases t z U with a|a;·exact⟨z,a,C,K,F⟩
  ·exact⟨_,List.mem_set M _,by rw[a]at C;exact C,by rw[a]at K;exact K,by rw[a]at F;exact F⟩
 ·by_cases hi:i=k;·subst hi;rw[upd_self];simp
  ·rw[upd_ne hi,c.res w A,if_neg hi,if_neg hi]
 ·obtain⟨q1,y,y0,S,y2⟩:=c.hik i hi;exact⟨q1,y,y0,S,by rw[(f y).2.2.2];exact y2⟩
 ·rw[(f _).2.2.2];exact c.hiu w A
theorem CI.seen{pend:List Rs}(c:CI n nb x sn g u lv ops rs hi k pend)(f:0<=k)(e:k<n)(m:(x k).d.ep=hi.length):CI n nb x sn g u lv ops rs (hi++[(x k).d.rc hi.length]) k pend:=by
 have q:=c.inv.own f e;refine⟨c.inv,c.num,c.og,c.unq,c.lnk,c.ny,c.qg,c.res,c.pen,by simp,fun i a=>?_,fun h j=>?_⟩
 ·by_cases b:i<hi.length;·rw[List.getElem_append_left b];exact c.hik i b
  ·have:i=hi.length:=by simp at a;omega
   subst this;refine⟨?_,k,f,e,by omega⟩;rw[List.getElem_append_right r_];simp only[Nat.sub_self,List.getElem_singleton];exact q.rr (by omega) (by omega)
 ·simp only[List.length_append,List.length_singleton];rcases c.hiu h j with l|l;·exact .inl (by omega)
  ·exact .inl (by omega)
theorem CI.same{pend:List Rs}(c:CI n nb x sn g u lv ops rs hi k pend){j:Int}(f:0<=j)(e:j<n){i:Nat}(a:i<hi.length)(b:(i:Int)<=(x j).d.ep):(x j).d.rc i=hi[i]:=by rw[(c.inv.own f e).rr (by omega) b];exact(c.hik i a).1.symm
theorem CI.follow{pend:List Rs}(c:CI n nb x sn g u lv ops rs hi k pend){j:Int}(h:0<=j)(f:j<n){e:Int}(a:0<=e)(b:e<(x j).d.ep):Fol ((x j).d.rc e) (e+1) ((x j).d.rc (e+1)).P ((x j).d.rc (e+1)).S/\((x j).d.rc (e+1)).E=e+1:=by have q:=c.inv.own h f;rw[q.rr a (by omega),q.rr (i:=e+1) (by omega) (by omega)];exact⟨(c.inv.known h f a b).1,(q.rf a b).1⟩
theorem CI.first(b:2<=n/\n<=5):CI n nb (fun j=>Nd.first j n nb) (fun _=>False) Gh.none (Gv.none n) (fun _=>0) [] [] [⟨0,0,2 ^ n.toNat - 1⟩] 0 []:=by
 refine⟨Inv.first b,by simp,fun _ _=>⟨Int.le_refl _,Int.le_refl _⟩,by simp,fun _ _ h=>?_,by simp,fun h=>h.elim,fun _ _=>by simp[Nd.first],.inl rfl,by simp,fun i a=>?_,fun _ _=>.inl (by simp[Nd.first,Du.first,Du.ep])⟩;·simp[Nd.first]at h
 ·have:i=0:=by simp at a;omega
  subst this;exact⟨rfl,0,by omega,by omega,by simp[Nd.first,Du.first,Du.ep]⟩
end
end AG
namespace AG
section
variable {n nb:Int} {x:Int->Nd} {sn:Ms->Prop} {g:Gh} {u:Gv} {j:Int} {lv:Int->Int} {ops:List As} {rs:List Rs} {hi:List Rc} {k:Int} {pend:List Rs}
def Nd.swp(y:Nd)(l:List (Int×PV)):Nd:={y with d:={y.d with di:=l}}
theorem tS{l:List (Int×PV)}(i:Int):∃a,(upd x j ((x j).swp l)) i=(x i).swp a/\((∀e,dG l e=dG (x j).d.di e)->∀e,dG a e=dG (x i).d.di e):=by
 by_cases h:i=j;·subst h;rw[upd_self];exact⟨l,rfl,id⟩
 ·rw[upd_ne h];exact⟨(x i).d.di,rfl,fun _ _=>rfl⟩
theorem Inv.swap(h:Inv n nb x sn g u){l:List (Int×PV)}(o:∀e,dG l e=dG (x j).d.di e):Inv n nb (upd x j ((x j).swp l)) sn g u:=by
 have a:∀i,(upd x j ((x j).swp l) i).d.ep=(x i).d.ep/\(upd x j ((x j).swp l) i).d.seen=(x i).d.seen/\(upd x j ((x j).swp l) i).d.last=(x i).d.last:=by intro i;obtain⟨s,f,r⟩:=tS (x:=x) (j:=j) (l:=l) i;rw[f];exact⟨rfl,rfl,rfl⟩
 refine⟨h.nn,?_,fun{i} h0 f=>?_,h.r0,fun t=>?_,h.at_,fun y=>?_,fun A=>?_⟩
 ·have e:(fun i=>(upd x j ((x j).swp l) i).vo)=(fun i=>(x i).vo):=by funext i;obtain⟨s,f,r⟩:=tS (x:=x) (j:=j) (l:=l) i;rw[f];have z:=r o;simp only[Nd.vo,Nd.swp,Du.ep,z]
  rw[e];exact h.vx
 ·obtain⟨s,C,D⟩:=tS (x:=x) (j:=j) (l:=l) i;rw[C];have q:=h.own h0 f;have o:=D o;refine⟨q.i0,q.k2,q.k3,q.rr,q.rf,q.gc,q.ap,q.t1,q.t3,q.bv,q.dn,q.o1,fun v=>?_,q.p1,q.o2⟩;have:=q.pd v;unfold En at this⊢;simp only[Nd.swp,o];exact this
 ·obtain⟨a1,⟨i,c,k,b⟩,m⟩:=h.gr t;exact⟨a1,⟨i,c,k,by rw[(a i).1];exact b⟩,m⟩
 ·obtain⟨a1,i,c,k,b,m,p⟩:=h.t2 y;exact⟨a1,i,c,k,b,by rw[(a i).2.1];exact m,by rw[(a i).1];exact p⟩
 ·have q:=h.ms A;refine⟨q.s2,q.s3,q.s4,fun B=>?_,q.s7,fun w=>?_⟩;·obtain⟨a1,c,k,i,b,m,p⟩:=q.s6 B;exact⟨a1,c,k,i,b,m,by rw[(a i).1];exact p⟩
  ·have:=q.s8 w;rw[(a _).2.1,(a _).2.2];exact this
theorem CI.swap(c:CI n nb x sn g u lv ops rs hi k pend){l:List (Int×PV)}(p:∀e,dG l e=dG (x j).d.di e):CI n nb (upd x j ((x j).swp l)) sn g u lv ops rs hi k pend:=by
 have a:∀i,(upd x j ((x j).swp l) i).d.ep=(x i).d.ep/\(upd x j ((x j).swp l) i).ops=(x i).ops/\(upd x j ((x j).swp l) i).on=(x i).on/\(upd x j ((x j).swp l) i).ow=(x i).ow/\(upd x j ((x j).swp l) i).res=(x i).res:=by intro i;obtain⟨t,b,s⟩:=tS (x:=x) (j:=j) (l:=l) i;rw[b];exact⟨rfl,rfl,rfl,rfl,rfl⟩
 refine⟨c.inv.swap p,?_,fun{i} h0 b=>?_,c.unq,fun{i} h0 b=>?_,c.ny,c.qg,fun{i} h0 b=>?_,?_,c.hi0,?_,fun{i} h0 b=>?_⟩;·intro o m;have:=c.num o m;rw[(a _).2.1];exact this
 ·rw[(a _).2.1,(a _).2.2.1];exact c.og h0 b
 ·have:=c.lnk h0 b;unfold DZ pH at this⊢;rw[(a _).2.2.1,(a _).2.2.2.1,(a _).1];exact this
 ·rw[(a _).2.2.2.2];exact c.res h0 b
 ·have:=c.pen;rw[(a _).2.1,(a _).2.2.1];exact this
 ·intro i f;obtain⟨a1,y,q,r,h⟩:=c.hik i f;exact⟨a1,y,q,r,by rw[(a _).1];exact h⟩
 ·rw[(a _).1];exact c.hiu h0 b
end
end AG
end Go.Proofs.YtdcainmlcpafbaaGreatDoor
