import Derived.Test.YtdcainmlcpafbaaGreatDoorJ36
set_option linter.all false
set_option maxHeartbeats 1000000
set_option maxRecDepth 20000
namespace Go.Proofs.YtdcainmlcpafbaaGreatDoor
namespace AG
section
variable {n nb:Int} {x:Int->Nd} {sn:Ms->Prop} {g:Gh} {u u':Gv} {j:Int} {a:Nd} {y:Lv} {lv lv':Int->Int} {ops:List As} {rs:List Rs} {rd:List Bool} {k:Int} {pend:List Rs} {out:List (Int×Ms)}
def LI.call(h:LI n nb (vws x) sn u lv ops rs rd j [] y)(hi:Inv n nb x sn g u)(p:0<=j)(r:j<n)(hN:Nx n nb x sn u j a out u')(hv:Vc sn (x j) a out)(o:∀i,i≠j->lv' i=lv i)(O:a.on=0∨(a.on=(x j).on/\a.ow=(x j).ow/\lv' j=lv j)):∃y',LI n nb (vws (upd x j a)) (λy=>sn y∨∃z∈out,y=z.2) u' lv' ops rs rd j [] y':=by
 obtain⟨g',K,hK,hu,h'⟩:=hN;have A:=(hi.own p r).i0.1;have C:(x j).d.seen<=a.d.seen->(∀z∈out,z.2.k=8->z.2.f=j/\z.2.e=a.d.seen)->Cv n nb x sn g u K j a (λy=>sn y∨∃z∈out,y=z.2) g' u':=λhs t=>by
  refine⟨⟨p,r⟩,hi,h',hK,hu,hs,.inl,λm l D=>?_⟩;rcases l with l|⟨z,c,rfl⟩;·exact .inl l
  ·exact .inr (t z c D)
 have M:=h'.own p r;rw[upd_self]at M;rcases hv with⟨v1,v2,v3⟩|⟨⟨t1,t2,t3,t4,t5,t6,t7,t8⟩,t9⟩|⟨m,m1,N,m3,m4,m5,m6,m7⟩|⟨a1,a2,a3,a4,a5⟩
 ·refine⟨y,h.still (C (by rw[v1.2.1];exact Int.le_refl _) (λz c D=>?_)) v1 v2 (λ{m} l=>?_) o (λs=>?_) (Nat.zero_le _) sG⟩
  ·rcases v3 z c oG with⟨_,w,F,_⟩|⟨w,F,_⟩|⟨w,_⟩;·rw[M.i0.1]at w;exact⟨w,F⟩
   ·have:=(M.o1 F).2.1;omega
   ·omega
  ·rcases l with l|⟨z,c,rfl⟩;·exact .inl l
   ·exact .inr (v3 z c)
  ·rcases O with t|t;·omega
   ·exact⟨t.1,t.2.1,rfl,t.2.2⟩
 ·refine h.take (C oG (λz c D=>?_)) t1 t2 t3 t4 (by rw[t5,A]) t6 t7 t8 (λ{m} l=>?_) o;·have:=t9 z c;omega
  ·rcases l with l|⟨z,c,rfl⟩;·exact .inl l
   ·exact .inr (t9 z c)
 ·have l:Vm nb y m:=by
   rcases m1 with m1|⟨m1,rfl⟩;·exact(h.ms m1).1 N
   ·exact(h.nd p r).tr m1 N
  have e:=step79 (x j).d N;rw[←m4]at e;refine h.apply (C oG (λz c D=>?_)) l N m3 m4 m5 m6 (λ{z} c=>?_) o;·obtain⟨_,w,F,_⟩:=m7 z c oG;rw[A]at w;exact⟨w,oG⟩
  ·rcases c with c|⟨z,c,rfl⟩;·exact .inl c
   ·right;have:=m7 z c;rw[A]at this;exact this
 ·have ho:∀{z},(sn z∨∃y∈out,z=y.2)->sn z∨(z.k=9/\z.e=(x j).d.ep/\z.q=(x j).d.last+1/\z.bl=(x j).eu.bl/\z.v=(x j).eu.v/\z.zs=(x j).eu.zs):=by
   rintro z (c|⟨z,c,rfl⟩);·exact .inl c
   ·obtain⟨f,U⟩:=a4 z c;rw[U];exact .inr ⟨rfl,rfl,rfl,rfl,rfl,rfl⟩
  have t:∀z∈out,z.2.k=8->z.2.f=j/\z.2.e=a.d.seen:=by intro z c D;obtain⟨f,U⟩:=a4 z c;rw[U]at D;simp[Nd.eu]at D
  have a0:=((hi.own p r).t1 a1).2.2.1;have hR:=(hi.own p r).rr (hi.own p r).i0.2.2.2.2 (Int.le_refl _);rcases a5 with⟨L,p2,W,i,p4,p5,p6,p7⟩|⟨L,p2,W⟩
  ·have e:=step79 (x j).d (m:={(x j).eu with q:=(x j).d.last+1}) (.inr rfl);rw[←L]at e;obtain⟨w,F,e3,e4,e5⟩:=e;have S:a.d.seen=(x j).d.ep:=e4;have H:a.d.ep=(x j).d.ep:=by simp[Du.ep,w]
   refine h.raise (C oG t) a1 a2 False True (B:= -1) (V:=(x j).d.bk (-1)) (.inl rfl) r_ (λ_=>id) (λs=>s.elim) oG (m:={(x j).eu with q:=(x j).d.last+1}) (.inr rfl) ⟨rfl,rfl⟩ (λs=>by simp[Nd.eu]at s) (λ_=>⟨rfl,rfl⟩) (.inl ⟨trivial,λb X b1=>?_,S,e5,H,p2,λ_=>?_,λ_=>rfl⟩) ho o (λs=>oG) (Nat.zero_le _) sG
   ·rw[if_neg oG,L];have e:((x j).d.step {(x j).eu with q:=(x j).d.last+1}).bk b=(x j).eu.zs.getD b.toNat ((x j).d.bk b):=by simp[Du.step,Nd.eu,X]
    rw[e];exact xH (x j) X (by rw[(hi.own p r).i0.2.2.2.1];exact b1)
   ·have E:=(M.gc oG).2;rw[H]at E;rcases E with E|E;·have:=E i p4 p5 p6;have Q:u'.R (x j).d.ep=u.R (x j).d.ep:=hu.R (hi.own p r).i0.2.2.2.2 (hK j p r);rw[Q,←hR]at this;exact absurd this p7
    ·exact E.1
  ·refine h.raise (C (by rw[L];exact Int.le_refl _) t) a1 a2 False False (B:= -1) (V:=(x j).d.bk (-1)) (.inl rfl) r_ (λ_=>id) (λs=>s.elim) oG (m:={(x j).eu with q:=(x j).d.last+1}) (.inr rfl) ⟨rfl,rfl⟩ (λs=>by simp[Nd.eu]at s) (λ_=>⟨rfl,rfl⟩) (.inr ⟨id,L,p2,W⟩) ho o (λs=>oG) (Nat.zero_le _) sG
def LI.wrote(h:LI n nb (vws x) sn u lv ops rs rd j [] y)(hi:Inv n nb x sn g u)(d:0<=j)(s:j<n){m:Ms}(hk:m.k=8)(M:sn m)(a:(x j).res=[])(hN:Nx n nb x sn u j ((x j).wrote m) [] u')(b:pend=((x j).wrote m).res):∃y',LI n nb (vws (upd x j ((x j).wrote m))) (λy=>sn y∨∃z∈([]:List (Int×Ms)),y=z.2) u' lv ops rs rd j pend y':=by
 obtain⟨g',K,V,hu,h'⟩:=hN;have q:=hi.own d s;have a0:=hi.nn;have L:=q.i0;have N:Vd (x j) ((x j).wrote m):=by
  unfold Nd.wrote;split
  ·obtain⟨o,ho⟩:∃o,o=(if(8,m.e,max 0 m.q,m.f)∈(x j).oa then(x j).oa else(x j).oa++[(8,m.e,max 0 m.q,m.f)]):=⟨_,rfl⟩;rw[←ho];unfold Nd.finish;split;·exact .jr (x j) rfl id
   ·exact .jr (x j) rfl id
  ·exact .refl _
 have H:(λy=>sn y∨∃z∈([]:List (Int×Ms)),y=z.2)=sn:=by funext y;simp
 rw[H]at h' ⊢;have C:Cv n nb x sn g u K j ((x j).wrote m) sn g' u':=⟨⟨d,s⟩,hi,h',V,hu,by rw[N.1.2.1];exact Int.le_refl _,id,λ_ B _=>.inl B⟩;have hR:=q.rr q.i0.2.2.2.2 (Int.le_refl _);refine⟨y,h.still C N.1 (λB=>(N.2 B).imp id (λA h7=>oG)) (λM=>.inl M) (λ_ _=>rfl) (λB=>?_) ?_ (λr c=>?_)⟩;all_goals rcases BQ (x j) m (by rw[hR];exact hi.ny d s L.2.2.2.2 (Int.le_refl _)) oG oG with w|⟨w1,w2,w3,w4,w5,w6,w7,w8⟩|⟨w1,w2,w3,w4,w5,w6⟩
 ·rcases w.on with A|A;·omega
  ·exact⟨A.1,A.2,by rw[b,w.res,a],rfl⟩
 ·omega
 ·exact⟨w2,w3,by rw[b,w5,a],rfl⟩
 ·rw[b,w.res,a];simp
 ·rw[b,w7,a];simp
 ·rw[b,w5,a];simp
 ·rw[b,w.res,a]at c;simp at c
 ·rw[b,w7,a]at c;have c:r=⟨(x j).on,(x j).ow.bl,(x j).ow.v,(x j).ow.e,(x j).ow.q⟩:=by simpa using c
  obtain⟨X,W,t,o4,U,Q⟩:=(h.nd d s).on w1;simp only[vws,Nd.vw]at X W t o4 U Q;have E:=(q.o1 w1).1;have hP:=(q.t1 E).2.1;have D:u'.R (x j).ow.e=u.R (x j).ow.e:=by rw[t];exact hu.R q.i0.2.2.2.2 (V j d s)
  subst c;refine⟨⟨X,(o4.2.2.2.1 W).2.2,λi i0 i1 i2 i3=>?_⟩,by show(u.R (x j).ow.e).P=_;rw[t];exact hP,λr' F=>Q r' (List.mem_append_left _ F),U⟩;have l:bit (u'.R (x j).ow.e).S i:=i2;have O:(u'.R (x j).ow.e).P≠i+1:=i3;rw[D,t]at l O;obtain⟨_,p⟩:=w8 i i0 oG (by rw[hR];exact l) (by rw[q.i0.1];omega);rcases p with p|p;·obtain⟨_,_,_,m',m1,m2,m3,m4,m5⟩:=(q.o1 w1).2.2.2.2 _ p;exact⟨m',m1,m2,m3,m4,m5⟩
  ·exact⟨m,M,hk,p.symm,w2,w3⟩
 ·rw[b,w5,a]at c;simp at c
def LI.oper(h:LI n nb (vws x) sn u lv ops rs rd j [] y)(hi:Inv n nb x sn g u)(M:0<=j)(N:j<n)(bl v:Int)(ok:Bool)(hh:(x j).jv ((x j).blk bl)=0)(f:(x j).res=[])(hN:Nx n nb x sn u j ((x j).operate bl v ok).1 ((x j).operate bl v ok).2.1 u')(D:pend=((x j).operate bl v ok).1.res){os:List As}(hF:v=(x j).d.bk bl∨v=ops.length+1/\os≠[])(S:ok=true->∃o∈os,o.nd=j/\o.lf=lv j/\o.op=(x j).ops+1/\(o.rd=false->v=ops.length+1)):∃y',LI n nb (vws (upd x j ((x j).operate bl v ok).1)) (λy=>sn y∨∃z∈((x j).operate bl v ok).2.1,y=z.2) u' lv (ops++os) rs rd j pend y':=by
 obtain⟨g',K,hK,hu,h'⟩:=hN;have q:=hi.own M N;obtain⟨c1,R,A,c6,X,c8⟩:=sV hh;obtain⟨c3,c4⟩:0<=bl/\bl<nb:=by unfold Nd.blk at A;rw[q.i0.2.2.2.1]at A;simpa using A
 have t:=q.t1 R;have a3:=hi.nn;have hR:=q.rr q.i0.2.2.2.2 (Int.le_refl _);have a1:(ops++os).length=ops.length+os.length:=List.length_append;have H:v=(x j).d.bk bl∨v=ops.length+1/\ops.length+1<=(ops++os).length:=hF.imp id (λa=>⟨a.1,by have:=List.length_pos_iff.2 a.2;omega⟩);have L:∀o∈ops,o∈ops++os:=λo S=>List.mem_append_left _ S;unfold Nd.operate at h' D⊢;rw[if_neg (by simp[hh])]at h' D⊢;cases ok
 ·simp only[Bool.false_eq_true,if_false]at h' D⊢;have a0:pend=[]:=by rw[D];exact f
  subst a0;have C:Cv n nb x sn g u K j ((x j).fall {Ms.nil with k:=7,e:=(x j).d.ep,q:=(x j).d.last+1,bl:=bl,v:=v}) _ g' u':=⟨⟨M,N⟩,hi,h',hK,hu,Int.le_refl _,.inl,λm hm _=>hm.imp id (λ⟨z,c,_⟩=>by simp at c)⟩;exact h.raise C R X False False (B:=bl) (V:=v) H oG L (λa=>a.elim) oG (m:={Ms.nil with k:=7,e:=(x j).d.ep,q:=(x j).d.last+1,bl:=bl,v:=v}) (.inl rfl) ⟨rfl,rfl⟩ (λ_=>⟨rfl,c3,rfl⟩) (λa=>by simp at a) (.inr ⟨id,rfl,rfl,rfl⟩) (λ{z} c=>c.imp id (λ⟨z,c,_⟩=>by simp at c)) (λ_ _=>rfl) (λa=>by simp[Nd.fall,Nd.stand]at a) (Nat.zero_le _) sG
 ·simp only[if_true]at h' D⊢;obtain⟨o,o1,o2,o3,o4,o5⟩:=S rfl;obtain⟨z,c⟩:∃z:Nd,z={(x j).save {Ms.nil with k:=7,e:=(x j).d.ep,q:=(x j).d.last+1,bl:=bl,v:=v} true with ops:=(x j).ops+1,on:=(x j).ops+1,ow:={Ms.nil with k:=7,e:=(x j).d.ep,q:=(x j).d.last+1,bl:=bl,v:=v},oa:=[]}:=⟨_,rfl⟩;rw[←c]at h' D⊢;have e:=step79 (x j).d (m:={Ms.nil with k:=7,e:=(x j).d.ep,q:=(x j).d.last+1,bl:=bl,v:=v}) (.inl rfl);have fd:z.finish.d=(x j).d.step {Ms.nil with k:=7,e:=(x j).d.ep,q:=(x j).d.last+1,bl:=bl,v:=v}:=by rw[c];unfold Nd.finish;split<;>rfl
  have Q:z.finish.down=false:=by rw[c];unfold Nd.finish;split<;>exact c1
  have a2:z.finish.ph=0:=by rw[c];unfold Nd.finish;split<;>exact X
  rw[←fd]at e;obtain⟨e1,e2,e3,e4,e5⟩:=e;have W:z.finish.d.seen=(x j).d.ep:=e4;have U:z.finish.d.ep=(x j).d.ep:=by simp[Du.ep,e1]
  have F:∀w∈z.tell {Ms.nil with k:=7,e:=(x j).d.ep,q:=(x j).d.last+1,bl:=bl,v:=v} z.missing,w.2.k=7/\w.2.e=(x j).d.ep/\w.2.q=(x j).d.last+1/\w.2.bl=bl/\w.2.v=v/\w.2.zs=[]:=i9 λi=>⟨rfl,rfl,rfl,rfl,rfl,rfl⟩;have C:Cv n nb x sn g u K j z.finish _ g' u':=⟨⟨M,N⟩,hi,h',hK,hu,oG,.inl,λm hm hk=>hm.imp id (λ⟨w,p,a⟩=>by have:=F w p;rw[a]at hk;omega)⟩;have s:(0<z.finish.on->z.finish.on=(x j).ops+1/\z.finish.ow=z.ow/\pend=[])/\(pend=[]∨(pend=[⟨(x j).ops+1,bl,v,(x j).d.ep,(x j).d.last+1⟩]/\z.all)):=by
   rw[D];unfold Nd.finish;split
   ·next l=>
    refine⟨λa=>by simp at a,.inr ⟨?_,wL ?_ ?_ ?_ l⟩⟩;·rw[c];simp[Nd.save,f]
    ·have:z.d.rc z.d.ep=(x j).d.rc (x j).d.ep:=by rw[c];simp[Nd.save,Du.step,Du.ep,Du.rc]
     rw[this,hR];exact hi.ny M N q.i0.2.2.2.2 (Int.le_refl _)
    ·have:z.id=(x j).id:=by rw[c];rfl
     rw[this,q.i0.1];omega
    ·have:z.nodes=(x j).nodes:=by rw[c];rfl
     rw[this,q.i0.2.2.1];omega
   ·refine⟨λ_=>⟨by rw[c],rfl,?_⟩,.inl ?_⟩<;>(rw[c];exact f)
  refine h.raise C R X True True (B:=bl) (V:=v) H oG L (λ_=>⟨trivial,c3,c4⟩) oG (m:={Ms.nil with k:=7,e:=(x j).d.ep,q:=(x j).d.last+1,bl:=bl,v:=v}) (.inl rfl) ⟨rfl,rfl⟩ (λ_=>⟨rfl,c3,rfl⟩) (λa=>by simp at a) (.inl ⟨trivial,λb _ _=>?_,W,e5,U,Q,λa=>oG,λa=>oG⟩) (λ{w} p=>?_) (λ_ _=>rfl) (λa=>?_) ?_ (λr E=>?_);·rw[fd];simp[Du.step]
  ·rcases p with p|⟨w,p,rfl⟩;·exact .inl p
   ·exact .inr (F w p)
  ·obtain⟨k1,k2,k3⟩:=s.1 a;rw[k1,k2,c];exact⟨trivial,rfl,rfl,rfl,rfl,rfl,k3,o,List.mem_append_right _ o1,o2,o3,o4,o5⟩
  ·rcases s.2 with a|a;·rw[a];simp
   ·rw[a.1];simp
  ·rcases s.2 with a|⟨a,l⟩;·rw[a]at E;simp at E
   ·rw[a]at E;have E:r=⟨(x j).ops+1,bl,v,(x j).d.ep,(x j).d.last+1⟩:=by simpa using E
    subst E;refine⟨trivial,rfl,rfl,rfl,rfl,λi i0 i1 i2=>?_,o,List.mem_append_right _ o1,o2,o3,o4,o5⟩;apply Classical.byContradiction;intro O;have e9:z.d.rc z.d.ep=(x j).d.rc (x j).d.ep:=by rw[c];simp[Nd.save,Du.step,Du.ep,Du.rc]
    have h8:=(l i i0 oG (by rw[e9,hR];exact i2) (by rw[c];show i≠(x j).id;rw[q.i0.1];exact O)).2;rw[c]at h8;simp at h8
end
end AG
namespace AG
section
variable {n nb:Int} {x:Int->Nd} {v:Int->Vw} {sn:Ms->Prop} {g:Gh} {u:Gv} {j:Int} {y:Lv} {lv:Int->Int} {ops:List As} {rs:List Rs} {rd:List Bool} {k:Int} {pend:List Rs}
def vws_at(x:Int->Nd)(j:Int)(a:Nd)(h:a.vw=(x j).vw):vws (upd x j a)=vws x:=by
 funext i;unfold vws;by_cases hi:i=j;·subst hi;rw[upd_self];exact h
 ·rw[upd_ne hi]
def LI.free(h:LI n nb v sn u lv ops rs rd k [] y)(a:Int):LI n nb v sn u lv ops rs rd a [] y:=⟨h.tk,h.w1,h.wf,h.dd,h.om,h.ko,h.nd,h.ms,h.re,h.di,h.rl,sG⟩
def LI.more(h:LI n nb v sn u lv ops rs rd k pend y)(o:As):LI n nb v sn u lv (ops++[o]) rs rd k pend y:=by
 have m:(ops.length:Int)<=(ops++[o]).length:=by simp;omega
 have i:=Lx.refl (ops.length:Int) y 0;have l:∀{z},z∈ops->z∈ops++[o]:=λB=>List.mem_append_left _ B;refine⟨h.tk,h.w1,λa b c d e=>(h.wf a b c d e).jc i m,h.dd,h.om,h.ko,λ{j} j0 j1=>?_,h.ms,h.re,h.di,h.rl,λr s=>?_⟩;·have q:=h.nd j0 j1;refine⟨λa b=>(q.v1 a b).jc i m,q.hl,q.pt,q.n2,q.tr,q.ac,λw=>?_⟩;obtain⟨a1,x,A,p,⟨z,g,f⟩,t⟩:=q.on w;exact⟨a1,x,A,p,⟨z,l g,f⟩,t⟩
 ·obtain⟨z,g,f⟩:=h.pe r s;exact⟨z,l g,f⟩
def LI.told{r:Rs}(h:LI n nb v sn u lv ops rs rd k [r] y)(D:0<r.op)(N:ops.Pairwise (λa b=>¬(a.nd=b.nd/\a.lf=b.lf/\a.op=b.op/\0<a.op))){p:Nat}(t:p<ops.length)(f:ops[p].nd=k/\ops[p].lf=lv k/\ops[p].op=r.op):LI n nb v sn u lv (ops.set p {ops[p] with dn:=true}) (rs++[r]) (rd++[ops[p].rd]) k [] y:=by
 have C:(ops.set p {ops[p] with dn:=true}).length=ops.length:=List.length_set;have up:∀{Q:As->Prop},(∀z:As,Q z->Q {z with dn:=true})->(∃z∈ops,Q z)->∃z∈ops.set p {ops[p] with dn:=true},Q z:=by
  rintro Q E ⟨z,w,d⟩;obtain⟨i,hi,c⟩:=List.mem_iff_getElem.1 w;by_cases m:i=p;·subst m;exact⟨_,List.mem_set t _,by rw[c];exact E z d⟩
  ·exact⟨z,List.mem_iff_getElem.2 ⟨i,by simpa using hi,by rw[List.getElem_set_ne (Ne.symm m)];exact c⟩,d⟩
 have e:rs++[r]++[]=rs++[r]:=List.append_nil _;refine⟨h.tk,h.w1,by rw[C];exact h.wf,h.dd,h.om,h.ko,λ{j} j0 j1=>?_,h.ms,by rw[e];exact h.re,by rw[e];exact h.di,⟨by simp[h.rl.1],λi hi d=>?_⟩,sG⟩;·have q:=h.nd j0 j1;rw[C,e];refine⟨q.v1,q.hl,q.pt,q.n2,q.tr,q.ac,λd=>?_⟩;obtain⟨a1,R,H,M,K,O⟩:=q.on d;exact⟨a1,R,H,M,up (λz w=>w) K,O⟩
 ·by_cases g:i<rs.length;·rw[List.getElem?_append_left (by rw[h.rl.1];exact g)]at d;rw[List.getElem_append_left g];exact h.rl.2 i g d
  ·have:i=rs.length:=by simp at hi;omega
   subst this;rw[List.getElem?_append_right (by rw[h.rl.1];exact Nat.le_refl _),h.rl.1]at d;simp at d;rw[List.getElem_append_right r_];simp only[Nat.sub_self,List.getElem_singleton];obtain⟨o,L,A,B,x,F⟩:=h.pe r sG;refine F ?_;obtain⟨i,hi,c⟩:=List.mem_iff_getElem.1 L;have l:=List.pairwise_iff_getElem.1 N;rcases Nat.lt_trichotomy p i with s|s|s;·exact absurd ⟨by rw[f.1,c,A],by rw[f.2.1,c,B],by rw[f.2.2,c,x],by rw[f.2.2];exact D⟩ (l p i t hi s)
   ·subst s;rw[←c];exact d
   ·exact absurd ⟨by rw[f.1,c,A],by rw[f.2.1,c,B],by rw[f.2.2,c,x],by rw[c,x];exact D⟩ (l i p hi t s)
def Lv.none:Lv:=⟨λ_=>False,λ_=>0,λ_ _ _=>0,λ_=>0,λ_=>0,λ_ _=>0,λ_ _ _=>False,λ_ _ _=>False⟩
def LI.first(n nb:Int)(a:∀j,0<=j->j<n->x j=Nd.first j n nb)(k:Int):LI n nb (vws x) (λ_=>False) (Gv.none n) (λ_=>0) [] [] [] k [] Lv.none:=by
 refine⟨λh=>h.elim,λh=>h.elim,λh=>h.elim,λh=>h.elim,λh=>h.elim,λh=>h.elim,λ{j} j0 j1=>?_,λh=>h.elim,sG,sG,⟨rfl,λi h=>by simp at h⟩,sG⟩;unfold vws;rw[a j j0 j1];refine⟨λ_ _=>⟨by simp[vws,Nd.vw,Nd.first,Du.first],λh=>by simp[vws,Nd.vw,Nd.first,Du.first]at h⟩,λh=>h.elim,λh=>?_,λh=>h.elim,λh=>?_,λh=>?_,λh=>?_⟩;·simp[vws,Nd.vw,Nd.first,Du.first]at h
 ·simp[vws,Nd.vw,Nd.first]at h
 ·simp[vws,Nd.vw,Nd.first]at h
 ·simp[vws,Nd.vw,Nd.first]at h
def LI.dis(h:LI n nb v sn u lv ops rs rd k [] y):Dis rs:=by
 have b:=h.di;rw[List.append_nil]at b;have a:=List.pairwise_iff_getElem.1 b;intro i j hi f l;have g:¬(rs[i].e=rs[j].e/\rs[i].q=rs[j].q):=by
  rcases Nat.lt_or_ge i j with c|c;·exact a i j hi f c
  ·exact λd=>a j i f hi oG ⟨d.1.symm,d.2.symm⟩
 unfold lrs lat;omega
def LI.row(h:LI n nb v sn u lv ops rs rd k [] y){ix:List Nat}(hs:Sel rs ix){b:Int}(b0:0<=b)(X:b<nb):rowsF b ((ix.map (λi=>rs.getD i ⟨0,0,0,0,0⟩)).zip (ix.map (λi=>rd.getD i false))) [0] 0=true:=by
 have c:∀i (hi:i<rs.length),y.op rs[i].e rs[i].q rs[i].bl/\rs[i].v=y.W rs[i].e rs[i].q rs[i].bl/\∀z,0<=z->z<n->bit (u.R rs[i].e).S z->(u.R rs[i].e).P≠z+1->∃m,sn m/\m.k=8/\m.f=z/\m.e=rs[i].e/\m.q=rs[i].q:=λi hi=>h.re rs[i] (List.mem_append_left _ (List.getElem_mem hi));have A:uV b y.fe y.fq ((ix.map (λi=>rs.getD i ⟨0,0,0,0,0⟩)).zip (ix.map (λi=>rd.getD i false))):=by
  refine hs.row h.rl.1 (λi hi d t=>?_) (λi j hi U d g M=>?_) (λi hi d p=>?_);·obtain⟨l,s,_⟩:=c i hi;obtain⟨⟨o,L,r,B,w⟩,_⟩:=h.om l;have a:=(h.wf o oG r B w).2;rw[←s]at a;exact a t
  ·obtain⟨l,s,C⟩:=c i hi;obtain⟨s1,s2,_⟩:=c j U;obtain⟨⟨o,L,r,B,w⟩,_⟩:=h.om s1;have a:=h.beh l o oG r (by unfold lrs lat at M;unfold lat;omega);rw[d,←g,←s2]at a;rcases a with a|⟨z,Q,K,H,N,_,F⟩
   ·rcases a with a|a;·left;rw[a,s,g,d]
    ·exact .inr a
   ·obtain⟨m,m1,D,E,V⟩:=C z Q K H N;exact absurd V (F m m1 D E)
  ·exact h.rl.2 i hi (by rw[List.getElem?_eq_getElem (by rw[h.rl.1];exact hi),p])
 exact wU _ _ _ A sG (λx _ _ a=>by simpa using a) (λx O d p a=>(A.wr x O d p).1 (by simpa using a)) sG (λv t=>.inl (by simpa using t))
end
end AG
end Go.Proofs.YtdcainmlcpafbaaGreatDoor
