import Derived.Test.YtdcainmlcpafbaaGreatDoorJ20
set_option linter.all false
set_option maxRecDepth 20000
namespace Go.Proofs.YtdcainmlcpafbaaGreatDoor
namespace AG
abbrev V:=Int×Int
def kZ(n:Int)(l:List Int):Prop:=l.Nodup/\∀j∈l,0<=j/\j<n
theorem zM:∀(n:Nat) (l:List Int),kZ n l->l.length<=n
 |0,l,h=>by
  cases l with
  |nil=>simp
  |cons a t=>have:=h.2 a (by simp);omega
 |n+1,l,h=>by
  have f:kZ n (l.erase (n:Int)):=by
   refine⟨h.1.erase _,fun j c=>?_⟩;have i:=h.2 j (List.mem_of_mem_erase c);have k:j≠(n:Int):=by intro e;subst e;exact(List.Nodup.not_mem_erase h.1) c
   omega
  have d:=zM n _ f;by_cases b:(n:Int)∈l;·have g:=List.length_erase_of_mem b;have:=List.length_pos_of_mem b;omega
  ·rw[List.erase_of_not_mem b]at d;omega
def uD(n:Int)(l:List Int):Prop:=kZ n l/\0<=n/\n<2*(l.length:Int)
theorem qZ{n:Int}{l m:List Int}(h:uD n l)(h':uD n m):∃j,j∈l/\j∈m:=by apply Classical.byContradiction;intro p;have c:∀a∈l,∀b∈m,a≠b:=fun a g b e d=>p ⟨a,g,d ▸ e⟩;have f:kZ n (l++m):=⟨List.nodup_append.2 ⟨h.1.1,h'.1.1,c⟩,fun j i=>(List.mem_append.1 i).elim (h.1.2 j) (h'.1.2 j)⟩;obtain⟨k,rfl⟩:=Int.eq_ofNat_of_zero_le h.2.1;have o:=zM k _ f;have q:=h.2.2;have r:=h'.2.2;rw[List.length_append]at o;omega
structure Gh where
  acc:Int->Int->Int->V->Prop
  jl:Int->Int->V->Prop
  jg:Int->Int->Int->Int->V->Prop
structure Px(n:Int)(g:Gh):Prop where
  a1:∀{j e b v},g.acc j e b v->g.jl e b v
  a2:∀{e b v v'},g.jl e b v->g.jl e b v'->v=v'
  a3:∀{j e b wa v b' v'},g.jg j e b wa v->g.acc j e b' v'->b'<=wa∨b<=b'
  a4:∀{j e b wa v},g.jg j e b wa v->0<wa->g.acc j e wa v
  a5:∀{e b v},g.jl e b v->∃l:List Int,uD n l/\∃wx:Int,wx<b/\(∀j∈l,∃wa u,g.jg j e b wa u/\wa<=wx)/\(wx<=0∨∃j,g.jg j e b wx v)
  a6:∀{e b v},g.jl e b v->0<b
def kR(n:Int)(g:Gh)(e b:Int)(v:V):Prop:=∃l,uD n l/\∀j∈l,g.acc j e b v
theorem Px.safe{n:Int}{g:Gh}(h:Px n g){e d:Int}{v':V}(D:kR n g e d v'):∀(k:Nat) (b:Int) (v:V),b.toNat<=k->d<=b->g.jl e b v->v=v':=by
 obtain⟨E,a,c⟩:=D;have B:0<d:=by obtain⟨j,f,_⟩:=qZ a a;exact h.a6 (h.a1 (c j f))
 intro k;induction k with
 |zero=>intro b v z y m;have:=h.a6 m;omega
 |succ k ih=>
  intro b v z y m;by_cases r:b=d;·obtain⟨j,f,_⟩:=qZ a a;subst r;exact h.a2 m (h.a1 (c j f))
  ·obtain⟨l,w,s,x,A,o⟩:=h.a5 m;obtain⟨j,f,p⟩:=qZ w a;obtain⟨wa,u,q,C⟩:=A j f;have F:=h.a3 q (c j p);have t:d<=s:=by omega
   rcases o with o|⟨i,o⟩;·omega
   ·exact ih s v (by omega) t (h.a1 (h.a4 o (by omega)))
theorem Px.one{n:Int}{g:Gh}(h:Px n g){e b c:Int}{v v':V}(k:kR n g e b v)(f:kR n g e c v'):v=v':=by
 have d:∀{b c:Int} {v v':V},kR n g e b v->kR n g e c v'->c<=b->v=v':=by intro b c v v' q m a;obtain⟨l,i,o⟩:=q;obtain⟨j,p,_⟩:=qZ i i;exact h.safe m b.toNat b v r_ a (h.a1 (o j p))
 rcases Int.le_total c b with a|a;·exact d k f a
 ·exact(d f k a).symm
end AG
namespace AG
structure Vo where
  ep:Int
  pr:Int->Int
  ac:Int->Int
  vl:Int->V
  ph:Int
  ba:Int
  go:V
  fw:Int
  fv:V
  an:List Int
structure Vx(n:Int)(x:Int->Vo)(g:Gh):Prop extends Px n g where
  n1:∀{j e b v},g.acc j e b v->e<(x j).ep∨b<=(x j).ac e
  n2:∀{j e},0<=j->j<n->(x j).ep<=e->0<(x j).ac e->g.acc j e ((x j).ac e) ((x j).vl e)
  lm:∀{j e},0<=j->j<n->(x j).ep<=e->0<=(x j).ac e/\(x j).ac e<=(x j).pr e
  n3:∀{j e b wa v},g.jg j e b wa v->wa<=b/\(e<(x j).ep∨b<=(x j).pr e)
  n4:∀{e b v},g.jl e b v->0<=b%5/\b%5<n/\(e<(x (b%5)).ep∨b<=(x (b%5)).pr e)
  n5:∀{j},0<=j->j<n->0<(x j).ba->(x j).ba%5=j/\(x j).ba<=(x j).pr (x j).ep
  n6:∀{j v},0<=j->j<n->(x j).ph=2->0<(x j).ba->¬g.jl (x j).ep (x j).ba v
  n7:∀{j},0<=j->j<n->(x j).ph=2->0<(x j).ba->kZ n (x j).an/\(∀i∈(x j).an,∃wa u,g.jg i (x j).ep (x j).ba wa u/\wa<=(x j).fw)/\((x j).fw<=0∨∃i,g.jg i (x j).ep (x j).ba (x j).fw (x j).fv)
  n8:∀{j},0<=j->j<n->(x j).ph=3->0<(x j).ba->g.jl (x j).ep (x j).ba (x j).go/\kZ n (x j).an/\∀i∈(x j).an,g.acc i (x j).ep (x j).ba (x j).go
  r1:∀{j e b v},g.acc j e b v->0<=j/\j<n
  r2:∀{j e b wa v},g.jg j e b wa v->0<=j/\j<n
def upd{α:Type}(x:Int->α)(j:Int)(a:α):Int->α:=fun i=>if i=j then a else x i
@[simp] theorem upd_self{α:Type}(x:Int->α)(j:Int)(a:α):upd x j a j=a:=by simp[upd]
theorem LR{α β:Type}(f:α->β)(x:Int->α)(j:Int)(a:α):(fun i=>f (upd x j a i))=upd (fun i=>f (x i)) j (f a):=by funext i;unfold upd;split<;>rfl
theorem upd_ne{α:Type}{x:Int->α}{i j:Int}{a:α}(h:i≠j):upd x j a i=x i:=by simp[upd,h]
theorem Vx.idle{n:Int}{x:Int->Vo}{g:Gh}(h:Vx n x g){j:Int}{a:Vo}(o:a.ep=(x j).ep)(d:a.pr=(x j).pr)(p:a.ac=(x j).ac)(q:a.vl=(x j).vl)(c:a.ba<=0):Vx n (upd x j a) g:=by
 have E:∀i,(upd x j a i).ep=(x i).ep/\(upd x j a i).pr=(x i).pr/\(upd x j a i).ac=(x i).ac/\(upd x j a i).vl=(x i).vl:=by
  intro i;by_cases hi:i=j;·subst hi;simp[o,d,p,q]
  ·rw[upd_ne hi];simp
 have B:∀i,0<(upd x j a i).ba->upd x j a i=x i:=by
  intro i;by_cases hi:i=j;·subst hi;simp;omega
  ·intro _;exact upd_ne hi
 refine{toPx:=h.toPx,n1:=?_,n2:=?_,lm:=?_,n3:=?_,n4:=?_,n5:=?_,n6:=?_,n7:=?_,n8:=?_,r1:=h.r1,r2:=h.r2};·intro i e b v m;rw[(E i).1,(E i).2.2.1];exact h.n1 m
 ·intro i e;rw[(E i).1,(E i).2.2.1,(E i).2.2.2];exact h.n2
 ·intro i e;rw[(E i).1,(E i).2.2.1,(E i).2.1];exact h.lm
 ·intro i e b wa v m;rw[(E i).1,(E i).2.1];exact h.n3 m
 ·intro e b v m;rw[(E _).1,(E _).2.1];exact h.n4 m
 ·intro i f k c;have l:=B i c;rw[l]at c⊢;exact h.n5 f k c
 ·intro i v f k d c;have l:=B i c;rw[l]at c d⊢;exact h.n6 f k d c
 ·intro i f k d c;have l:=B i c;rw[l]at c d⊢;exact h.n7 f k d c
 ·intro i f k d c;have l:=B i c;rw[l]at c d⊢;exact h.n8 f k d c
def eC{α:Type}(f:Int->α)(e:Int)(a:α):Int->α:=fun i=>if i=e then a else f i
theorem Vx.promise{n:Int}{x:Int->Vo}{g:Gh}(h:Vx n x g){j e b:Int}(s:0<=j)(t:j<n)(z:(x j).ep<=e)(C:(x j).pr e<=b):Vx n (upd x j {x j with pr:=eC (x j).pr e b}) {g with jg:=fun i f o wa v=>g.jg i f o wa v∨(i=j/\f=e/\o=b/\wa=(x j).ac e/\v=(x j).vl e)}:=by
 have U:∀i,(upd x j {x j with pr:=eC (x j).pr e b} i)={x i with pr:=if i=j then eC (x j).pr e b else(x i).pr}:=by
  intro i;by_cases hi:i=j;·subst hi;simp
  ·rw[upd_ne hi];simp[hi]
 have P:∀i f,(x i).ep<=f->(x i).pr f<=(if i=j then eC (x j).pr e b else(x i).pr) f:=by
  intro i f _;by_cases hi:i=j
  ·subst hi;simp only[if_true,eC];split;·next a=>subst a;exact C
   ·exact Int.le_refl _
  ·simp[hi]
 have y:∀i f c,f<(x i).ep∨c<=(x i).pr f->f<(x i).ep∨c<=(if i=j then eC (x j).pr e b else(x i).pr) f:=by
  intro i f c a;by_cases r:f<(x i).ep;·exact .inl r
  ·exact .inr (Int.le_trans (a.resolve_left r) (P i f (by omega)))
 have B:=h.lm s t z;refine{a1:=h.a1,a2:=h.a2,a3:=?_,a4:=?_,a5:=?_,a6:=h.a6,n1:=?_,n2:=?_,lm:=?_,n3:=?_,n4:=?_,n5:=?_,n6:=?_,n7:=?_,n8:=?_,r1:=h.r1,r2:=?_}
 ·intro i f o wa v R Q a A;rcases a with a|⟨rfl,rfl,rfl,rfl,rfl⟩;·exact h.a3 a A
  ·have:=h.n1 A;omega
 ·intro i f o wa v a w;rcases a with a|⟨rfl,rfl,rfl,rfl,rfl⟩;·exact h.a4 a w
  ·exact h.n2 s t z w
 ·intro f o v a;obtain⟨l,M,H,r,E,N⟩:=h.a5 a;exact⟨l,M,H,r,fun i hi=>let ⟨wa,u,h2,h3⟩:=E i hi;⟨wa,u,.inl h2,h3⟩,N.imp id (fun⟨i,h2⟩=>⟨i,.inl h2⟩)⟩
 ·intro i f o v a;rw[U i];exact h.n1 a
 ·intro i f m d;rw[U i];exact h.n2 m d
 ·intro i f m d;rw[U i];intro q;exact⟨(h.lm m d q).1,Int.le_trans (h.lm m d q).2 (P i f q)⟩
 ·intro i f o wa v a;rw[U i];rcases a with a|⟨rfl,rfl,rfl,rfl,rfl⟩;·exact⟨(h.n3 a).1,y i f o (h.n3 a).2⟩
  ·exact⟨by omega,.inr (by simp[eC])⟩
 ·intro f o v a;rw[U _];exact⟨(h.n4 a).1,(h.n4 a).2.1,y _ f o (h.n4 a).2.2⟩
 ·intro i m d;rw[U i];intro p;exact⟨(h.n5 m d p).1,Int.le_trans (h.n5 m d p).2 (P i _ (Int.le_refl _))⟩
 ·intro i v m d;rw[U i];exact h.n6 m d
 ·intro i m d;rw[U i];intro L p;obtain⟨F,O,K⟩:=h.n7 m d L p;exact⟨F,fun k D=>let ⟨wa,u,h2,h3⟩:=O k D;⟨wa,u,.inl h2,h3⟩,K.imp id (fun⟨k,h2⟩=>⟨k,.inl h2⟩)⟩
 ·intro i m d;rw[U i];exact h.n8 m d
 ·intro i f o wa v a;rcases a with a|⟨rfl,rfl,rfl,rfl,rfl⟩;·exact h.r2 a
  ·exact⟨s,t⟩
theorem Vx.accept{n:Int}{x:Int->Vo}{g:Gh}(h:Vx n x g){j e b:Int}{v:V}(w:0<=j)(y:j<n)(L:(x j).ep<=e)(C:(x j).pr e<=b)(z:g.jl e b v):Vx n (upd x j {x j with pr:=eC (x j).pr e b,ac:=eC (x j).ac e b,vl:=eC (x j).vl e v}) {g with acc:=fun i f m v'=>g.acc i f m v'∨(i=j/\f=e/\m=b/\v'=v)}:=by
 have U:∀i,(upd x j {x j with pr:=eC (x j).pr e b,ac:=eC (x j).ac e b,vl:=eC (x j).vl e v} i)={x i with pr:=if i=j then eC (x j).pr e b else(x i).pr,ac:=if i=j then eC (x j).ac e b else(x i).ac,vl:=if i=j then eC (x j).vl e v else(x i).vl}:=by
  intro i;by_cases hi:i=j;·subst hi;simp
  ·rw[upd_ne hi];simp[hi]
 have B:=h.lm w y L;have K:=h.a6 z;have P:∀i f,(x i).pr f<=(if i=j then eC (x j).pr e b else(x i).pr) f:=by
  intro i f;by_cases hi:i=j
  ·subst hi;simp only[if_true,eC];split;·next l=>subst l;exact C
   ·exact Int.le_refl _
  ·simp[hi]
 have A:∀i f c,f<(x i).ep∨c<=(x i).pr f->f<(x i).ep∨c<=(if i=j then eC (x j).pr e b else(x i).pr) f:=
  fun i f c l=>l.imp id (fun l=>Int.le_trans l (P i f))
 refine{a1:=?_,a2:=h.a2,a3:=?_,a4:=?_,a5:=h.a5,a6:=h.a6,n1:=?_,n2:=?_,lm:=?_,n3:=?_,n4:=?_,n5:=?_,n6:=?_,n7:=?_,n8:=?_,r1:=?_,r2:=h.r2}
 ·intro i f m v' l;rcases l with l|⟨rfl,rfl,rfl,rfl⟩;·exact h.a1 l
  ·exact z
 ·intro i f m wa u O N q t;rcases t with t|⟨rfl,rfl,rfl,rfl⟩;·exact h.a3 q t
  ·have:=(h.n3 q).2;omega
 ·intro i f m wa u q H;exact .inl (h.a4 q H)
 ·intro i f m v' l;rw[U i];rcases l with l|⟨rfl,rfl,rfl,rfl⟩
  ·have:=h.n1 l;by_cases hi:i=j
   ·subst hi;simp only[if_true,eC];split;·next hx=>subst hx;omega
    ·exact this
   ·simpa[hi] using this
  ·simp[eC]
 ·intro i f d a;rw[U i];by_cases hi:i=j
  ·subst hi;simp only[if_true,eC];intro o;split;·next hx=>intro _;exact .inr ⟨trivial,hx,rfl,rfl⟩
   ·intro s;exact .inl (h.n2 d a o s)
  ·simp only[hi,if_false];intro o s;exact .inl (h.n2 d a o s)
 ·intro i f d a;rw[U i];by_cases hi:i=j
  ·subst hi;simp only[if_true,eC];intro o;split;·omega
   ·exact h.lm d a o
  ·simp only[hi,if_false];exact h.lm d a
 ·intro i f m wa u q;rw[U i];exact⟨(h.n3 q).1,A i f m (h.n3 q).2⟩
 ·intro f m u l;rw[U _];exact⟨(h.n4 l).1,(h.n4 l).2.1,A _ f m (h.n4 l).2.2⟩
 ·intro i d a;rw[U i];intro p;exact⟨(h.n5 d a p).1,Int.le_trans (h.n5 d a p).2 (P i _)⟩
 ·intro i u d a;rw[U i];exact h.n6 d a
 ·intro i d a;rw[U i];exact h.n7 d a
 ·intro i d a;rw[U i];intro r p;obtain⟨E,M,F⟩:=h.n8 d a r p;exact⟨E,M,fun k D=>.inl (F k D)⟩
 ·intro i f m v' l;rcases l with l|⟨rfl,rfl,rfl,rfl⟩;·exact h.r1 l
  ·exact⟨w,y⟩
theorem Vx.mine{n:Int}{x:Int->Vo}{g:Gh}(h:Vx n x g){j:Int}{a:Vo}(A:0<=j)(B:j<n)(s:a.ep=(x j).ep)(l:a.pr=(x j).pr)(k:a.ac=(x j).ac)(t:a.vl=(x j).vl)(z:0<a.ba->a.ba%5=j/\a.ba<=a.pr a.ep)(r:a.ph=2->0<a.ba->∀v,¬g.jl a.ep a.ba v)(o:a.ph=2->0<a.ba->kZ n a.an/\(∀i∈a.an,∃wa u,g.jg i a.ep a.ba wa u/\wa<=a.fw)/\(a.fw<=0∨∃i,g.jg i a.ep a.ba a.fw a.fv))(w:a.ph=3->0<a.ba->g.jl a.ep a.ba a.go/\kZ n a.an/\∀i∈a.an,g.acc i a.ep a.ba a.go):Vx n (upd x j a) g:=by
 have E:∀i,(upd x j a i).ep=(x i).ep/\(upd x j a i).pr=(x i).pr/\(upd x j a i).ac=(x i).ac/\(upd x j a i).vl=(x i).vl:=by
  intro i;by_cases hi:i=j;·subst hi;simp[s,l,k,t]
  ·rw[upd_ne hi];simp
 have S:∀(Q:Vo->Prop) i,(i=j->Q a)->(i≠j->Q (x i))->Q (upd x j a i):=by
  intro Q i k p;by_cases hi:i=j;·have:=k hi;subst hi;simpa using this
  ·rw[upd_ne hi];exact p hi
 refine{toPx:=h.toPx,n1:=?_,n2:=?_,lm:=?_,n3:=?_,n4:=?_,n5:=?_,n6:=?_,n7:=?_,n8:=?_,r1:=h.r1,r2:=h.r2};·intro i e b v f;rw[(E i).1,(E i).2.2.1];exact h.n1 f
 ·intro i e;rw[(E i).1,(E i).2.2.1,(E i).2.2.2];exact h.n2
 ·intro i e;rw[(E i).1,(E i).2.2.1,(E i).2.1];exact h.lm
 ·intro i e b wa v f;rw[(E i).1,(E i).2.1];exact h.n3 f
 ·intro e b v f;rw[(E _).1,(E _).2.1];exact h.n4 f
 ·intro i d c;exact S (fun y=>0<y.ba->y.ba%5=i/\y.ba<=y.pr y.ep) i (fun hi=>hi ▸ z) (fun _=>h.n5 d c)
 ·intro i v d c;exact S (fun y=>y.ph=2->0<y.ba->¬g.jl y.ep y.ba v) i (fun _ m q=>r m q v) (fun _=>h.n6 d c)
 ·intro i d c;exact S (fun y=>y.ph=2->0<y.ba->kZ n y.an/\(∀i∈y.an,∃wa u,g.jg i y.ep y.ba wa u/\wa<=y.fw)/\(y.fw<=0∨∃i,g.jg i y.ep y.ba y.fw y.fv)) i (fun _=>o) (fun _=>h.n7 d c)
 ·intro i d c;exact S (fun y=>y.ph=3->0<y.ba->g.jl y.ep y.ba y.go/\kZ n y.an/\∀i∈y.an,g.acc i y.ep y.ba y.go) i (fun _=>w) (fun _=>h.n8 d c)
theorem Vx.take{n:Int}{x:Int->Vo}{g:Gh}(h:Vx n x g){j b:Int}(c:0<=j)(l:j<n)(k:b%5=j)(m:0<b)(r:(x j).pr (x j).ep<b)(go:V):Vx n (upd x j {x j with pr:=eC (x j).pr (x j).ep b,ph:=2,ba:=b,go:=go,fw:=(x j).ac (x j).ep,fv:=(x j).vl (x j).ep,an:=[j]}) {g with jg:=fun i o f wa v=>g.jg i o f wa v∨(i=j/\o=(x j).ep/\f=b/\wa=(x j).ac (x j).ep/\v=(x j).vl (x j).ep)}:=by
 have q:=h.promise c l (Int.le_refl _) (Int.le_of_lt r);have d:=q.mine (j:=j) (a:={x j with pr:=eC (x j).pr (x j).ep b,ph:=2,ba:=b,go:=go,fw:=(x j).ac (x j).ep,fv:=(x j).vl (x j).ep,an:=[j]}) c l (by simp) (by simp) (by simp) (by simp) (fun _=>⟨k,by simp[eC]⟩) ?_ ?_ (by intro s;simp at s)
 ·have e:upd (upd x j {x j with pr:=eC (x j).pr (x j).ep b}) j {x j with pr:=eC (x j).pr (x j).ep b,ph:=2,ba:=b,go:=go,fw:=(x j).ac (x j).ep,fv:=(x j).vl (x j).ep,an:=[j]}=upd x j {x j with pr:=eC (x j).pr (x j).ep b,ph:=2,ba:=b,go:=go,fw:=(x j).ac (x j).ep,fv:=(x j).vl (x j).ep,an:=[j]}:=by
   funext i;by_cases hi:i=j;·subst hi;simp
   ·rw[upd_ne hi,upd_ne hi,upd_ne hi]
  rw[e]at d;exact d
 ·intro _ _ v p;have t:=(h.n4 p).2.2;simp only[k]at t;omega
 ·intro _ _;refine⟨⟨by simp,fun i hi=>by simp at hi;omega⟩,fun i hi=>?_,.inr ⟨j,.inr ⟨rfl,rfl,rfl,rfl,rfl⟩⟩⟩;simp at hi;exact⟨_,_,.inr ⟨hi,rfl,rfl,rfl,rfl⟩,Int.le_refl _⟩
theorem Vx.count{n:Int}{x:Int->Vo}{g:Gh}(h:Vx n x g){j i wa:Int}{u:V}(f:0<=j)(l:j<n)(e:(x j).ph=2)(d:0<(x j).ba)(m:g.jg i (x j).ep (x j).ba wa u)(t:i∉(x j).an):Vx n (upd x j {x j with fw:=if(x j).fw<wa then wa else(x j).fw,fv:=if(x j).fw<wa then u else(x j).fv,an:=(x j).an++[i]}) g:=by
 obtain⟨q,A,z⟩:=h.n7 f l e d;refine h.mine f l rfl rfl rfl rfl (fun _=>h.n5 f l d) (fun _ _ v=>h.n6 f l e d) (fun _ _=>⟨⟨?_,?_⟩,?_,?_⟩) (by intro w;simp at w;omega);·exact List.nodup_append.2 ⟨q.1,by simp,fun a y b p s=>by simp at p;subst p;subst s;exact t y⟩
 ·intro k c;rcases List.mem_append.1 c with c|c;·exact q.2 k c
  ·simp at c;subst c;exact h.r2 m
 ·intro k c;rcases List.mem_append.1 c with c|c;·obtain⟨o,u',r,B⟩:=A k c;exact⟨o,u',r,by dsimp only;split<;>omega⟩
  ·simp at c;subst c;exact⟨wa,u,m,by dsimp only;split<;>omega⟩
 ·dsimp only;split;·exact .inr ⟨i,m⟩
  ·exact z
theorem Vx.gy{n:Int}{x:Int->Vo}{g:Gh}(h:Vx n x g){j:Int}{v:V}(p:0<=j)(q:j<n)(l:(x j).ph=2)(d:0<(x j).ba)(D:n<2*((x j).an.length:Int))(K:0<(x j).fw->v=(x j).fv):Vx n (upd x j {x j with ph:=3,go:=v,an:=[]}) {g with jl:=fun e b u=>g.jl e b u∨(e=(x j).ep/\b=(x j).ba/\u=v)}:=by
 obtain⟨F,N,r⟩:=h.n7 p q l d;have A:=h.n5 p q d;have t:(x j).fw<(x j).ba:=by
  rcases r with r|⟨i,r⟩;·omega
  ·by_cases B:0<(x j).fw
   ·have O:=(h.n3 r).1;have C:=h.a1 (h.a4 r B);by_cases H:(x j).fw=(x j).ba;·rw[H]at C;exact absurd C (h.n6 p q l d)
    ·omega
   ·omega
 have S:∀(Q:Vo->Prop) i,(i=j->Q {x j with ph:=3,go:=v,an:=[]})->(i≠j->Q (x i))->Q (upd x j {x j with ph:=3,go:=v,an:=[]} i):=by
  intro Q i L w;by_cases hi:i=j;·have:=L hi;subst hi;simpa using this
  ·rw[upd_ne hi];exact w hi
 have E:∀i,(upd x j {x j with ph:=3,go:=v,an:=[]} i).ep=(x i).ep/\(upd x j {x j with ph:=3,go:=v,an:=[]} i).pr=(x i).pr/\(upd x j {x j with ph:=3,go:=v,an:=[]} i).ac=(x i).ac/\(upd x j {x j with ph:=3,go:=v,an:=[]} i).vl=(x i).vl/\(upd x j {x j with ph:=3,go:=v,an:=[]} i).ba=(x i).ba:=by
  intro i;by_cases hi:i=j;·subst hi;simp
  ·rw[upd_ne hi];simp
 refine{a1:=fun f=>.inl (h.a1 f),a2:=?_,a3:=h.a3,a4:=h.a4,a5:=?_,a6:=?_,n1:=?_,n2:=?_,lm:=?_,n3:=?_,n4:=?_,n5:=?_,n6:=?_,n7:=?_,n8:=?_,r1:=h.r1,r2:=h.r2}
 ·intro e b u u' k m;rcases k with k|⟨rfl,rfl,rfl⟩<;>rcases m with m|⟨M,w,z⟩;·exact h.a2 k m
  ·rw[M,w]at k;exact absurd k (h.n6 p q l d)
  ·exact absurd m (h.n6 p q l d)
  ·exact z.symm
 ·intro e b u k;rcases k with k|⟨rfl,rfl,rfl⟩;·exact h.a5 k
  ·refine⟨(x j).an,⟨F,by omega,D⟩,(x j).fw,t,N,?_⟩;by_cases B:0<(x j).fw;·rw[K B];exact r
   ·exact .inl (by omega)
 ·intro e b u k;rcases k with k|⟨rfl,rfl,rfl⟩;·exact h.a6 k
  ·exact d
 ·intro i e b v f;rw[(E i).1,(E i).2.2.1];exact h.n1 f
 ·intro i e;rw[(E i).1,(E i).2.2.1,(E i).2.2.2.1];exact h.n2
 ·intro i e;rw[(E i).1,(E i).2.2.1,(E i).2.1];exact h.lm
 ·intro i e b wa v f;rw[(E i).1,(E i).2.1];exact h.n3 f
 ·intro e b u f;rw[(E _).1,(E _).2.1];rcases f with f|⟨rfl,rfl,rfl⟩;·exact h.n4 f
  ·rw[A.1];exact⟨p,q,.inr A.2⟩
 ·intro i c a;rw[(E i).1,(E i).2.1,(E i).2.2.2.2];exact h.n5 c a
 ·intro i u c a;refine S (fun y=>y.ph=2->0<y.ba->¬(g.jl y.ep y.ba u∨(y.ep=(x j).ep/\y.ba=(x j).ba/\u=v))) i (fun _ o=>by simp at o) (fun hi o s=>?_);rintro(f|⟨_,f,_⟩);·exact h.n6 c a o s f
  ·have:=(h.n5 c a s).1;rw[f,A.1]at this;exact hi this.symm
 ·intro i c a;exact S (fun y=>y.ph=2->0<y.ba->kZ n y.an/\(∀i∈y.an,∃wa u,g.jg i y.ep y.ba wa u/\wa<=y.fw)/\(y.fw<=0∨∃i,g.jg i y.ep y.ba y.fw y.fv)) i (fun _ o=>by simp at o) (fun _=>h.n7 c a)
 ·intro i c a;exact S (fun y=>y.ph=3->0<y.ba->(g.jl y.ep y.ba y.go∨(y.ep=(x j).ep/\y.ba=(x j).ba/\y.go=v))/\kZ n y.an/\∀i∈y.an,g.acc i y.ep y.ba y.go) i (fun _ _ _=>⟨.inr ⟨rfl,rfl,rfl⟩,⟨by simp,by simp⟩,by simp⟩) (fun _ o s=>let ⟨z1,z2,z3⟩:=h.n8 c a o s;⟨.inl z1,z2,z3⟩)
theorem Vx.tally{n:Int}{x:Int->Vo}{g:Gh}(h:Vx n x g){j i:Int}{u:V}(e:0<=j)(o:j<n)(m:(x j).ph=3)(d:0<(x j).ba)(f:g.acc i (x j).ep (x j).ba u)(v:i∉(x j).an):Vx n (upd x j {x j with an:=(x j).an++[i]}) g:=by
 obtain⟨q,r,y⟩:=h.n8 e o m d;have t:=h.a2 q (h.a1 f);refine h.mine e o rfl rfl rfl rfl (fun _=>h.n5 e o d) (by intro l;simp at l;omega) (by intro l;simp at l;omega) (fun _ _=>⟨q,⟨?_,?_⟩,?_⟩);·exact List.nodup_append.2 ⟨r.1,by simp,fun a w b p s=>by simp at p;subst p;subst s;exact v w⟩
 ·intro k c;rcases List.mem_append.1 c with c|c;·exact r.2 k c
  ·simp at c;subst c;exact h.r1 f
 ·intro k c;rcases List.mem_append.1 c with c|c;·exact y k c
  ·simp at c;subst c;dsimp only;rw[t];exact f
theorem Vx.chosen{n:Int}{x:Int->Vo}{g:Gh}(h:Vx n x g){j:Int}(e:0<=j)(d:j<n)(b:(x j).ph=3)(a:0<(x j).ba)(c:n<2*((x j).an.length:Int)):kR n g (x j).ep (x j).ba (x j).go:=
  let ⟨_,q2,q3⟩:=h.n8 e d b a
  ⟨_,⟨q2,by omega,c⟩,q3⟩
theorem Vx.learn{n:Int}{x:Int->Vo}{g:Gh}(h:Vx n x g){j:Int}{a:Vo}(r:a.ep=(x j).ep+1)(m:∀e,a.ep<=e->a.pr e=(x j).pr e)(l:∀e,a.ep<=e->a.ac e=(x j).ac e)(q:∀e,a.ep<=e->a.vl e=(x j).vl e)(o:a.ba<=0):Vx n (upd x j a) g:=by
 have S:∀(Q:Vo->Prop) i,(i=j->Q a)->(i≠j->Q (x i))->Q (upd x j a i):=by
  intro Q i l o;by_cases hi:i=j;·have:=l hi;subst hi;simpa using this
  ·rw[upd_ne hi];exact o hi
 refine{toPx:=h.toPx,n1:=?_,n2:=?_,lm:=?_,n3:=?_,n4:=?_,n5:=?_,n6:=?_,n7:=?_,n8:=?_,r1:=h.r1,r2:=h.r2}
 ·intro i e b v f;refine S (fun y=>e<y.ep∨b<=y.ac e) i (fun hi=>?_) (fun _=>h.n1 f);subst hi;by_cases k:a.ep<=e;·rw[l e k];have:=h.n1 f;omega
  ·omega
 ·intro i e d c;refine S (fun y=>y.ep<=e->0<y.ac e->g.acc i e (y.ac e) (y.vl e)) i (fun hi k=>?_) (fun _=>h.n2 d c);subst hi;rw[l e k,q e k];exact h.n2 d c (by omega)
 ·intro i e d c;refine S (fun y=>y.ep<=e->0<=y.ac e/\y.ac e<=y.pr e) i (fun hi k=>?_) (fun _=>h.lm d c);subst hi;rw[l e k,m e k];exact h.lm d c (by omega)
 ·intro i e b wa v f;refine⟨(h.n3 f).1,S (fun y=>e<y.ep∨b<=y.pr e) i (fun hi=>?_) (fun _=>(h.n3 f).2)⟩;subst hi;by_cases k:a.ep<=e;·rw[m e k];have:=(h.n3 f).2;omega
  ·omega
 ·intro e b v f;refine⟨(h.n4 f).1,(h.n4 f).2.1,S (fun y=>e<y.ep∨b<=y.pr e) _ (fun hi=>?_) (fun _=>(h.n4 f).2.2)⟩;have p:=(h.n4 f).2.2;rw[hi]at p;by_cases k:a.ep<=e;·rw[m e k];omega
  ·omega
 ·intro i d c;exact S (fun y=>0<y.ba->y.ba%5=i/\y.ba<=y.pr y.ep) i (fun _ _=>by omega) (fun _=>h.n5 d c)
 ·intro i v d c;exact S (fun y=>y.ph=2->0<y.ba->¬g.jl y.ep y.ba v) i (fun _ _ _=>by omega) (fun _=>h.n6 d c)
 ·intro i d c;exact S (fun y=>y.ph=2->0<y.ba->kZ n y.an/\(∀i∈y.an,∃wa u,g.jg i y.ep y.ba wa u/\wa<=y.fw)/\(y.fw<=0∨∃i,g.jg i y.ep y.ba y.fw y.fv)) i (fun _ _ _=>by omega) (fun _=>h.n7 d c)
 ·intro i d c;exact S (fun y=>y.ph=3->0<y.ba->g.jl y.ep y.ba y.go/\kZ n y.an/\∀i∈y.an,g.acc i y.ep y.ba y.go) i (fun _ _ _=>by omega) (fun _=>h.n8 d c)
end AG
namespace AG
abbrev Rc:=eE
structure Ms where
  k:Int
  f:Int
  e:Int
  b:Int
  wa:Int
  p:Int
  s:Int
  q:Int
  bl:Int
  v:Int
  zs:List Int
abbrev Rs:=dJ
structure Du where
  id:Int
  recs:List Rc
  di:List (Int×PV)
  bk:Int->Int
  seen:Int
  last:Int
def Du.takes(d:Du)(E P:Int):Bool:=P==d.id+1&&decide (d.seen<E)
def Du.learn(d:Du)(E P S:Int):Du:={d with recs:=d.recs++[⟨E,P,S⟩],seen:=if d.takes E P=true then E else d.seen,last:=if d.takes E P=true then 0 else d.last,di:=gH d.di (E - 1)}
def Du.step(d:Du)(m:Ms):Du:=
  if m.k=1 then{d with di:=fX d.di m.e ((dG d.di m.e).after 1 m.b m.p m.s)}
  else if m.k=3 then{d with di:=fX d.di m.e ((dG d.di m.e).after 3 m.b m.p m.s)}
  else if m.k=6 then d.learn (m.e+1) m.p m.s
  else if m.k=7 then{d with seen:=m.e,last:=m.q,bk:=fun i=>if i=m.bl then m.v else d.bk i}
  else{d with seen:=m.e,last:=m.q,bk:=fun i=>bif decide (0<=i) then m.zs.getD i.toNat (d.bk i) else d.bk i}
structure Nd where
  id:Int
  nodes:Int
  nb:Int
  d:Du
  down:Bool
  act:Bool
  ph:Int
  gP:Int
  gS:Int
  jo:Int
  ba:Int
  rf:Int
  fo:Ms
  an:List Ky
  on:Int
  ow:Ms
  oa:List Ky
  ops:Int
  res:List Rs
  tr:Ms
def Ms.nil:Ms:=⟨0,0,0,0,0,0,0,0,0,0,[]⟩
def Du.ep(d:Du):Int:=d.recs.length - 1
def Du.rc(d:Du)(e:Int):Rc:=d.recs.getD e.toNat ⟨0,0,0⟩
def Nd.stand(n:Nd):Nd:={n with act:=false,ph:=0,gP:=0,gS:=0,jo:=0,ba:=0,rf:=0,fo:=.nil,an:=[],on:=0,ow:=.nil,oa:=[]}
def Nd.fall(n:Nd)(m:Ms):Nd:={n.stand with down:=true,tr:=m}
def Nd.save(n:Nd)(m:Ms):Bool->Nd
  |true=>{n with d:=n.d.step m}
  |false=>n.fall m
def bit(s i:Int):Prop:=s / 2 ^ i.toNat%2=1
def Fol(a:Rc)(E P S:Int):Prop:=0<=a.E/\a.E<1000000000000/\E=a.E+1/\1<=P/\P<=5/\1<=S/\S<=31/\bit S (P - 1)/\((∀i,0<=i->i<5->bit S i->bit a.S i)∨(P=a.P/\∃j,0<=j/\j<5/\¬bit a.S j/\∀i,0<=i->i<5->(bit S i↔bit a.S i∨i=j)))
def folB(a:Rc)(E P S:Int):Bool:=decide (0<=a.S/\a.S<=31)&&kH a.E a.P a.S E P S
theorem KD:∀s:Fin 32,∀o:Fin 32,jH s.val (o.val:Int)=0->∀i:Fin 5,(s.val:Int) / 2 ^ i.val%2=1->(o.val:Int) / 2 ^ i.val%2=1:=by decide +kernel
theorem KE:∀s:Fin 32,∀o:Fin 32,l9 (jH s.val (o.val:Int))=1->((s.val:Nat):Int)=bits .or .i64 (o.val:Int) (jH s.val (o.val:Int):Int)->∃j:Fin 5,¬((o.val:Int) / 2 ^ j.val%2=1)/\∀i:Fin 5,((s.val:Int) / 2 ^ i.val%2=1↔(o.val:Int) / 2 ^ i.val%2=1∨i=j):=by decide +kernel
theorem IM:∀s:Fin 32,∀o:Fin 32,(∀i:Fin 5,(s.val:Int) / 2 ^ i.val%2=1->(o.val:Int) / 2 ^ i.val%2=1)->jH s.val (o.val:Int)=0:=by decide +kernel
theorem IN:∀s:Fin 32,∀o:Fin 32,∀j:Fin 5,¬((o.val:Int) / 2 ^ j.val%2=1)->(∀i:Fin 5,((s.val:Int) / 2 ^ i.val%2=1↔(o.val:Int) / 2 ^ i.val%2=1∨i=j))->l9 (jH s.val (o.val:Int))=1/\((s.val:Nat):Int)=bits .or .i64 (o.val:Int) (jH s.val (o.val:Int):Int):=by decide +kernel
theorem KF{a:Rc}{E P S:Int}(hS:0<=a.S/\a.S<=31)(h:Fol a E P S):folB a E P S=true:=by
 obtain⟨l,q,s,p,m,s0,s1,k,hs⟩:=h;have e:((S.toNat:Nat):Int)=S:=by omega
 have g:((a.S.toNat:Nat):Int)=a.S:=by omega
 unfold folB kH lB lJ;simp only[Bool.and_eq_true,decide_eq_true_eq,Bool.or_eq_true,beq_iff_eq];refine⟨hS,⟨l,q,s⟩,⟨⟨p,m,s0,s1⟩,?_⟩,?_⟩;·unfold nJ;rw[decide_eq_true_eq];unfold bit at k;rw[k];decide
 rcases hs with hs|⟨t,j,v,u,r,o⟩
 ·left;have d:=IM ⟨S.toNat,by omega⟩ ⟨a.S.toNat,by omega⟩;simp only[e,g]at d;have f:=d (fun i hi=>by have b:=hs (i.val:Int) (by omega) (by have:=i.isLt;omega);unfold bit at b;rw[Int.toNat_natCast]at b;exact b hi)
  omega
 ·right;unfold nL;rw[decide_eq_true_eq];have d:=IN ⟨S.toNat,by omega⟩ ⟨a.S.toNat,by omega⟩ ⟨j.toNat,by omega⟩;simp only[e,g]at d;obtain⟨f,n⟩:=d r (fun i=>by
   have b:=o (i.val:Int) (by omega) (by have:=i.isLt;omega);unfold bit at b;rw[Int.toNat_natCast]at b;rw[b];constructor
   ·rintro(c|c);·exact .inl c
    ·exact .inr (Fin.ext (by simp only;omega))
   ·rintro(c|c);·exact .inl c
    ·have:=congrArg Fin.val c;simp only at this;exact .inr (by omega))
  exact⟨f,t,by rw[e];exact n⟩
theorem AQ{a:Rc}{E P S:Int}(h:folB a E P S=true):Fol a E P S:=by
 unfold folB kH lB lJ at h;simp only[Bool.and_eq_true,decide_eq_true_eq,Bool.or_eq_true,beq_iff_eq]at h;obtain⟨⟨x,a1⟩,⟨k,s,p⟩,⟨⟨t,l,s0,s1⟩,e⟩,hs⟩:=h;have q:bit S (P - 1):=by
  unfold nJ at e;rw[decide_eq_true_eq]at e;unfold bit;rcases Int.emod_two_eq (S / 2 ^ (P - 1).toNat) with b|b;·exact absurd b e
  ·exact b
 have d:((S.toNat:Nat):Int)=S:=by omega
 have f:((a.S.toNat:Nat):Int)=a.S:=by omega
 refine⟨k,s,p,t,l,s0,s1,q,?_⟩;rcases hs with hs|hs;·refine .inl fun i g r hi=>?_;have c:=KD ⟨S.toNat,by omega⟩ ⟨a.S.toNat,by omega⟩;simp only[d,f]at c;exact c (by omega) ⟨i.toNat,by omega⟩ hi
 ·unfold nL at hs;simp only[decide_eq_true_eq]at hs;obtain⟨w,v,m⟩:=hs;have c:=KE ⟨S.toNat,by omega⟩ ⟨a.S.toNat,by omega⟩;simp only[d,f]at c;obtain⟨j,o,u⟩:=c w (by rw[←m];exact d.symm);refine .inr ⟨v,(j.val:Int),by omega,by have:=j.isLt;omega,?_,fun i g r=>?_⟩;·unfold bit;rw[Int.toNat_natCast];exact o
  ·have n:=u ⟨i.toNat,by omega⟩;unfold bit;rw[n];constructor
   ·rintro(b|b);·exact .inl b
    ·have:=congrArg Fin.val b;simp only at this;exact .inr (by omega)
   ·rintro(b|b);·exact .inl b
    ·exact .inr (Fin.ext (by simp only;omega))
def Nd.others(n:Nd):List Int:=((List.range n.nodes.toNat).map Int.ofNat).filter (fun i=>i≠n.id)
def Nd.tell(n:Nd)(m:Ms)(tq:List Int):List (Int×Ms):=tq.map (fun i=>(i,{m with f:=n.id}))
def Nd.decision(n:Nd)(e:Int):Ms:={Ms.nil with k:=6,e:=e,p:=(n.d.rc (e+1)).P,s:=(n.d.rc (e+1)).S}
def Nd.jc(n:Nd)(m:Ms)(ok:Bool):Nd×Ms:=
  if m.e<n.d.ep then(n,n.decision m.e)
  else if m.b<(dG n.d.di m.e).pr then(n,{Ms.nil with k:=5,e:=m.e,b:=m.b,wa:=(dG n.d.di m.e).pr})
  else
    let was:=dG n.d.di m.e
    let a:Ms:=if m.k=3 then{Ms.nil with k:=4,e:=m.e,b:=m.b} else{Ms.nil with k:=2,e:=m.e,b:=m.b,wa:=was.ac,p:=was.pm,s:=was.st}
    if(was.after m.k m.b m.p m.s).qj was=true then(n,a)
    else if ok=true then(n.save m true,a) else(n.fall m,.nil)
def Nd.decided(n:Nd)(m:Ms)(ok:Bool):Nd×Bool:=
  if folB (n.d.rc n.d.ep) (m.e+1) m.p m.s=true then
    if ok=true then({(n.save m true).stand with act:=n.d.takes (m.e+1) m.p},true) else(n.fall m,false)
  else(n,false)
def Nd.fits(n:Nd)(m:Ms):Bool:=lZ m.k n.nb m.bl m.zs.length
def Nd.update(n:Nd)(m:Ms)(ok:Bool):Nd×Ms:=
  if n.fits m=false∨m.e=n.d.seen/\(n.act=true∨m.q<n.d.last) then(n,.nil)
  else if m.e<n.d.seen then(n,if m.e<n.d.ep then n.decision m.e else .nil)
  else
    let a:Ms:={Ms.nil with k:=m.k+1,e:=m.e,q:=m.q}
    if m.e=n.d.seen/\m.q=n.d.last then(n,a)
    else if ok=true then(if m.e=n.d.seen then n.save m true else(n.save m true).stand,a) else(n.fall m,.nil)
def Nd.dw(n:Nd)(rf:Int):Int:=
  mO (dG n.d.di n.d.ep).pr rf n.id
def Nd.prepare(n:Nd)(ok:Bool):Nd×List (Int×Ms):=
  let m:Ms:={Ms.nil with k:=1,e:=n.d.ep,b:=n.dw n.rf}
  if 1000000000000<m.b then(n,[])
  else
    let r:=n.jc m ok
    if r.1.down=true then(r.1,[])
    else({r.1 with ph:=2,ba:=m.b,fo:={r.2 with f:=n.id},an:=[(2,n.d.ep,m.b,n.id)]},n.tell m n.others)
def Nd.gy(n:Nd)(ok:Bool):Nd×List (Int×Ms):=
  let n:=if 0<n.fo.wa then{n with gP:=n.fo.p,gS:=n.fo.s} else n
  let m:Ms:={Ms.nil with k:=3,e:=n.d.ep,b:=n.ba,p:=n.gP,s:=n.gS}
  let r:=n.jc m ok
  if r.1.down=true then(r.1,[])
  else({r.1 with ph:=3,an:=if r.2.k=4 then[(4,n.d.ep,n.ba,n.id)] else[]},n.tell m n.others)
def Nd.conclude(n:Nd)(ok:Bool):Nd×List (Int×Ms):=
  let m:Ms:={Ms.nil with k:=6,e:=n.d.ep,p:=n.gP,s:=n.gS}
  let r:=({n with ph:=0,gP:=0,gS:=0,jo:=0,ba:=0,rf:=0,fo:=.nil,an:=[]}:Nd).decided m ok
  (r.1,if r.2=true then n.tell m n.others else[])
end AG
namespace AG
theorem vmGet_put(l:List (Int×PV))(e a:Int)(x:PV):dG (fX l e x) a=if a=e then x else dG l a:=by
 induction l with
 |nil=>unfold fX dG;by_cases h:a=e<;>simp[h]
 |cons y l ih=>
  unfold fX;by_cases h:e=y.1
  ·rw[if_pos h];by_cases b:a=e;·subst b;simp[dG]
   ·have c:(a==y.1)=false:=by rw[beq_eq_false_iff_ne];omega
    have f:(a==e)=false:=by simpa using b
    simp[dG,b,c,f]
  ·rw[if_neg h];by_cases b:a=y.1;·have c:a≠e:=fun d=>h (d ▸ b);subst b;simp[dG,c]
   ·have c:(a==y.1)=false:=by simpa using b
    unfold dG at ih⊢;simp only[List.find?_cons,c];exact ih
theorem vmGet_del(l:List (Int×PV))(e a:Int)(h:a≠e):dG (gH l e) a=dG l a:=by
 induction l with
 |nil=>rfl
 |cons y l ih=>
  unfold gH;by_cases c:e=y.1
  ·rw[if_pos c];have b:(a==y.1)=false:=by rw[beq_eq_false_iff_ne];omega
   unfold dG;simp only[List.find?_cons,b]
  ·rw[if_neg c];by_cases d:a=y.1;·subst d;simp[dG]
   ·have b:(a==y.1)=false:=by simpa using d
    unfold dG at ih⊢;simp only[List.find?_cons,b];exact ih
def Nd.vo(y:Nd):Vo:={ep:=y.d.ep,pr:=fun e=>(dG y.d.di e).pr,ac:=fun e=>(dG y.d.di e).ac,vl:=fun e=>((dG y.d.di e).pm,(dG y.d.di e).st),ph:=y.ph,ba:=y.ba,go:=(y.gP,y.gS),fw:=y.fo.wa,fv:=(y.fo.p,y.fo.s),an:=y.an.map (·.2.2.2)}
def sub(a b:Int):Prop:=∀i,0<=i->i<5->bit a i->bit b i
structure Gv where
  R:Int->Rc
  tk:Int->Prop
  ad:Int->Prop
  mx:Int->Int
  wr:Int->Int->Prop
def jF(u:Gv)(i v:Int):Prop:=v=0∨u.wr i v
def En(n:Int)(d:Du)(g:Gh)(u:Gv)(m:Ms):Prop:=
  (m.k=1/\d.ep<=m.e/\(dG d.di m.e).pr<=m.b)∨
  (m.k=3/\d.ep<=m.e/\(dG d.di m.e).pr<=m.b/\g.jl m.e m.b (m.p,m.s))∨
  (m.k=6/\m.e=d.ep/\∃b,kR n g m.e b (m.p,m.s))∨
  ((m.k=7∨m.k=9)/\u.tk m.e/\m.q<=u.mx m.e/\(m.k=7->jF u m.bl m.v)/\(m.k=9->∀i:Nat,i<m.zs.length->jF u i (m.zs.getD i 0))/\(d.seen<m.e∨d.seen=m.e/\d.last<=m.q))
structure mS(n nb j:Int)(a:Nd)(sn:Ms->Prop)(g:Gh)(u:Gv):Prop where
  i0:a.id=j/\a.d.id=j/\a.nodes=n/\a.nb=nb/\0<=a.d.ep
  k2:a.ph=2->0<a.ba->∀y∈a.an,y.1=2/\y.2.1=a.d.ep/\y.2.2.1=a.ba
  k3:a.ph=3->0<a.ba->∀y∈a.an,y.1=4/\y.2.1=a.d.ep/\y.2.2.1=a.ba
  rr:∀{i},0<=i->i<=a.d.ep->a.d.rc i=u.R i
  rf:∀{e},0<=e->e<a.d.ep->(u.R (e+1)).E=e+1/\∃b,kR n g e b ((u.R (e+1)).P,(u.R (e+1)).S)
  gc:a.ph≠0->Fol (u.R a.d.ep) (a.d.ep+1) a.gP a.gS/\(sub a.gS (u.R a.d.ep).S∨u.ad a.d.ep)
  ap:a.act=true->u.ad a.d.ep->a.ph≠0
  t1:a.act=true->u.tk a.d.ep/\(u.R a.d.ep).P=j+1/\a.d.seen=a.d.ep/\a.d.last=u.mx a.d.ep
  t3:(a.d.seen=0/\a.d.last=0)∨(u.tk a.d.seen/\a.d.last<=u.mx a.d.seen)
  bv:∀{i},0<=i->i<nb->jF u i (a.d.bk i)
  dn:a.down=true->a.act=false/\a.ph=0/\a.on=0
  o1:0<a.on->a.act=true/\a.ow.k=7/\a.ow.e=a.d.ep/\a.ow.q<=a.d.last/\∀y∈a.oa,y.1=8/\y.2.1=a.ow.e/\y.2.2.1=max 0 a.ow.q/\∃m,sn m/\m.k=8/\m.f=y.2.2.2/\m.e=a.ow.e/\m.q=a.ow.q
  pd:a.down=true->En n a.d g u a.tr
  p1:a.ph=1->a.ba<=0/\a.act=true
  o2:0<a.on->0<=a.ow.bl/\jF u a.ow.bl a.ow.v
structure kM(n:Int)(x:Int->Nd)(g:Gh)(u:Gv)(m:Ms):Prop where
  s2:m.k=2->g.jg m.f m.e m.b m.wa (m.p,m.s)
  s3:m.k=3->g.jl m.e m.b (m.p,m.s)
  s4:m.k=4->∃v,g.acc m.f m.e m.b v
  s6:m.k=6->0<=m.e/\(u.R (m.e+1)).P=m.p/\(u.R (m.e+1)).S=m.s/\∃j,0<=j/\j<n/\m.e<(x j).d.ep
  s7:m.k=7∨m.k=9->u.tk m.e/\m.q<=u.mx m.e/\(m.k=7->0<=m.bl/\jF u m.bl m.v)/\(m.k=9->∀i:Nat,i<m.zs.length->jF u i (m.zs.getD i 0))
  s8:m.k=8∨m.k=10->u.tk m.e/\m.q<=u.mx m.e/\0<=m.f/\m.f<n/\(m.e<(x m.f).d.seen∨m.e=(x m.f).d.seen/\m.q<=(x m.f).d.last)
structure Inv(n nb:Int)(x:Int->Nd)(sn:Ms->Prop)(g:Gh)(u:Gv):Prop where
  nn:2<=n/\n<=5
  vx:Vx n (fun j=>(x j).vo) g
  own:∀{j},0<=j->j<n->mS n nb j (x j) sn g u
  r0:u.R 0=⟨0,0,2 ^ n.toNat - 1⟩
  gr:∀{e b v},g.jl e b v->0<=e/\(∃j,0<=j/\j<n/\e<=(x j).d.ep)/\Fol (u.R e) (e+1) v.1 v.2/\(sub v.2 (u.R e).S∨u.ad e)
  at_:∀{e},u.ad e->u.tk e
  t2:∀{e},u.tk e->0<e/\∃j,0<=j/\j<n/\(u.R e).P=j+1/\e<=(x j).d.seen/\e<=(x j).d.ep
  ms:∀{m},sn m->kM n x g u m
structure lO(g g':Gh):Prop where
  acc:∀{j e b v},g.acc j e b v->g'.acc j e b v
  jl:∀{e b v},g.jl e b v->g'.jl e b v
  jg:∀{j e b wa v},g.jg j e b wa v->g'.jg j e b wa v
theorem lO.refl(g:Gh):lO g g:=⟨id,id,id⟩
theorem kR.jy{n:Int}{g a:Gh}(h:lO g a){e b:Int}{v:V}(d:kR n g e b v):kR n a e b v:=let ⟨l,h1,h2⟩:=d;⟨l,h1,fun j c=>h.acc (h2 j c)⟩
structure Grv(K:Int)(u u':Gv):Prop where
  R:∀{e},0<=e->e<=K->u'.R e=u.R e
  tk:∀{e},u.tk e->u'.tk e
  ad:∀{e},u.ad e->u'.ad e
  mx:∀{e},u.tk e->u.mx e<=u'.mx e
  wr:∀{i v},u.wr i v->u'.wr i v
theorem Grv.refl(K:Int)(u:Gv):Grv K u u:=⟨fun _ _=>rfl,id,id,fun _=>Int.le_refl _,id⟩
theorem jF.jy{K:Int}{u u':Gv}(h:Grv K u u'){i v:Int}(a:jF u i v):jF u' i v:=a.imp id h.wr
theorem En.jy{n:Int}{d:Du}{g l:Gh}{u u':Gv}{K:Int}{m:Ms}(h:En n d g u m)(j:lO g l)(c:Grv K u u'):En n d l u' m:=by
 rcases h with h|h|h|h;·exact .inl h
 ·exact .inr (.inl ⟨h.1,h.2.1,h.2.2.1,j.jl h.2.2.2⟩)
 ·obtain⟨f,a,b,e⟩:=h;exact .inr (.inr (.inl ⟨f,a,b,e.jy j⟩))
 ·obtain⟨f,a,e,p,q,o⟩:=h;exact .inr (.inr (.inr ⟨f,c.tk a,Int.le_trans e (c.mx a),fun k=>(p k).jy c,fun k i hi=>(q k i hi).jy c,o⟩))
theorem mS.jy{n nb j:Int}{a:Nd}{sn sn':Ms->Prop}{g v:Gh}{u u':Gv}{K:Int}(h:mS n nb j a sn g u)(hs:∀{m},sn m->sn' m)(t:lO g v)(e:Grv K u u')(C:a.d.ep<=K)(B:a.act=true->u'.ad a.d.ep->u.ad a.d.ep)(A:a.act=true->u'.mx a.d.ep=u.mx a.d.ep):mS n nb j a sn' v u':=by
 have p:∀{i},0<=i->i<=a.d.ep->u'.R i=u.R i:=fun f k=>e.R f (Int.le_trans k C);have s:=h.i0.2.2.2.2;refine⟨h.i0,h.k2,h.k3,fun f k=>by rw[p f k];exact h.rr f k,fun f k=>?_,fun c=>?_,fun c w=>h.ap c (B c w),fun c=>?_,?_,fun f k=>(h.bv f k).jy e,h.dn,fun z=>?_,fun o=>(h.pd o).jy t e,h.p1,fun o=>⟨(h.o2 o).1,(h.o2 o).2.jy e⟩⟩;·rw[p (by omega) (by omega)];obtain⟨q,b,r⟩:=h.rf f k;exact⟨q,b,r.jy t⟩
 ·rw[p s (Int.le_refl _)];exact⟨(h.gc c).1,(h.gc c).2.imp id e.ad⟩
 ·rw[p s (Int.le_refl _),A c];exact⟨e.tk (h.t1 c).1,(h.t1 c).2⟩
 ·rcases h.t3 with l|l;·exact .inl l
  ·exact .inr ⟨e.tk l.1,Int.le_trans l.2 (e.mx l.1)⟩
 ·obtain⟨q,r,D,x,E⟩:=h.o1 z;exact⟨q,r,D,x,fun y hy=>let ⟨z1,z2,z3,m,z4,z5⟩:=E y hy;⟨z1,z2,z3,m,hs z4,z5⟩⟩
def Kn(n:Int)(x:Int->Nd)(K:Int):Prop:=∀j,0<=j->j<n->(x j).d.ep<=K
theorem kM.jy{n:Int}{x:Int->Nd}{g t:Gh}{u u':Gv}{K j:Int}{a:Nd}{m:Ms}(h:kM n x g u m)(q:lO g t)(c:Grv K u u')(A:Kn n x K)(z:(x j).d.ep<=a.d.ep)(B:(x j).d.seen<a.d.seen∨(x j).d.seen=a.d.seen/\(x j).d.last<=a.d.last):kM n (upd x j a) t u' m:=by
 have r:∀i,(x i).d.ep<=(upd x j a i).d.ep:=by
  intro i;by_cases hi:i=j;·subst hi;simpa using z
  ·rw[upd_ne hi];exact Int.le_refl _
 refine⟨fun b=>q.jg (h.s2 b),fun b=>q.jl (h.s3 b),fun b=>let ⟨v,hv⟩:=h.s4 b;⟨v,q.acc hv⟩,fun b=>?_,fun b=>?_,fun b=>?_⟩;·obtain⟨w,e,o,i,k,l,p⟩:=h.s6 b;have:=A i k l;rw[c.R (by omega) (by omega)];exact⟨w,e,o,i,k,l,Int.lt_of_lt_of_le p (r i)⟩
 ·obtain⟨e,o,k,l⟩:=h.s7 b;exact⟨c.tk e,Int.le_trans o (c.mx e),fun s=>⟨(k s).1,(k s).2.jy c⟩,fun y i hi=>(l y i hi).jy c⟩
 ·obtain⟨e,o,k,l,p⟩:=h.s8 b;refine⟨c.tk e,Int.le_trans o (c.mx e),k,l,?_⟩;by_cases hi:m.f=j;·rw[hi]at p⊢;simp only[upd_self];omega
  ·rw[upd_ne hi];exact p
theorem Inv.go{n nb:Int}{x:Int->Nd}{sn sn':Ms->Prop}{g p:Gh}{u u':Gv}{K j:Int}{a:Nd}(h:Inv n nb x sn g u)(H:lO g p)(r:Grv K u u')(B:Kn n x K)(L:(x j).d.ep<=a.d.ep)(Q:(x j).d.seen<a.d.seen∨(x j).d.seen=a.d.seen/\(x j).d.last<=a.d.last)(U:Vx n (upd (fun i=>(x i).vo) j a.vo) p)(hs:∀{m},sn m->sn' m)(hs':∀{m},sn' m->sn m∨kM n (upd x j a) p u' m)(N:0<=j->j<n->mS n nb j a sn' p u')(O:∀{e b v},p.jl e b v->g.jl e b v∨(0<=e/\(∃i,0<=i/\i<n/\e<=(x i).d.ep)/\Fol (u'.R e) (e+1) v.1 v.2/\(sub v.2 (u'.R e).S∨u'.ad e)))(M:∀{e},u'.tk e->u.tk e∨(0<e/\∃i,0<=i/\i<n/\(u'.R e).P=i+1/\e<=(upd x j a i).d.seen/\e<=(upd x j a i).d.ep))(C:∀{e},u'.ad e->u'.tk e)(A:∀i,0<=i->i<n->i≠j->(x i).act=true->(u'.ad (x i).d.ep->u.ad (x i).d.ep)/\u'.mx (x i).d.ep=u.mx (x i).d.ep)(F:0<=K):Inv n nb (upd x j a) sn' p u':=by
 have z:∀i,(x i).d.ep<=(upd x j a i).d.ep:=by
  intro i;by_cases hi:i=j;·subst hi;simpa using L
  ·rw[upd_ne hi];exact Int.le_refl _
 refine⟨h.nn,by rw[LR];exact U,?_,?_,?_,C,?_,?_⟩
 ·intro i s t;by_cases hi:i=j;·subst hi;rw[upd_self];exact N s t
  ·rw[upd_ne hi];exact(h.own s t).jy hs H r (B i s t) (fun q=>(A i s t hi q).1) (fun q=>(A i s t hi q).2)
 ·rw[r.R (Int.le_refl _) F];exact h.r0
 ·intro e b v c;have E:0<=e/\(∃i,0<=i/\i<n/\e<=(x i).d.ep)/\Fol (u'.R e) (e+1) v.1 v.2/\(sub v.2 (u'.R e).S∨u'.ad e):=by
   rcases O c with c|c;·obtain⟨l,⟨i,f,k,o⟩,w,D⟩:=h.gr c;rw[r.R l (Int.le_trans o (B i f k))];exact⟨l,⟨i,f,k,o⟩,w,D.imp id r.ad⟩
   ·exact c
  obtain⟨l,⟨i,f,k,o⟩,w⟩:=E;exact⟨l,⟨i,f,k,Int.le_trans o (z i)⟩,w⟩
 ·intro e c;rcases M c with c|c
  ·obtain⟨l,i,f,k,o,w,D⟩:=h.t2 c;have:=B i f k;rw[r.R (by omega) (by omega)];refine⟨l,i,f,k,o,?_,Int.le_trans D (z i)⟩;by_cases hi:i=j;·subst hi;simp only[upd_self];omega
   ·rw[upd_ne hi];exact w
  ·exact c
 ·intro m y;rcases hs' y with y|y;·exact(h.ms y).jy H r B L Q
  ·exact y
end AG
namespace AG
theorem pY{α:Type}(x:Int->α)(j:Int)(a b:α):upd (upd x j a) j b=upd x j b:=by funext i;unfold upd;split<;>rfl
theorem lC{α:Type}(x:Int->α)(j:Int):upd x j (x j)=x:=by
 funext i;unfold upd;split;·next h=>rw[h]
 ·rfl
theorem CY(x:Int->Nd):∀k:Nat,∃K:Int,0<=K/\∀j,0<=j->j<(k:Int)->(x j).d.ep<=K
 |0=>⟨0,by omega,fun j e f=>by omega⟩
 |k+1=>by
  obtain⟨K,e,h⟩:=CY x k;refine⟨max K (x k).d.ep,by omega,fun j a c=>?_⟩;by_cases b:j=k;·subst b;omega
  ·have:=h j a (by omega);omega
theorem Inv.kn{n nb:Int}{x:Int->Nd}{sn:Ms->Prop}{g:Gh}{u:Gv}(h:Inv n nb x sn g u):∃K,0<=K/\Kn n x K:=by obtain⟨K,c,a⟩:=CY x n.toNat;exact⟨K,c,fun j b d=>a j b (by omega)⟩
section
variable {n nb:Int} {x:Int->Nd} {sn:Ms->Prop} {g:Gh} {u:Gv} {j:Int}
theorem Inv.says(h:Inv n nb x sn g u){l:List (Int×Ms)}(b:∀y∈l,kM n x g u y.2):Inv n nb x (fun y=>sn y∨∃z∈l,y=z.2) g u:=⟨h.nn,h.vx,fun d a=>(h.own d a).jy .inl (.refl g) (.refl _ u) (Int.le_refl _) (fun _=>id) (fun _=>rfl),h.r0,h.gr,h.at_,h.t2,fun c=>c.elim h.ms (fun⟨z,hz,e⟩=>e ▸ b z hz)⟩
theorem Inv.vol(h:Inv n nb x sn g u){a:Nd}(b:a.d=(x j).d)(f:Vx n (upd (fun i=>(x i).vo) j a.vo) g)(k:0<=j->j<n->mS n nb j a sn g u):Inv n nb (upd x j a) sn g u:=by obtain⟨K,e,c⟩:=h.kn;exact h.go (.refl g) (.refl K u) c (by rw[b];exact Int.le_refl _) (.inr ⟨by rw[b],by rw[b];exact Int.le_refl _⟩) f id .inl k .inl .inl h.at_ (fun _ _ _ _ _=>⟨id,rfl⟩) e
theorem Inv.idle(h:Inv n nb x sn g u){a:Nd}(b:a.d=(x j).d)(hi:a.id=(x j).id/\a.nodes=(x j).nodes/\a.nb=(x j).nb)(i:a.act=false)(k:a.ph=0)(p:a.ba=0)(l:a.on=0)(e:a.down=true->En n (x j).d g u a.tr):Inv n nb (upd x j a) sn g u:=by refine h.vol b (h.vx.idle (by simp[Nd.vo,b]) (by simp[Nd.vo,b]) (by simp[Nd.vo,b]) (by simp[Nd.vo,b]) (by simp[Nd.vo,p])) (fun o m=>?_);have q:=h.own o m;exact⟨by rw[hi.1,hi.2.1,hi.2.2,b];exact q.i0,fun c=>by omega,fun c=>by omega,by rw[b];exact q.rr,by rw[b];exact q.rf,fun c=>absurd k c,by simp[i],by simp[i],by rw[b];exact q.t3,by rw[b];exact q.bv,fun _=>⟨i,k,l⟩,fun c=>by omega,fun f=>by rw[b];exact e f,fun f=>by omega,fun f=>by omega⟩
theorem Inv.promise(h:Inv n nb x sn g u)(l:0<=j)(p:j<n)(o:(x j).down=false){m:Ms}(y:m.k=1)(A:(x j).d.ep<=m.e)(w:(dG (x j).d.di m.e).pr<=m.b):Inv n nb (upd x j {x j with d:=(x j).d.step m}) sn {g with jg:=fun i a c wa v=>g.jg i a c wa v∨(i=j/\a=m.e/\c=m.b/\wa=(dG (x j).d.di m.e).ac/\v=((dG (x j).d.di m.e).pm,(dG (x j).d.di m.e).st))} u:=by
 obtain⟨K,f,s⟩:=h.kn;have hs:(x j).d.step m={(x j).d with di:=fX (x j).d.di m.e {dG (x j).d.di m.e with pr:=m.b}}:=by simp[Du.step,y,PV.after]
 have t:=h.vx.promise l p (e:=m.e) (b:=m.b) A w;have z:({x j with d:=(x j).d.step m}:Nd).vo={(x j).vo with pr:=eC (x j).vo.pr m.e m.b}:=by
  rw[hs];simp only[Nd.vo,Du.ep,vmGet_put];congr 1;·funext a;simp only[eC];split<;>simp_all
  ·funext a;split<;>simp_all
  ·funext a;split<;>simp_all
 rw[←z]at t;have r:lO g {g with jg:=fun i a c wa v=>g.jg i a c wa v∨(i=j/\a=m.e/\c=m.b/\wa=(dG (x j).d.di m.e).ac/\v=((dG (x j).d.di m.e).pm,(dG (x j).d.di m.e).st))}:=⟨id,id,.inl⟩;refine h.go r (.refl K u) s (by rw[hs];exact Int.le_refl _) (.inr ⟨by rw[hs],by rw[hs];exact Int.le_refl _⟩) t id .inl (fun _ _=>?_) .inl .inl h.at_ (fun _ _ _ _ _=>⟨id,rfl⟩) f;have q:=(h.own l p).jy (sn':=sn) id r (.refl K u) (s j l p) (fun _=>id) (fun _=>rfl);rw[hs];exact⟨q.i0,q.k2,q.k3,q.rr,q.rf,q.gc,q.ap,q.t1,q.t3,q.bv,q.dn,q.o1,by rw[o];simp,q.p1,q.o2⟩
theorem Inv.again(h:Inv n nb x sn g u)(q:0<=j)(t:j<n){e b:Int}(s:(x j).d.ep<=e)(l:(dG (x j).d.di e).pr=b):Inv n nb x sn {g with jg:=fun i c f wa v=>g.jg i c f wa v∨(i=j/\c=e/\f=b/\wa=(dG (x j).d.di e).ac/\v=((dG (x j).d.di e).pm,(dG (x j).d.di e).st))} u:=by
 have o:=h.vx.promise q t (e:=e) (b:=b) s (Int.le_of_eq l);have r:({(x j).vo with pr:=eC (x j).vo.pr e b}:Vo)=(x j).vo:=by
  have:eC (x j).vo.pr e b=(x j).vo.pr:=by
   funext c;unfold eC;split;·next k=>subst k;exact l.symm
   ·rfl
  rw[this]
 rw[r,lC (fun i=>(x i).vo) j]at o;have m:lO g {g with jg:=fun i c f wa v=>g.jg i c f wa v∨(i=j/\c=e/\f=b/\wa=(dG (x j).d.di e).ac/\v=((dG (x j).d.di e).pm,(dG (x j).d.di e).st))}:=⟨id,id,.inl⟩;refine⟨h.nn,o,fun p y=>(h.own p y).jy id m (.refl _ u) (Int.le_refl _) (fun _=>id) (fun _=>rfl),h.r0,h.gr,h.at_,h.t2,fun k=>?_⟩;obtain⟨K,_,w⟩:=h.kn;have:=(h.ms k).jy (j:=j) (a:=x j) m (.refl K u) w (Int.le_refl _) (.inr ⟨rfl,Int.le_refl _⟩);rwa[lC]at this
theorem Inv.accept(h:Inv n nb x sn g u)(l:0<=j)(r:j<n)(o:(x j).down=false){m:Ms}(A:m.k=3)(C:(x j).d.ep<=m.e)(z:(dG (x j).d.di m.e).pr<=m.b)(y:g.jl m.e m.b (m.p,m.s)):Inv n nb (upd x j {x j with d:=(x j).d.step m}) sn {g with acc:=fun i a c v'=>g.acc i a c v'∨(i=j/\a=m.e/\c=m.b/\v'=(m.p,m.s))} u:=by
 obtain⟨K,f,v⟩:=h.kn;have hs:(x j).d.step m={(x j).d with di:=fX (x j).d.di m.e ⟨m.b,m.b,m.p,m.s⟩}:=by simp[Du.step,A,PV.after]
 have w:=h.vx.accept l r (e:=m.e) (b:=m.b) C z y;have B:({x j with d:=(x j).d.step m}:Nd).vo={(x j).vo with pr:=eC (x j).vo.pr m.e m.b,ac:=eC (x j).vo.ac m.e m.b,vl:=eC (x j).vo.vl m.e (m.p,m.s)}:=by
  rw[hs];simp only[Nd.vo,Du.ep,vmGet_put];congr 1;·funext a;simp only[eC];split<;>simp_all
  ·funext a;simp only[eC];split<;>simp_all
  ·funext a;simp only[eC];split<;>simp_all
 rw[←B]at w;have t:lO g {g with acc:=fun i a c v'=>g.acc i a c v'∨(i=j/\a=m.e/\c=m.b/\v'=(m.p,m.s))}:=⟨.inl,id,id⟩;refine h.go t (.refl K u) v (by rw[hs];exact Int.le_refl _) (.inr ⟨by rw[hs],by rw[hs];exact Int.le_refl _⟩) w id .inl (fun _ _=>?_) .inl .inl h.at_ (fun _ _ _ _ _=>⟨id,rfl⟩) f;have q:=(h.own l r).jy (sn':=sn) id t (.refl K u) (v j l r) (fun _=>id) (fun _=>rfl);rw[hs];exact⟨q.i0,q.k2,q.k3,q.rr,q.rf,q.gc,q.ap,q.t1,q.t3,q.bv,q.dn,q.o1,by rw[o];simp,q.p1,q.o2⟩
end
end AG
end Go.Proofs.YtdcainmlcpafbaaGreatDoor
