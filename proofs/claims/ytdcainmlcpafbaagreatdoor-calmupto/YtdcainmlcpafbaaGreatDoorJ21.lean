import Derived.Test.YtdcainmlcpafbaaGreatDoorJ18
set_option linter.all false
set_option maxRecDepth 20000
namespace Go.Proofs.YtdcainmlcpafbaaGreatDoor
namespace AG
abbrev V:=Int×Int
def lS(n:Int)(l:List Int):Prop:=l.Nodup/\∀j∈l,0<=j/\j<n
def B1:∀(n:Nat) (l:List Int),lS n l->l.length<=n
 |0,l,h=>by
  cases l with
  |nil=>simp
  |cons a t=>have:=h.2 a sG;omega
 |n+1,l,h=>by
  have f:lS n (l.erase (n:Int)):=by
   refine⟨h.1.erase _,λj c=>?_⟩;have i:=h.2 j (List.mem_of_mem_erase c);have k:j≠(n:Int):=by intro e;subst e;exact(List.Nodup.not_mem_erase h.1) c
   omega
  have d:=B1 n _ f;by_cases b:(n:Int)∈l;·have g:=List.length_erase_of_mem b;have:=List.length_pos_of_mem b;omega
  ·rw[List.erase_of_not_mem b]at d;omega
def v8(n:Int)(l:List Int):Prop:=lS n l/\0<=n/\n<2*(l.length:Int)
def sU{n:Int}{l m:List Int}(h:v8 n l)(h':v8 n m):∃j,j∈l/\j∈m:=by apply Classical.byContradiction;intro p;have c:∀a∈l,∀b∈m,a≠b:=λa g b e d=>p ⟨a,g,d ▸ e⟩;have f:lS n (l++m):=⟨List.nodup_append.2 ⟨h.1.1,h'.1.1,c⟩,λj i=>(List.mem_append.1 i).elim (h.1.2 j) (h'.1.2 j)⟩;obtain⟨k,rfl⟩:=Int.eq_ofNat_of_zero_le h.2.1;have o:=B1 k _ f;have q:=h.2.2;have r:=h'.2.2;rw[List.length_append]at o;omega
structure Gh where
  acc:Int->Int->Int->V->Prop
  jr:Int->Int->V->Prop
  jh:Int->Int->Int->Int->V->Prop
structure Px(n:Int)(g:Gh):Prop where
  a1:∀{j e b v},g.acc j e b v->g.jr e b v
  a2:∀{e b v v'},g.jr e b v->g.jr e b v'->v=v'
  a3:∀{j e b wa v b' v'},g.jh j e b wa v->g.acc j e b' v'->b'<=wa∨b<=b'
  a4:∀{j e b wa v},g.jh j e b wa v->0<wa->g.acc j e wa v
  a5:∀{e b v},g.jr e b v->∃l:List Int,v8 n l/\∃wx:Int,wx<b/\(∀j∈l,∃wa u,g.jh j e b wa u/\wa<=wx)/\(wx<=0∨∃j,g.jh j e b wx v)
  a6:∀{e b v},g.jr e b v->0<b
def lJ(n:Int)(g:Gh)(e b:Int)(v:V):Prop:=∃l,v8 n l/\∀j∈l,g.acc j e b v
def Px.safe{n:Int}{g:Gh}(h:Px n g){e d:Int}{v':V}(D:lJ n g e d v'):∀(k:Nat) (b:Int) (v:V),b.toNat<=k->d<=b->g.jr e b v->v=v':=by
 obtain⟨E,a,c⟩:=D;have B:0<d:=by obtain⟨j,f,_⟩:=sU a a;exact h.a6 (h.a1 (c j f))
 intro k;induction k with
 |zero=>intro b v z y m;have:=h.a6 m;omega
 |succ k ih=>
  intro b v z y m;by_cases r:b=d;·obtain⟨j,f,_⟩:=sU a a;subst r;exact h.a2 m (h.a1 (c j f))
  ·obtain⟨l,w,s,x,A,o⟩:=h.a5 m;obtain⟨j,f,p⟩:=sU w a;obtain⟨wa,u,q,C⟩:=A j f;have F:=h.a3 q (c j p);have t:d<=s:=oG;rcases o with o|⟨i,o⟩;·omega
   ·exact ih s v oG t (h.a1 (h.a4 o oG))
def Px.one{n:Int}{g:Gh}(h:Px n g){e b c:Int}{v v':V}(k:lJ n g e b v)(f:lJ n g e c v'):v=v':=by
 have d:∀{b c:Int} {v v':V},lJ n g e b v->lJ n g e c v'->c<=b->v=v':=by intro b c v v' q m a;obtain⟨l,i,o⟩:=q;obtain⟨j,p,_⟩:=sU i i;exact h.safe m b.toNat b v r_ a (h.a1 (o j p))
 rcases Int.le_total c b with a|a;·exact d k f a
 ·exact(d f k a).symm
end AG
namespace AG
structure Vo where
  ep:Int
  pr:Int->Int
  ac:Int->Int
  vl:Int->V
  ph:Int
  ba:Int
  go:V
  fw:Int
  fv:V
  an:List Int
structure Vx(n:Int)(x:Int->Vo)(g:Gh):Prop extends Px n g where
  n1:∀{j e b v},g.acc j e b v->e<(x j).ep∨b<=(x j).ac e
  n2:∀{j e},0<=j->j<n->(x j).ep<=e->0<(x j).ac e->g.acc j e ((x j).ac e) ((x j).vl e)
  lw:∀{j e},0<=j->j<n->(x j).ep<=e->0<=(x j).ac e/\(x j).ac e<=(x j).pr e
  n3:∀{j e b wa v},g.jh j e b wa v->wa<=b/\(e<(x j).ep∨b<=(x j).pr e)
  n4:∀{e b v},g.jr e b v->0<=b%5/\b%5<n/\(e<(x (b%5)).ep∨b<=(x (b%5)).pr e)
  n5:∀{j},0<=j->j<n->0<(x j).ba->(x j).ba%5=j/\(x j).ba<=(x j).pr (x j).ep
  n6:∀{j v},0<=j->j<n->(x j).ph=2->0<(x j).ba->¬g.jr (x j).ep (x j).ba v
  n7:∀{j},0<=j->j<n->(x j).ph=2->0<(x j).ba->lS n (x j).an/\(∀i∈(x j).an,∃wa u,g.jh i (x j).ep (x j).ba wa u/\wa<=(x j).fw)/\((x j).fw<=0∨∃i,g.jh i (x j).ep (x j).ba (x j).fw (x j).fv)
  n8:∀{j},0<=j->j<n->(x j).ph=3->0<(x j).ba->g.jr (x j).ep (x j).ba (x j).go/\lS n (x j).an/\∀i∈(x j).an,g.acc i (x j).ep (x j).ba (x j).go
  r1:∀{j e b v},g.acc j e b v->0<=j/\j<n
  r2:∀{j e b wa v},g.jh j e b wa v->0<=j/\j<n
def upd{α:Type}(x:Int->α)(j:Int)(a:α):Int->α:=λi=>if i=j then a else x i
@[simp] theorem upd_self{α:Type}(x:Int->α)(j:Int)(a:α):upd x j a j=a:=by simp[upd]
def OI{α β:Type}(f:α->β)(x:Int->α)(j:Int)(a:α):(λi=>f (upd x j a i))=upd (λi=>f (x i)) j (f a):=by funext i;unfold upd;split<;>rfl
def upd_ne{α:Type}{x:Int->α}{i j:Int}{a:α}(h:i≠j):upd x j a i=x i:=by simp[upd,h]
def Vx.idle{n:Int}{x:Int->Vo}{g:Gh}(h:Vx n x g){j:Int}{a:Vo}(o:a.ep=(x j).ep)(d:a.pr=(x j).pr)(p:a.ac=(x j).ac)(q:a.vl=(x j).vl)(c:a.ba<=0):Vx n (upd x j a) g:=by
 have E:∀i,(upd x j a i).ep=(x i).ep/\(upd x j a i).pr=(x i).pr/\(upd x j a i).ac=(x i).ac/\(upd x j a i).vl=(x i).vl:=by
  intro i;by_cases hi:i=j;·subst hi;simp[o,d,p,q]
  ·rw[upd_ne hi];simp
 have B:∀i,0<(upd x j a i).ba->upd x j a i=x i:=by
  intro i;by_cases hi:i=j;·subst hi;simp;omega
  ·intro _;exact upd_ne hi
 refine{toPx:=h.toPx,n1:=?_,n2:=?_,lw:=?_,n3:=?_,n4:=?_,n5:=?_,n6:=?_,n7:=?_,n8:=?_,r1:=h.r1,r2:=h.r2};·intro i e b v m;rw[(E i).1,(E i).2.2.1];exact h.n1 m
 ·intro i e;rw[(E i).1,(E i).2.2.1,(E i).2.2.2];exact h.n2
 ·intro i e;rw[(E i).1,(E i).2.2.1,(E i).2.1];exact h.lw
 ·intro i e b wa v m;rw[(E i).1,(E i).2.1];exact h.n3 m
 ·intro e b v m;rw[(E _).1,(E _).2.1];exact h.n4 m
 ·intro i f k c;have l:=B i c;rw[l]at c⊢;exact h.n5 f k c
 ·intro i v f k d c;have l:=B i c;rw[l]at c d⊢;exact h.n6 f k d c
 ·intro i f k d c;have l:=B i c;rw[l]at c d⊢;exact h.n7 f k d c
 ·intro i f k d c;have l:=B i c;rw[l]at c d⊢;exact h.n8 f k d c
def eH{α:Type}(f:Int->α)(e:Int)(a:α):Int->α:=λi=>if i=e then a else f i
def Vx.promise{n:Int}{x:Int->Vo}{g:Gh}(h:Vx n x g){j e b:Int}(s:0<=j)(t:j<n)(y:(x j).ep<=e)(B:(x j).pr e<=b):Vx n (upd x j {x j with pr:=eH (x j).pr e b}) {g with jh:=λi f o wa v=>g.jh i f o wa v∨(i=j/\f=e/\o=b/\wa=(x j).ac e/\v=(x j).vl e)}:=by
 have U:∀i,(upd x j {x j with pr:=eH (x j).pr e b} i)={x i with pr:=if i=j then eH (x j).pr e b else(x i).pr}:=by
  intro i;by_cases hi:i=j;·subst hi;simp
  ·rw[upd_ne hi];simp[hi]
 have P:∀i f,(x i).ep<=f->(x i).pr f<=(if i=j then eH (x j).pr e b else(x i).pr) f:=by
  intro i f _;by_cases hi:i=j
  ·subst hi;simp only[if_true,eH];split;·next a=>subst a;exact B
   ·exact Int.le_refl _
  ·simp[hi]
 have P2:∀i f c,f<(x i).ep∨c<=(x i).pr f->f<(x i).ep∨c<=(if i=j then eH (x j).pr e b else(x i).pr) f:=by
  intro i f c a;by_cases r:f<(x i).ep;·exact .inl r
  ·exact .inr (Int.le_trans (a.resolve_left r) (P i f oG))
 have A:=h.lw s t y;refine{a1:=h.a1,a2:=h.a2,a3:=?_,a4:=?_,a5:=?_,a6:=h.a6,n1:=?_,n2:=?_,lw:=?_,n3:=?_,n4:=?_,n5:=?_,n6:=?_,n7:=?_,n8:=?_,r1:=h.r1,r2:=?_}
 ·intro i f o wa v Q O a z;rcases a with a|⟨rfl,rfl,rfl,rfl,rfl⟩;·exact h.a3 a z
  ·have:=h.n1 z;omega
 ·intro i f o wa v a w;rcases a with a|⟨rfl,rfl,rfl,rfl,rfl⟩;·exact h.a4 a w
  ·exact h.n2 s t y w
 ·intro f o v a;obtain⟨l,L,F,r,D,M⟩:=h.a5 a;exact⟨l,L,F,r,λi hi=>let ⟨wa,u,h2,h3⟩:=D i hi;⟨wa,u,.inl h2,h3⟩,M.imp id (λ⟨i,h2⟩=>⟨i,.inl h2⟩)⟩
 ·intro i f o v a;rw[U i];exact h.n1 a
 ·intro i f m d;rw[U i];exact h.n2 m d
 ·intro i f m d;rw[U i];intro q;exact⟨(h.lw m d q).1,Int.le_trans (h.lw m d q).2 (P i f q)⟩
 ·intro i f o wa v a;rw[U i];rcases a with a|⟨rfl,rfl,rfl,rfl,rfl⟩;·exact⟨(h.n3 a).1,P2 i f o (h.n3 a).2⟩
  ·exact⟨oG,.inr (by simp[eH])⟩
 ·intro f o v a;rw[U _];exact⟨(h.n4 a).1,(h.n4 a).2.1,P2 _ f o (h.n4 a).2.2⟩
 ·intro i m d;rw[U i];intro p;exact⟨(h.n5 m d p).1,Int.le_trans (h.n5 m d p).2 (P i _ (Int.le_refl _))⟩
 ·intro i v m d;rw[U i];exact h.n6 m d
 ·intro i m d;rw[U i];intro K p;obtain⟨E,N,H⟩:=h.n7 m d K p;exact⟨E,λk C=>let ⟨wa,u,h2,h3⟩:=N k C;⟨wa,u,.inl h2,h3⟩,H.imp id (λ⟨k,h2⟩=>⟨k,.inl h2⟩)⟩
 ·intro i m d;rw[U i];exact h.n8 m d
 ·intro i f o wa v a;rcases a with a|⟨rfl,rfl,rfl,rfl,rfl⟩;·exact h.r2 a
  ·exact⟨s,t⟩
def Vx.accept{n:Int}{x:Int->Vo}{g:Gh}(h:Vx n x g){j e b:Int}{v:V}(w:0<=j)(y:j<n)(K:(x j).ep<=e)(B:(x j).pr e<=b)(z:g.jr e b v):Vx n (upd x j {x j with pr:=eH (x j).pr e b,ac:=eH (x j).ac e b,vl:=eH (x j).vl e v}) {g with acc:=λi f m v'=>g.acc i f m v'∨(i=j/\f=e/\m=b/\v'=v)}:=by
 have U:∀i,(upd x j {x j with pr:=eH (x j).pr e b,ac:=eH (x j).ac e b,vl:=eH (x j).vl e v} i)={x i with pr:=if i=j then eH (x j).pr e b else(x i).pr,ac:=if i=j then eH (x j).ac e b else(x i).ac,vl:=if i=j then eH (x j).vl e v else(x i).vl}:=by
  intro i;by_cases hi:i=j;·subst hi;simp
  ·rw[upd_ne hi];simp[hi]
 have A:=h.lw w y K;have H:=h.a6 z;have P:∀i f,(x i).pr f<=(if i=j then eH (x j).pr e b else(x i).pr) f:=by
  intro i f;by_cases hi:i=j
  ·subst hi;simp only[if_true,eH];split;·next l=>subst l;exact B
   ·exact Int.le_refl _
  ·simp[hi]
 have P2:∀i f c,f<(x i).ep∨c<=(x i).pr f->f<(x i).ep∨c<=(if i=j then eH (x j).pr e b else(x i).pr) f:=
  λi f c l=>l.imp id (λl=>Int.le_trans l (P i f))
 refine{a1:=?_,a2:=h.a2,a3:=?_,a4:=?_,a5:=h.a5,a6:=h.a6,n1:=?_,n2:=?_,lw:=?_,n3:=?_,n4:=?_,n5:=?_,n6:=?_,n7:=?_,n8:=?_,r1:=?_,r2:=h.r2}
 ·intro i f m v' l;rcases l with l|⟨rfl,rfl,rfl,rfl⟩;·exact h.a1 l
  ·exact z
 ·intro i f m wa u N M q t;rcases t with t|⟨rfl,rfl,rfl,rfl⟩;·exact h.a3 q t
  ·have:=(h.n3 q).2;omega
 ·intro i f m wa u q F;exact .inl (h.a4 q F)
 ·intro i f m v' l;rw[U i];rcases l with l|⟨rfl,rfl,rfl,rfl⟩
  ·have:=h.n1 l;by_cases hi:i=j
   ·subst hi;simp only[if_true,eH];split;·next hx=>subst hx;omega
    ·exact this
   ·simpa[hi] using this
  ·simp[eH]
 ·intro i f d a;rw[U i];by_cases hi:i=j
  ·subst hi;simp only[if_true,eH];intro o;split;·next hx=>intro _;exact .inr ⟨trivial,hx,rfl,rfl⟩
   ·intro s;exact .inl (h.n2 d a o s)
  ·simp only[hi,if_false];intro o s;exact .inl (h.n2 d a o s)
 ·intro i f d a;rw[U i];by_cases hi:i=j
  ·subst hi;simp only[if_true,eH];intro o;split;·omega
   ·exact h.lw d a o
  ·simp only[hi,if_false];exact h.lw d a
 ·intro i f m wa u q;rw[U i];exact⟨(h.n3 q).1,P2 i f m (h.n3 q).2⟩
 ·intro f m u l;rw[U _];exact⟨(h.n4 l).1,(h.n4 l).2.1,P2 _ f m (h.n4 l).2.2⟩
 ·intro i d a;rw[U i];intro p;exact⟨(h.n5 d a p).1,Int.le_trans (h.n5 d a p).2 (P i _)⟩
 ·intro i u d a;rw[U i];exact h.n6 d a
 ·intro i d a;rw[U i];exact h.n7 d a
 ·intro i d a;rw[U i];intro r p;obtain⟨D,L,E⟩:=h.n8 d a r p;exact⟨D,L,λk C=>.inl (E k C)⟩
 ·intro i f m v' l;rcases l with l|⟨rfl,rfl,rfl,rfl⟩;·exact h.r1 l
  ·exact⟨w,y⟩
def Vx.mine{n:Int}{x:Int->Vo}{g:Gh}(h:Vx n x g){j:Int}{a:Vo}(A:0<=j)(B:j<n)(s:a.ep=(x j).ep)(l:a.pr=(x j).pr)(k:a.ac=(x j).ac)(t:a.vl=(x j).vl)(z:0<a.ba->a.ba%5=j/\a.ba<=a.pr a.ep)(r:a.ph=2->0<a.ba->∀v,¬g.jr a.ep a.ba v)(o:a.ph=2->0<a.ba->lS n a.an/\(∀i∈a.an,∃wa u,g.jh i a.ep a.ba wa u/\wa<=a.fw)/\(a.fw<=0∨∃i,g.jh i a.ep a.ba a.fw a.fv))(w:a.ph=3->0<a.ba->g.jr a.ep a.ba a.go/\lS n a.an/\∀i∈a.an,g.acc i a.ep a.ba a.go):Vx n (upd x j a) g:=by
 have E:∀i,(upd x j a i).ep=(x i).ep/\(upd x j a i).pr=(x i).pr/\(upd x j a i).ac=(x i).ac/\(upd x j a i).vl=(x i).vl:=by
  intro i;by_cases hi:i=j;·subst hi;simp[s,l,k,t]
  ·rw[upd_ne hi];simp
 have S:∀(Q:Vo->Prop) i,(i=j->Q a)->(i≠j->Q (x i))->Q (upd x j a i):=by
  intro Q i k p;by_cases hi:i=j;·have:=k hi;subst hi;simpa using this
  ·rw[upd_ne hi];exact p hi
 refine{toPx:=h.toPx,n1:=?_,n2:=?_,lw:=?_,n3:=?_,n4:=?_,n5:=?_,n6:=?_,n7:=?_,n8:=?_,r1:=h.r1,r2:=h.r2};·intro i e b v f;rw[(E i).1,(E i).2.2.1];exact h.n1 f
 ·intro i e;rw[(E i).1,(E i).2.2.1,(E i).2.2.2];exact h.n2
 ·intro i e;rw[(E i).1,(E i).2.2.1,(E i).2.1];exact h.lw
 ·intro i e b wa v f;rw[(E i).1,(E i).2.1];exact h.n3 f
 ·intro e b v f;rw[(E _).1,(E _).2.1];exact h.n4 f
 ·intro i d c;exact S (λy=>0<y.ba->y.ba%5=i/\y.ba<=y.pr y.ep) i (λhi=>hi ▸ z) (λ_=>h.n5 d c)
 ·intro i v d c;exact S (λy=>y.ph=2->0<y.ba->¬g.jr y.ep y.ba v) i (λ_ m q=>r m q v) (λ_=>h.n6 d c)
 ·intro i d c;exact S (λy=>y.ph=2->0<y.ba->lS n y.an/\(∀i∈y.an,∃wa u,g.jh i y.ep y.ba wa u/\wa<=y.fw)/\(y.fw<=0∨∃i,g.jh i y.ep y.ba y.fw y.fv)) i (λ_=>o) (λ_=>h.n7 d c)
 ·intro i d c;exact S (λy=>y.ph=3->0<y.ba->g.jr y.ep y.ba y.go/\lS n y.an/\∀i∈y.an,g.acc i y.ep y.ba y.go) i (λ_=>w) (λ_=>h.n8 d c)
def Vx.take{n:Int}{x:Int->Vo}{g:Gh}(h:Vx n x g){j b:Int}(c:0<=j)(l:j<n)(k:b%5=j)(m:0<b)(r:(x j).pr (x j).ep<b)(go:V):Vx n (upd x j {x j with pr:=eH (x j).pr (x j).ep b,ph:=2,ba:=b,go:=go,fw:=(x j).ac (x j).ep,fv:=(x j).vl (x j).ep,an:=[j]}) {g with jh:=λi o f wa v=>g.jh i o f wa v∨(i=j/\o=(x j).ep/\f=b/\wa=(x j).ac (x j).ep/\v=(x j).vl (x j).ep)}:=by
 have q:=h.promise c l (Int.le_refl _) (Int.le_of_lt r);have d:=q.mine (j:=j) (a:={x j with pr:=eH (x j).pr (x j).ep b,ph:=2,ba:=b,go:=go,fw:=(x j).ac (x j).ep,fv:=(x j).vl (x j).ep,an:=[j]}) c l sG sG sG sG (λ_=>⟨k,by simp[eH]⟩) ?_ ?_ (by intro s;simp at s)
 ·have e:upd (upd x j {x j with pr:=eH (x j).pr (x j).ep b}) j {x j with pr:=eH (x j).pr (x j).ep b,ph:=2,ba:=b,go:=go,fw:=(x j).ac (x j).ep,fv:=(x j).vl (x j).ep,an:=[j]}=upd x j {x j with pr:=eH (x j).pr (x j).ep b,ph:=2,ba:=b,go:=go,fw:=(x j).ac (x j).ep,fv:=(x j).vl (x j).ep,an:=[j]}:=by
   funext i;by_cases hi:i=j;·subst hi;simp
   ·rw[upd_ne hi,upd_ne hi,upd_ne hi]
  rw[e]at d;exact d
 ·intro _ _ v p;have t:=(h.n4 p).2.2;simp only[k]at t;omega
 ·intro _ _;refine⟨⟨sG,λi hi=>by simp at hi;omega⟩,λi hi=>?_,.inr ⟨j,.inr ⟨rfl,rfl,rfl,rfl,rfl⟩⟩⟩;simp at hi;exact⟨_,_,.inr ⟨hi,rfl,rfl,rfl,rfl⟩,Int.le_refl _⟩
def Vx.count{n:Int}{x:Int->Vo}{g:Gh}(h:Vx n x g){j i wa:Int}{u:V}(f:0<=j)(l:j<n)(e:(x j).ph=2)(d:0<(x j).ba)(m:g.jh i (x j).ep (x j).ba wa u)(t:i∉(x j).an):Vx n (upd x j {x j with fw:=if(x j).fw<wa then wa else(x j).fw,fv:=if(x j).fw<wa then u else(x j).fv,an:=(x j).an++[i]}) g:=by
 obtain⟨q,A,z⟩:=h.n7 f l e d;refine h.mine f l rfl rfl rfl rfl (λ_=>h.n5 f l d) (λ_ _ v=>h.n6 f l e d) (λ_ _=>⟨⟨?_,?_⟩,?_,?_⟩) (by intro w;simp at w;omega);·exact List.nodup_append.2 ⟨q.1,sG,λa y b p s=>by simp at p;subst p;subst s;exact t y⟩
 ·intro k c;rcases List.mem_append.1 c with c|c;·exact q.2 k c
  ·simp at c;subst c;exact h.r2 m
 ·intro k c;rcases List.mem_append.1 c with c|c;·obtain⟨o,u',r,B⟩:=A k c;exact⟨o,u',r,by dsimp only;split<;>omega⟩
  ·simp at c;subst c;exact⟨wa,u,m,by dsimp only;split<;>omega⟩
 ·dsimp only;split;·exact .inr ⟨i,m⟩
  ·exact z
def Vx.gy{n:Int}{x:Int->Vo}{g:Gh}(h:Vx n x g){j:Int}{v:V}(p:0<=j)(q:j<n)(l:(x j).ph=2)(d:0<(x j).ba)(D:n<2*((x j).an.length:Int))(K:0<(x j).fw->v=(x j).fv):Vx n (upd x j {x j with ph:=3,go:=v,an:=[]}) {g with jr:=λe b u=>g.jr e b u∨(e=(x j).ep/\b=(x j).ba/\u=v)}:=by
 obtain⟨F,N,r⟩:=h.n7 p q l d;have A:=h.n5 p q d;have t:(x j).fw<(x j).ba:=by
  rcases r with r|⟨i,r⟩;·omega
  ·by_cases B:0<(x j).fw
   ·have O:=(h.n3 r).1;have C:=h.a1 (h.a4 r B);by_cases H:(x j).fw=(x j).ba;·rw[H]at C;exact absurd C (h.n6 p q l d)
    ·omega
   ·omega
 have S:∀(Q:Vo->Prop) i,(i=j->Q {x j with ph:=3,go:=v,an:=[]})->(i≠j->Q (x i))->Q (upd x j {x j with ph:=3,go:=v,an:=[]} i):=by
  intro Q i L w;by_cases hi:i=j;·have:=L hi;subst hi;simpa using this
  ·rw[upd_ne hi];exact w hi
 have E:∀i,(upd x j {x j with ph:=3,go:=v,an:=[]} i).ep=(x i).ep/\(upd x j {x j with ph:=3,go:=v,an:=[]} i).pr=(x i).pr/\(upd x j {x j with ph:=3,go:=v,an:=[]} i).ac=(x i).ac/\(upd x j {x j with ph:=3,go:=v,an:=[]} i).vl=(x i).vl/\(upd x j {x j with ph:=3,go:=v,an:=[]} i).ba=(x i).ba:=by
  intro i;by_cases hi:i=j;·subst hi;simp
  ·rw[upd_ne hi];simp
 refine{a1:=λf=>.inl (h.a1 f),a2:=?_,a3:=h.a3,a4:=h.a4,a5:=?_,a6:=?_,n1:=?_,n2:=?_,lw:=?_,n3:=?_,n4:=?_,n5:=?_,n6:=?_,n7:=?_,n8:=?_,r1:=h.r1,r2:=h.r2}
 ·intro e b u u' k m;rcases k with k|⟨rfl,rfl,rfl⟩<;>rcases m with m|⟨M,w,z⟩;·exact h.a2 k m
  ·rw[M,w]at k;exact absurd k (h.n6 p q l d)
  ·exact absurd m (h.n6 p q l d)
  ·exact z.symm
 ·intro e b u k;rcases k with k|⟨rfl,rfl,rfl⟩;·exact h.a5 k
  ·refine⟨(x j).an,⟨F,oG,D⟩,(x j).fw,t,N,?_⟩;by_cases B:0<(x j).fw;·rw[K B];exact r
   ·exact .inl oG
 ·intro e b u k;rcases k with k|⟨rfl,rfl,rfl⟩;·exact h.a6 k
  ·exact d
 ·intro i e b v f;rw[(E i).1,(E i).2.2.1];exact h.n1 f
 ·intro i e;rw[(E i).1,(E i).2.2.1,(E i).2.2.2.1];exact h.n2
 ·intro i e;rw[(E i).1,(E i).2.2.1,(E i).2.1];exact h.lw
 ·intro i e b wa v f;rw[(E i).1,(E i).2.1];exact h.n3 f
 ·intro e b u f;rw[(E _).1,(E _).2.1];rcases f with f|⟨rfl,rfl,rfl⟩;·exact h.n4 f
  ·rw[A.1];exact⟨p,q,.inr A.2⟩
 ·intro i c a;rw[(E i).1,(E i).2.1,(E i).2.2.2.2];exact h.n5 c a
 ·intro i u c a;refine S (λy=>y.ph=2->0<y.ba->¬(g.jr y.ep y.ba u∨(y.ep=(x j).ep/\y.ba=(x j).ba/\u=v))) i (λ_ o=>by simp at o) (λhi o s=>?_);rintro(f|⟨_,f,_⟩);·exact h.n6 c a o s f
  ·have:=(h.n5 c a s).1;rw[f,A.1]at this;exact hi this.symm
 ·intro i c a;exact S (λy=>y.ph=2->0<y.ba->lS n y.an/\(∀i∈y.an,∃wa u,g.jh i y.ep y.ba wa u/\wa<=y.fw)/\(y.fw<=0∨∃i,g.jh i y.ep y.ba y.fw y.fv)) i (λ_ o=>by simp at o) (λ_=>h.n7 c a)
 ·intro i c a;exact S (λy=>y.ph=3->0<y.ba->(g.jr y.ep y.ba y.go∨(y.ep=(x j).ep/\y.ba=(x j).ba/\y.go=v))/\lS n y.an/\∀i∈y.an,g.acc i y.ep y.ba y.go) i (λ_ _ _=>⟨.inr ⟨rfl,rfl,rfl⟩,⟨sG,sG⟩,sG⟩) (λ_ o s=>let ⟨z1,z2,z3⟩:=h.n8 c a o s;⟨.inl z1,z2,z3⟩)
def Vx.tally{n:Int}{x:Int->Vo}{g:Gh}(h:Vx n x g){j i:Int}{u:V}(e:0<=j)(o:j<n)(m:(x j).ph=3)(d:0<(x j).ba)(f:g.acc i (x j).ep (x j).ba u)(v:i∉(x j).an):Vx n (upd x j {x j with an:=(x j).an++[i]}) g:=by
 obtain⟨q,r,y⟩:=h.n8 e o m d;have t:=h.a2 q (h.a1 f);refine h.mine e o rfl rfl rfl rfl (λ_=>h.n5 e o d) (by intro l;simp at l;omega) (by intro l;simp at l;omega) (λ_ _=>⟨q,⟨?_,?_⟩,?_⟩);·exact List.nodup_append.2 ⟨r.1,sG,λa w b p s=>by simp at p;subst p;subst s;exact v w⟩
 ·intro k c;rcases List.mem_append.1 c with c|c;·exact r.2 k c
  ·simp at c;subst c;exact h.r1 f
 ·intro k c;rcases List.mem_append.1 c with c|c;·exact y k c
  ·simp at c;subst c;dsimp only;rw[t];exact f
def Vx.chosen{n:Int}{x:Int->Vo}{g:Gh}(h:Vx n x g){j:Int}(e:0<=j)(d:j<n)(b:(x j).ph=3)(a:0<(x j).ba)(c:n<2*((x j).an.length:Int)):lJ n g (x j).ep (x j).ba (x j).go:=
  let ⟨_,q2,q3⟩:=h.n8 e d b a
  ⟨_,⟨q2,oG,c⟩,q3⟩
def Vx.learn{n:Int}{x:Int->Vo}{g:Gh}(h:Vx n x g){j:Int}{a:Vo}(r:a.ep=(x j).ep+1)(m:∀e,a.ep<=e->a.pr e=(x j).pr e)(l:∀e,a.ep<=e->a.ac e=(x j).ac e)(q:∀e,a.ep<=e->a.vl e=(x j).vl e)(o:a.ba<=0):Vx n (upd x j a) g:=by
 have S:∀(Q:Vo->Prop) i,(i=j->Q a)->(i≠j->Q (x i))->Q (upd x j a i):=by
  intro Q i l o;by_cases hi:i=j;·have:=l hi;subst hi;simpa using this
  ·rw[upd_ne hi];exact o hi
 refine{toPx:=h.toPx,n1:=?_,n2:=?_,lw:=?_,n3:=?_,n4:=?_,n5:=?_,n6:=?_,n7:=?_,n8:=?_,r1:=h.r1,r2:=h.r2}
 ·intro i e b v f;refine S (λy=>e<y.ep∨b<=y.ac e) i (λhi=>?_) (λ_=>h.n1 f);subst hi;by_cases k:a.ep<=e;·rw[l e k];have:=h.n1 f;omega
  ·omega
 ·intro i e d c;refine S (λy=>y.ep<=e->0<y.ac e->g.acc i e (y.ac e) (y.vl e)) i (λhi k=>?_) (λ_=>h.n2 d c);subst hi;rw[l e k,q e k];exact h.n2 d c oG
 ·intro i e d c;refine S (λy=>y.ep<=e->0<=y.ac e/\y.ac e<=y.pr e) i (λhi k=>?_) (λ_=>h.lw d c);subst hi;rw[l e k,m e k];exact h.lw d c oG
 ·intro i e b wa v f;refine⟨(h.n3 f).1,S (λy=>e<y.ep∨b<=y.pr e) i (λhi=>?_) (λ_=>(h.n3 f).2)⟩;subst hi;by_cases k:a.ep<=e;·rw[m e k];have:=(h.n3 f).2;omega
  ·omega
 ·intro e b v f;refine⟨(h.n4 f).1,(h.n4 f).2.1,S (λy=>e<y.ep∨b<=y.pr e) _ (λhi=>?_) (λ_=>(h.n4 f).2.2)⟩;have p:=(h.n4 f).2.2;rw[hi]at p;by_cases k:a.ep<=e;·rw[m e k];omega
  ·omega
 ·intro i d c;exact S (λy=>0<y.ba->y.ba%5=i/\y.ba<=y.pr y.ep) i (λ_ _=>oG) (λ_=>h.n5 d c)
 ·intro i v d c;exact S (λy=>y.ph=2->0<y.ba->¬g.jr y.ep y.ba v) i (λ_ _ _=>oG) (λ_=>h.n6 d c)
 ·intro i d c;exact S (λy=>y.ph=2->0<y.ba->lS n y.an/\(∀i∈y.an,∃wa u,g.jh i y.ep y.ba wa u/\wa<=y.fw)/\(y.fw<=0∨∃i,g.jh i y.ep y.ba y.fw y.fv)) i (λ_ _ _=>oG) (λ_=>h.n7 d c)
 ·intro i d c;exact S (λy=>y.ph=3->0<y.ba->g.jr y.ep y.ba y.go/\lS n y.an/\∀i∈y.an,g.acc i y.ep y.ba y.go) i (λ_ _ _=>oG) (λ_=>h.n8 d c)
end AG
namespace AG
abbrev Rc:=eM
structure Ms where
  k:Int
  f:Int
  e:Int
  b:Int
  wa:Int
  p:Int
  s:Int
  q:Int
  bl:Int
  v:Int
  zs:List Int
abbrev Rs:=dO
structure Du where
  id:Int
  recs:List Rc
  kv:List (Int×PV)
  bk:Int->Int
  seen:Int
  last:Int
def Du.takes(d:Du)(E P:Int):Bool:=P==d.id+1&&decide (d.seen<E)
def Du.learn(d:Du)(E P S:Int):Du:={d with recs:=d.recs++[⟨E,P,S⟩],seen:=if d.takes E P=true then E else d.seen,last:=if d.takes E P=true then 0 else d.last,kv:=fT d.3 (E - 1)}
def Du.step(d:Du)(m:Ms):Du:=
  if m.k=1 then{d with kv:=f8 d.3 m.e ((dJ d.3 m.e).after 1 m.b m.p m.s)}
  else if m.k=3 then{d with kv:=f8 d.3 m.e ((dJ d.3 m.e).after 3 m.b m.p m.s)}
  else if m.k=6 then d.learn (m.e+1) m.p m.s
  else if m.k=7 then{d with seen:=m.e,last:=m.q,bk:=λi=>if i=m.bl then m.v else d.bk i}
  else{d with seen:=m.e,last:=m.q,bk:=λi=>bif decide (0<=i) then m.zs.getD i.toNat (d.bk i) else d.bk i}
structure Nd where
  id:Int
  nodes:Int
  nb:Int
  d:Du
  down:Bool
  act:Bool
  ph:Int
  gP:Int
  gS:Int
  jo:Int
  ba:Int
  rf:Int
  fo:Ms
  an:List Ky
  on:Int
  ow:Ms
  oa:List Ky
  ops:Int
  res:List Rs
  tr:Ms
def Ms.nil:Ms:=⟨0,0,0,0,0,0,0,0,0,0,[]⟩
def Du.ep(d:Du):Int:=d.recs.length - 1
def Du.rc(d:Du)(e:Int):Rc:=d.recs.getD e.toNat ⟨0,0,0⟩
def Nd.stand(n:Nd):Nd:={n with act:=false,ph:=0,gP:=0,gS:=0,jo:=0,ba:=0,rf:=0,fo:=.nil,an:=[],on:=0,ow:=.nil,oa:=[]}
def Nd.fall(n:Nd)(m:Ms):Nd:={n.stand with down:=true,tr:=m}
def Nd.save(n:Nd)(m:Ms):Bool->Nd
  |true=>{n with d:=n.d.step m}
  |false=>n.fall m
def bit(s i:Int):Prop:=s / 2 ^ i.toNat%2=1
def Fol(a:Rc)(E P S:Int):Prop:=0<=a.E/\a.E<1000000000000/\E=a.E+1/\1<=P/\P<=5/\1<=S/\S<=31/\bit S (P - 1)/\((∀i,0<=i->i<5->bit S i->bit a.S i)∨(P=a.P/\∃j,0<=j/\j<5/\¬bit a.S j/\∀i,0<=i->i<5->(bit S i↔bit a.S i∨i=j)))
def folB(a:Rc)(E P S:Int):Bool:=decide (0<=a.S/\a.S<=31)&&lA a.E a.P a.S E P S
def MT:∀s:Fin 32,∀o:Fin 32,jX s.val (o.val:Int)=0->∀i:Fin 5,(s.val:Int) / 2 ^ i.val%2=1->(o.val:Int) / 2 ^ i.val%2=1:=by decide +kernel
def MU:∀s:Fin 32,∀o:Fin 32,nB (jX s.val (o.val:Int))=1->((s.val:Nat):Int)=bits .or .i64 (o.val:Int) (jX s.val (o.val:Int):Int)->∃j:Fin 5,¬((o.val:Int) / 2 ^ j.val%2=1)/\∀i:Fin 5,((s.val:Int) / 2 ^ i.val%2=1↔(o.val:Int) / 2 ^ i.val%2=1∨i=j):=by decide +kernel
def KU:∀s:Fin 32,∀o:Fin 32,(∀i:Fin 5,(s.val:Int) / 2 ^ i.val%2=1->(o.val:Int) / 2 ^ i.val%2=1)->jX s.val (o.val:Int)=0:=by decide +kernel
def KV:∀s:Fin 32,∀o:Fin 32,∀j:Fin 5,¬((o.val:Int) / 2 ^ j.val%2=1)->(∀i:Fin 5,((s.val:Int) / 2 ^ i.val%2=1↔(o.val:Int) / 2 ^ i.val%2=1∨i=j))->nB (jX s.val (o.val:Int))=1/\((s.val:Nat):Int)=bits .or .i64 (o.val:Int) (jX s.val (o.val:Int):Int):=by decide +kernel
def sV{a:Rc}{E P S:Int}(hS:0<=a.S/\a.S<=31)(h:Fol a E P S):folB a E P S=true:=by
 obtain⟨l,q,s,p,m,s0,s1,k,hs⟩:=h;have e:((S.toNat:Nat):Int)=S:=oG;have g:((a.S.toNat:Nat):Int)=a.S:=oG;unfold folB lA lZ mI;simp only[Bool.and_eq_true,decide_eq_true_eq,Bool.or_eq_true,beq_iff_eq];refine⟨hS,⟨l,q,s⟩,⟨⟨p,m,s0,s1⟩,?_⟩,?_⟩;·unfold oM;rw[decide_eq_true_eq];unfold bit at k;rw[k];decide
 rcases hs with hs|⟨t,j,v,u,r,o⟩
 ·left;have d:=KU ⟨S.toNat,oG⟩ ⟨a.S.toNat,oG⟩;simp only[e,g]at d;have f:=d (λi hi=>by have b:=hs (i.val:Int) oG (by have:=i.isLt;omega);unfold bit at b;rw[Int.toNat_natCast]at b;exact b hi)
  omega
 ·right;unfold oO;rw[decide_eq_true_eq];have d:=KV ⟨S.toNat,oG⟩ ⟨a.S.toNat,oG⟩ ⟨j.toNat,oG⟩;simp only[e,g]at d;obtain⟨f,n⟩:=d r (λi=>by
   have b:=o (i.val:Int) oG (by have:=i.isLt;omega);unfold bit at b;rw[Int.toNat_natCast]at b;rw[b];constructor
   ·rintro(c|c);·exact .inl c
    ·exact .inr (Fin.ext (by simp only;omega))
   ·rintro(c|c);·exact .inl c
    ·have:=congrArg Fin.val c;simp only at this;exact .inr oG)
  exact⟨f,t,by rw[e];exact n⟩
def sW{a:Rc}{E P S:Int}(h:folB a E P S=true):Fol a E P S:=by
 unfold folB lA lZ mI at h;simp only[Bool.and_eq_true,decide_eq_true_eq,Bool.or_eq_true,beq_iff_eq]at h;obtain⟨⟨x,a1⟩,⟨k,s,p⟩,⟨⟨t,l,s0,s1⟩,e⟩,hs⟩:=h;have q:bit S (P - 1):=by
  unfold oM at e;rw[decide_eq_true_eq]at e;unfold bit;rcases Int.emod_two_eq (S / 2 ^ (P - 1).toNat) with b|b;·exact absurd b e
  ·exact b
 have d:((S.toNat:Nat):Int)=S:=oG;have f:((a.S.toNat:Nat):Int)=a.S:=oG;refine⟨k,s,p,t,l,s0,s1,q,?_⟩;rcases hs with hs|hs;·refine .inl λi g r hi=>?_;have c:=MT ⟨S.toNat,oG⟩ ⟨a.S.toNat,oG⟩;simp only[d,f]at c;exact c oG ⟨i.toNat,oG⟩ hi
 ·unfold oO at hs;simp only[decide_eq_true_eq]at hs;obtain⟨w,v,m⟩:=hs;have c:=MU ⟨S.toNat,oG⟩ ⟨a.S.toNat,oG⟩;simp only[d,f]at c;obtain⟨j,o,u⟩:=c w (by rw[←m];exact d.symm);refine .inr ⟨v,(j.val:Int),oG,by have:=j.isLt;omega,?_,λi g r=>?_⟩;·unfold bit;rw[Int.toNat_natCast];exact o
  ·have n:=u ⟨i.toNat,oG⟩;unfold bit;rw[n];constructor
   ·rintro(b|b);·exact .inl b
    ·have:=congrArg Fin.val b;simp only at this;exact .inr oG
   ·rintro(b|b);·exact .inl b
    ·exact .inr (Fin.ext (by simp only;omega))
def Nd.others(n:Nd):List Int:=((List.range n.2.toNat).map Int.ofNat).filter (λi=>i≠n.id)
def Nd.tell(n:Nd)(m:Ms)(tq:List Int):List (Int×Ms):=tq.map (λi=>(i,{m with f:=n.id}))
def Nd.decision(n:Nd)(e:Int):Ms:={Ms.nil with k:=6,e:=e,p:=(n.d.rc (e+1)).P,s:=(n.d.rc (e+1)).S}
def Nd.iy(n:Nd)(m:Ms)(ok:Bool):Nd×Ms:=
  if m.e<n.d.ep then(n,n.decision m.e)
  else if m.b<(dJ n.d.3 m.e).pr then(n,{Ms.nil with k:=5,e:=m.e,b:=m.b,wa:=(dJ n.d.3 m.e).pr})
  else
    let was:=dJ n.d.3 m.e
    let a:Ms:=if m.k=3 then{Ms.nil with k:=4,e:=m.e,b:=m.b} else{Ms.nil with k:=2,e:=m.e,b:=m.b,wa:=was.ac,p:=was.pm,s:=was.st}
    if(was.after m.k m.b m.p m.s).nk was=true then(n,a)
    else if ok=true then(n.save m true,a) else(n.fall m,.nil)
def Nd.decided(n:Nd)(m:Ms)(ok:Bool):Nd×Bool:=
  if folB (n.d.rc n.d.ep) (m.e+1) m.p m.s=true then
    if ok=true then({(n.save m true).stand with act:=n.d.takes (m.e+1) m.p},true) else(n.fall m,false)
  else(n,false)
def Nd.fits(n:Nd)(m:Ms):Bool:=mK m.k n.nb m.bl m.zs.length
def Nd.update(n:Nd)(m:Ms)(ok:Bool):Nd×Ms:=
  if n.fits m=false∨m.e=n.d.seen/\(n.act=true∨m.q<n.d.last) then(n,.nil)
  else if m.e<n.d.seen then(n,if m.e<n.d.ep then n.decision m.e else .nil)
  else
    let a:Ms:={Ms.nil with k:=m.k+1,e:=m.e,q:=m.q}
    if m.e=n.d.seen/\m.q=n.d.last then(n,a)
    else if ok=true then(if m.e=n.d.seen then n.save m true else(n.save m true).stand,a) else(n.fall m,.nil)
def Nd.fe(n:Nd)(rf:Int):Int:=
  kF (dJ n.d.3 n.d.ep).pr rf n.id
def Nd.fu(n:Nd)(ok:Bool):Nd×List (Int×Ms):=
  let m:Ms:={Ms.nil with k:=1,e:=n.d.ep,b:=n.fe n.rf}
  if 1000000000000<m.b then(n,[])
  else
    let r:=n.iy m ok
    if r.1.5=true then(r.1,[])
    else({r.1 with ph:=2,ba:=m.b,fo:={r.2 with f:=n.id},an:=[(2,n.d.ep,m.b,n.id)]},n.tell m n.others)
def Nd.gy(n:Nd)(ok:Bool):Nd×List (Int×Ms):=
  let n:=if 0<n.fo.wa then{n with gP:=n.fo.p,gS:=n.fo.s} else n
  let m:Ms:={Ms.nil with k:=3,e:=n.d.ep,b:=n.ba,p:=n.gP,s:=n.gS}
  let r:=n.iy m ok
  if r.1.5=true then(r.1,[])
  else({r.1 with ph:=3,an:=if r.2.k=4 then[(4,n.d.ep,n.ba,n.id)] else[]},n.tell m n.others)
def Nd.conclude(n:Nd)(ok:Bool):Nd×List (Int×Ms):=
  let m:Ms:={Ms.nil with k:=6,e:=n.d.ep,p:=n.gP,s:=n.gS}
  let r:=({n with ph:=0,gP:=0,gS:=0,jo:=0,ba:=0,rf:=0,fo:=.nil,an:=[]}:Nd).decided m ok
  (r.1,if r.2=true then n.tell m n.others else[])
end AG
namespace AG
def vmGet_put(l:List (Int×PV))(e a:Int)(x:PV):dJ (f8 l e x) a=if a=e then x else dJ l a:=by
 induction l with
 |nil=>unfold f8 dJ;by_cases h:a=e<;>simp[h]
 |cons y l ih=>
  unfold f8;by_cases h:e=y.1
  ·rw[if_pos h];by_cases b:a=e;·subst b;simp[dJ]
   ·have c:(a==y.1)=false:=by rw[beq_eq_false_iff_ne];omega
    have f:(a==e)=false:=by simpa using b
    simp[dJ,b,c,f]
  ·rw[if_neg h];by_cases b:a=y.1;·have c:a≠e:=λd=>h (d ▸ b);subst b;simp[dJ,c]
   ·have c:(a==y.1)=false:=by simpa using b
    unfold dJ at ih⊢;simp only[List.find?_cons,c];exact ih
def vmGet_del(l:List (Int×PV))(e a:Int)(h:a≠e):dJ (fT l e) a=dJ l a:=by
 induction l with
 |nil=>rfl
 |cons y l ih=>
  unfold fT;by_cases c:e=y.1
  ·rw[if_pos c];have b:(a==y.1)=false:=by rw[beq_eq_false_iff_ne];omega
   unfold dJ;simp only[List.find?_cons,b]
  ·rw[if_neg c];by_cases d:a=y.1;·subst d;simp[dJ]
   ·have b:(a==y.1)=false:=by simpa using d
    unfold dJ at ih⊢;simp only[List.find?_cons,b];exact ih
def Nd.vo(y:Nd):Vo:={ep:=y.d.ep,pr:=λe=>(dJ y.d.3 e).pr,ac:=λe=>(dJ y.d.3 e).ac,vl:=λe=>((dJ y.d.3 e).pm,(dJ y.d.3 e).st),ph:=y.ph,ba:=y.ba,go:=(y.gP,y.gS),fw:=y.fo.wa,fv:=(y.fo.p,y.fo.s),an:=y.an.map (·.2.2.2)}
def sub(a b:Int):Prop:=∀i,0<=i->i<5->bit a i->bit b i
structure Gv where
  R:Int->Rc
  tk:Int->Prop
  ad:Int->Prop
  mx:Int->Int
  wr:Int->Int->Prop
def Cp(sn:Ms->Prop)(S T e:Int):Prop:=∀i,0<=i->i<5->bit T i->bit S i∨∃m,sn m/\m.k=10/\m.f=i/\m.e=e
def Cp.kw{sn sn':Ms->Prop}{S T e:Int}(h:Cp sn S T e)(hs:∀{m},sn m->sn' m):Cp sn' S T e:=λi a b c=>(h i a b c).imp id (λ⟨m,h1,h2⟩=>⟨m,hs h1,h2⟩)
def jT(u:Gv)(i v:Int):Prop:=v=0∨u.wr i v
def En(n:Int)(d:Du)(g:Gh)(u:Gv)(m:Ms):Prop:=
  (m.k=1/\d.ep<=m.e/\(dJ d.3 m.e).pr<=m.b)∨
  (m.k=3/\d.ep<=m.e/\(dJ d.3 m.e).pr<=m.b/\g.jr m.e m.b (m.p,m.s))∨
  (m.k=6/\m.e=d.ep/\∃b,lJ n g m.e b (m.p,m.s))∨
  ((m.k=7∨m.k=9)/\u.tk m.e/\m.q<=u.4 m.e/\(m.k=7->jT u m.bl m.v)/\(m.k=9->∀i:Nat,i<m.zs.length->jT u i (m.zs.getD i 0))/\(d.seen<m.e∨d.seen=m.e/\d.last<=m.q))
structure mO(n nb j:Int)(a:Nd)(sn:Ms->Prop)(g:Gh)(u:Gv):Prop where
  i0:a.id=j/\a.d.id=j/\a.2=n/\a.nb=nb/\0<=a.d.ep
  k2:a.ph=2->0<a.ba->∀y∈a.an,y.1=2/\y.2.1=a.d.ep/\y.2.2.1=a.ba
  k3:a.ph=3->0<a.ba->∀y∈a.an,y.1=4/\y.2.1=a.d.ep/\y.2.2.1=a.ba
  rr:∀{i},0<=i->i<=a.d.ep->a.d.rc i=u.R i
  rf:∀{e},0<=e->e<a.d.ep->(u.R (e+1)).E=e+1/\∃b,lJ n g e b ((u.R (e+1)).P,(u.R (e+1)).S)
  gc:a.ph≠0->Fol (u.R a.d.ep) (a.d.ep+1) a.gP a.gS/\(sub a.gS (u.R a.d.ep).S∨u.ad a.d.ep/\(a.ph≠1->Cp sn (u.R a.d.ep).S a.gS a.d.ep))
  ap:a.act=true->u.ad a.d.ep->a.ph≠0
  t1:a.act=true->u.tk a.d.ep/\(u.R a.d.ep).P=j+1/\a.d.seen=a.d.ep/\a.d.last=u.4 a.d.ep
  t3:(a.d.seen=0/\a.d.last=0)∨(u.tk a.d.seen/\a.d.last<=u.4 a.d.seen)
  bv:∀{i},0<=i->i<nb->jT u i (a.d.bk i)
  dn:a.5=true->a.act=false/\a.ph=0/\a.on=0
  o1:0<a.on->a.act=true/\a.ow.k=7/\a.ow.e=a.d.ep/\a.ow.q<=a.d.last/\∀y∈a.oa,y.1=8/\y.2.1=a.ow.e/\y.2.2.1=max 0 a.ow.q/\∃m,sn m/\m.k=8/\m.f=y.2.2.2/\m.e=a.ow.e/\m.q=a.ow.q
  pd:a.5=true->En n a.d g u a.tr
  p1:a.ph=1->a.ba<=0/\a.act=true/\∀i,0<=i->i<5->bit a.gS i->bit (u.R a.d.ep).S i∨i=a.jo
  o2:0<a.on->0<=a.ow.bl/\jT u a.ow.bl a.ow.v
structure lF(n:Int)(x:Int->Nd)(g:Gh)(u:Gv)(m:Ms):Prop where
  s2:m.k=2->g.jh m.f m.e m.b m.wa (m.p,m.s)
  s3:m.k=3->g.jr m.e m.b (m.p,m.s)
  s4:m.k=4->∃v,g.acc m.f m.e m.b v
  s6:m.k=6->0<=m.e/\(u.R (m.e+1)).P=m.p/\(u.R (m.e+1)).S=m.s/\∃j,0<=j/\j<n/\m.e<(x j).d.ep
  s7:m.k=7∨m.k=9->u.tk m.e/\m.q<=u.4 m.e/\(m.k=7->0<=m.bl/\jT u m.bl m.v)/\(m.k=9->∀i:Nat,i<m.zs.length->jT u i (m.zs.getD i 0))
  s8:m.k=8∨m.k=10->u.tk m.e/\m.q<=u.4 m.e/\0<=m.f/\m.f<n/\(m.e<(x m.f).d.seen∨m.e=(x m.f).d.seen/\m.q<=(x m.f).d.last)
structure Inv(n nb:Int)(x:Int->Nd)(sn:Ms->Prop)(g:Gh)(u:Gv):Prop where
  nn:2<=n/\n<=5
  vx:Vx n (λj=>(x j).vo) g
  own:∀{j},0<=j->j<n->mO n nb j (x j) sn g u
  r0:u.R 0=⟨0,0,2 ^ n.toNat - 1⟩
  gr:∀{e b v},g.jr e b v->0<=e/\(∃j,0<=j/\j<n/\e<=(x j).d.ep)/\Fol (u.R e) (e+1) v.1 v.2/\(sub v.2 (u.R e).S∨u.ad e/\Cp sn (u.R e).S v.2 e)
  at_:∀{e},u.ad e->u.tk e
  t2:∀{e},u.tk e->0<e/\∃j,0<=j/\j<n/\(u.R e).P=j+1/\e<=(x j).d.seen/\e<=(x j).d.ep
  ms:∀{m},sn m->lF n x g u m
structure mP(g g':Gh):Prop where
  acc:∀{j e b v},g.acc j e b v->g'.acc j e b v
  jr:∀{e b v},g.jr e b v->g'.jr e b v
  jh:∀{j e b wa v},g.jh j e b wa v->g'.jh j e b wa v
def mP.refl(g:Gh):mP g g:=⟨id,id,id⟩
def lJ.kw{n:Int}{g a:Gh}(h:mP g a){e b:Int}{v:V}(d:lJ n g e b v):lJ n a e b v:=let ⟨l,h1,h2⟩:=d;⟨l,h1,λj c=>h.acc (h2 j c)⟩
structure Grv(K:Int)(u u':Gv):Prop where
  R:∀{e},0<=e->e<=K->u'.R e=u.R e
  tk:∀{e},u.tk e->u'.tk e
  ad:∀{e},u.ad e->u'.ad e
  mx:∀{e},u.tk e->u.4 e<=u'.4 e
  wr:∀{i v},u.wr i v->u'.wr i v
def Grv.refl(K:Int)(u:Gv):Grv K u u:=⟨λ_ _=>rfl,id,id,λ_=>Int.le_refl _,id⟩
def jT.kw{K:Int}{u u':Gv}(h:Grv K u u'){i v:Int}(a:jT u i v):jT u' i v:=a.imp id h.wr
def En.kw{n:Int}{d:Du}{g l:Gh}{u u':Gv}{K:Int}{m:Ms}(h:En n d g u m)(j:mP g l)(c:Grv K u u'):En n d l u' m:=by
 rcases h with h|h|h|h;·exact .inl h
 ·exact .inr (.inl ⟨h.1,h.2.1,h.2.2.1,j.jr h.2.2.2⟩)
 ·obtain⟨f,a,b,e⟩:=h;exact .inr (.inr (.inl ⟨f,a,b,e.kw j⟩))
 ·obtain⟨f,a,e,p,q,o⟩:=h;exact .inr (.inr (.inr ⟨f,c.tk a,Int.le_trans e (c.4 a),λk=>(p k).kw c,λk i hi=>(q k i hi).kw c,o⟩))
def mO.kw{n nb j:Int}{a:Nd}{sn sn':Ms->Prop}{g w:Gh}{u u':Gv}{K:Int}(h:mO n nb j a sn g u)(hs:∀{m},sn m->sn' m)(v:mP g w)(e:Grv K u u')(E:a.d.ep<=K)(D:a.act=true->u'.ad a.d.ep->u.ad a.d.ep)(C:a.act=true->u'.4 a.d.ep=u.4 a.d.ep):mO n nb j a sn' w u':=by
 have o:∀{i},0<=i->i<=a.d.ep->u'.R i=u.R i:=λf k=>e.R f (Int.le_trans k E);have q:=h.i0.2.2.2.2;refine⟨h.i0,h.k2,h.k3,λf k=>by rw[o f k];exact h.rr f k,λf k=>?_,λc=>?_,λc x=>h.ap c (D c x),λc=>?_,?_,λf k=>(h.bv f k).kw e,h.dn,λA=>?_,λp=>(h.pd p).kw v e,λc=>by rw[o q (Int.le_refl _)];exact h.p1 c,λp=>⟨(h.o2 p).1,(h.o2 p).2.kw e⟩⟩;·rw[o oG oG];obtain⟨s,b,t⟩:=h.rf f k;exact⟨s,b,t.kw v⟩
 ·rw[o q (Int.le_refl _)];exact⟨(h.gc c).1,(h.gc c).2.imp id (λr=>⟨e.ad r.1,λB=>(r.2 B).kw hs⟩)⟩
 ·rw[o q (Int.le_refl _),C c];exact⟨e.tk (h.t1 c).1,(h.t1 c).2⟩
 ·rcases h.t3 with l|l;·exact .inl l
  ·exact .inr ⟨e.tk l.1,Int.le_trans l.2 (e.4 l.1)⟩
 ·obtain⟨s,t,F,z,H⟩:=h.o1 A;exact⟨s,t,F,z,λy hy=>let ⟨z1,z2,z3,m,z4,z5⟩:=H y hy;⟨z1,z2,z3,m,hs z4,z5⟩⟩
def Kn(n:Int)(x:Int->Nd)(K:Int):Prop:=∀j,0<=j->j<n->(x j).d.ep<=K
def lF.kw{n:Int}{x:Int->Nd}{g t:Gh}{u u':Gv}{K j:Int}{a:Nd}{m:Ms}(h:lF n x g u m)(q:mP g t)(c:Grv K u u')(A:Kn n x K)(z:(x j).d.ep<=a.d.ep)(B:(x j).d.seen<a.d.seen∨(x j).d.seen=a.d.seen/\(x j).d.last<=a.d.last):lF n (upd x j a) t u' m:=by
 have r:∀i,(x i).d.ep<=(upd x j a i).d.ep:=by
  intro i;by_cases hi:i=j;·subst hi;simpa using z
  ·rw[upd_ne hi];exact Int.le_refl _
 refine⟨λb=>q.jh (h.s2 b),λb=>q.jr (h.s3 b),λb=>let ⟨v,hv⟩:=h.s4 b;⟨v,q.acc hv⟩,λb=>?_,λb=>?_,λb=>?_⟩;·obtain⟨w,e,o,i,k,l,p⟩:=h.s6 b;have:=A i k l;rw[c.R oG oG];exact⟨w,e,o,i,k,l,Int.lt_of_lt_of_le p (r i)⟩
 ·obtain⟨e,o,k,l⟩:=h.s7 b;exact⟨c.tk e,Int.le_trans o (c.4 e),λs=>⟨(k s).1,(k s).2.kw c⟩,λy i hi=>(l y i hi).kw c⟩
 ·obtain⟨e,o,k,l,p⟩:=h.s8 b;refine⟨c.tk e,Int.le_trans o (c.4 e),k,l,?_⟩;by_cases hi:m.f=j;·rw[hi]at p⊢;simp only[upd_self];omega
  ·rw[upd_ne hi];exact p
def Inv.go{n nb:Int}{x:Int->Nd}{sn sn':Ms->Prop}{g p:Gh}{u u':Gv}{K j:Int}{a:Nd}(h:Inv n nb x sn g u)(L:mP g p)(s:Grv K u u')(C:Kn n x K)(M:(x j).d.ep<=a.d.ep)(U:(x j).d.seen<a.d.seen∨(x j).d.seen=a.d.seen/\(x j).d.last<=a.d.last)(V:Vx n (upd (λi=>(x i).vo) j a.vo) p)(hs:∀{m},sn m->sn' m)(hs':∀{m},sn' m->sn m∨lF n (upd x j a) p u' m)(O:0<=j->j<n->mO n nb j a sn' p u')(Q:∀{e b v},p.jr e b v->g.jr e b v∨(0<=e/\(∃i,0<=i/\i<n/\e<=(x i).d.ep)/\Fol (u'.R e) (e+1) v.1 v.2/\(sub v.2 (u'.R e).S∨u'.ad e/\Cp sn' (u'.R e).S v.2 e)))(N:∀{e},u'.tk e->u.tk e∨(0<e/\∃i,0<=i/\i<n/\(u'.R e).P=i+1/\e<=(upd x j a i).d.seen/\e<=(upd x j a i).d.ep))(D:∀{e},u'.ad e->u'.tk e)(B:∀i,0<=i->i<n->i≠j->(x i).act=true->(u'.ad (x i).d.ep->u.ad (x i).d.ep)/\u'.4 (x i).d.ep=u.4 (x i).d.ep)(H:0<=K):Inv n nb (upd x j a) sn' p u':=by
 have A:∀i,(x i).d.ep<=(upd x j a i).d.ep:=by
  intro i;by_cases hi:i=j;·subst hi;simpa using M
  ·rw[upd_ne hi];exact Int.le_refl _
 refine⟨h.nn,by rw[OI];exact V,?_,?_,?_,D,?_,?_⟩
 ·intro i t w;by_cases hi:i=j;·subst hi;rw[upd_self];exact O t w
  ·rw[upd_ne hi];exact(h.own t w).kw hs L s (C i t w) (λq=>(B i t w hi q).1) (λq=>(B i t w hi q).2)
 ·rw[s.R (Int.le_refl _) H];exact h.r0
 ·intro e b v c;have F:0<=e/\(∃i,0<=i/\i<n/\e<=(x i).d.ep)/\Fol (u'.R e) (e+1) v.1 v.2/\(sub v.2 (u'.R e).S∨u'.ad e/\Cp sn' (u'.R e).S v.2 e):=by
   rcases Q c with c|c;·obtain⟨l,⟨i,f,k,o⟩,y,E⟩:=h.gr c;rw[s.R l (Int.le_trans o (C i f k))];exact⟨l,⟨i,f,k,o⟩,y,E.imp id (λr=>⟨s.ad r.1,r.2.kw hs⟩)⟩
   ·exact c
  obtain⟨l,⟨i,f,k,o⟩,y⟩:=F;exact⟨l,⟨i,f,k,Int.le_trans o (A i)⟩,y⟩
 ·intro e c;rcases N c with c|c
  ·obtain⟨l,i,f,k,o,y,E⟩:=h.t2 c;have:=C i f k;rw[s.R oG oG];refine⟨l,i,f,k,o,?_,Int.le_trans E (A i)⟩;by_cases hi:i=j;·subst hi;simp only[upd_self];omega
   ·rw[upd_ne hi];exact y
  ·exact c
 ·intro m z;rcases hs' z with z|z;·exact(h.ms z).kw L s C M U
  ·exact z
end AG
namespace AG
def qG{α:Type}(x:Int->α)(j:Int)(a b:α):upd (upd x j a) j b=upd x j b:=by funext i;unfold upd;split<;>rfl
def lK{α:Type}(x:Int->α)(j:Int):upd x j (x j)=x:=by
 funext i;unfold upd;split;·next h=>rw[h]
 ·rfl
def E1(x:Int->Nd):∀k:Nat,∃K:Int,0<=K/\∀j,0<=j->j<(k:Int)->(x j).d.ep<=K
 |0=>⟨0,oG,λj e f=>oG⟩
 |k+1=>by
  obtain⟨K,e,h⟩:=E1 x k;refine⟨max K (x k).d.ep,oG,λj a c=>?_⟩;by_cases b:j=k;·subst b;omega
  ·have:=h j a oG;omega
def Inv.kn{n nb:Int}{x:Int->Nd}{sn:Ms->Prop}{g:Gh}{u:Gv}(h:Inv n nb x sn g u):∃K,0<=K/\Kn n x K:=by obtain⟨K,c,a⟩:=E1 x n.toNat;exact⟨K,c,λj b d=>a j b oG⟩
section
variable {n nb:Int} {x:Int->Nd} {sn:Ms->Prop} {g:Gh} {u:Gv} {j:Int}
def Inv.gr_on(h:Inv n nb x sn g u){sn':Ms->Prop}(hs:∀{m},sn m->sn' m){e b:Int}{v:V}(f:g.jr e b v):0<=e/\(∃j,0<=j/\j<n/\e<=(x j).d.ep)/\Fol (u.R e) (e+1) v.1 v.2/\(sub v.2 (u.R e).S∨u.ad e/\Cp sn' (u.R e).S v.2 e):=let ⟨a,b,c,d⟩:=h.gr f;⟨a,b,c,d.imp id (λr=>⟨r.1,r.2.kw hs⟩)⟩
def Inv.says(h:Inv n nb x sn g u){l:List (Int×Ms)}(b:∀y∈l,lF n x g u y.2):Inv n nb x (λy=>sn y∨∃z∈l,y=z.2) g u:=⟨h.nn,h.vx,λd c=>(h.own d c).kw .inl (.refl g) (.refl _ u) (Int.le_refl _) (λ_=>id) (λ_=>rfl),h.r0,λa=>h.gr_on .inl a,h.at_,h.t2,λa=>a.elim h.ms (λ⟨z,hz,e⟩=>e ▸ b z hz)⟩
def Inv.vol(h:Inv n nb x sn g u){a:Nd}(b:a.d=(x j).d)(f:Vx n (upd (λi=>(x i).vo) j a.vo) g)(k:0<=j->j<n->mO n nb j a sn g u):Inv n nb (upd x j a) sn g u:=by obtain⟨K,e,c⟩:=h.kn;exact h.go (.refl g) (.refl K u) c (by rw[b];exact Int.le_refl _) (.inr ⟨by rw[b],by rw[b];exact Int.le_refl _⟩) f id .inl k .inl .inl h.at_ (λ_ _ _ _ _=>⟨id,rfl⟩) e
def Inv.idle(h:Inv n nb x sn g u){a:Nd}(b:a.d=(x j).d)(hi:a.id=(x j).id/\a.2=(x j).2/\a.nb=(x j).nb)(i:a.act=false)(k:a.ph=0)(p:a.ba=0)(l:a.on=0)(e:a.5=true->En n (x j).d g u a.tr):Inv n nb (upd x j a) sn g u:=by refine h.vol b (h.vx.idle (by simp[Nd.vo,b]) (by simp[Nd.vo,b]) (by simp[Nd.vo,b]) (by simp[Nd.vo,b]) (by simp[Nd.vo,p])) (λo m=>?_);have q:=h.own o m;exact⟨by rw[hi.1,hi.2.1,hi.2.2,b];exact q.i0,λc=>oG,λc=>oG,by rw[b];exact q.rr,by rw[b];exact q.rf,λc=>absurd k c,by simp[i],by simp[i],by rw[b];exact q.t3,by rw[b];exact q.bv,λ_=>⟨i,k,l⟩,λc=>oG,λf=>by rw[b];exact e f,λf=>oG,λf=>oG⟩
def Inv.promise(h:Inv n nb x sn g u)(l:0<=j)(p:j<n)(o:(x j).5=false){m:Ms}(y:m.k=1)(A:(x j).d.ep<=m.e)(w:(dJ (x j).d.3 m.e).pr<=m.b):Inv n nb (upd x j {x j with d:=(x j).d.step m}) sn {g with jh:=λi a c wa v=>g.jh i a c wa v∨(i=j/\a=m.e/\c=m.b/\wa=(dJ (x j).d.3 m.e).ac/\v=((dJ (x j).d.3 m.e).pm,(dJ (x j).d.3 m.e).st))} u:=by
 obtain⟨K,f,s⟩:=h.kn;have hs:(x j).d.step m={(x j).d with kv:=f8 (x j).d.3 m.e {dJ (x j).d.3 m.e with pr:=m.b}}:=by simp[Du.step,y,PV.after]
 have t:=h.vx.promise l p (e:=m.e) (b:=m.b) A w;have z:({x j with d:=(x j).d.step m}:Nd).vo={(x j).vo with pr:=eH (x j).vo.pr m.e m.b}:=by
  rw[hs];simp only[Nd.vo,Du.ep,vmGet_put];congr 1;·funext a;simp only[eH];split<;>simp_all
  ·funext a;split<;>simp_all
  ·funext a;split<;>simp_all
 rw[←z]at t;have r:mP g {g with jh:=λi a c wa v=>g.jh i a c wa v∨(i=j/\a=m.e/\c=m.b/\wa=(dJ (x j).d.3 m.e).ac/\v=((dJ (x j).d.3 m.e).pm,(dJ (x j).d.3 m.e).st))}:=⟨id,id,.inl⟩;refine h.go r (.refl K u) s (by rw[hs];exact Int.le_refl _) (.inr ⟨by rw[hs],by rw[hs];exact Int.le_refl _⟩) t id .inl (λ_ _=>?_) .inl .inl h.at_ (λ_ _ _ _ _=>⟨id,rfl⟩) f;have q:=(h.own l p).kw (sn':=sn) id r (.refl K u) (s j l p) (λ_=>id) (λ_=>rfl);rw[hs];exact⟨q.i0,q.k2,q.k3,q.rr,q.rf,q.gc,q.ap,q.t1,q.t3,q.bv,q.dn,q.o1,by rw[o];simp,q.p1,q.o2⟩
def Inv.again(h:Inv n nb x sn g u)(q:0<=j)(t:j<n){e b:Int}(s:(x j).d.ep<=e)(l:(dJ (x j).d.3 e).pr=b):Inv n nb x sn {g with jh:=λi c f wa v=>g.jh i c f wa v∨(i=j/\c=e/\f=b/\wa=(dJ (x j).d.3 e).ac/\v=((dJ (x j).d.3 e).pm,(dJ (x j).d.3 e).st))} u:=by
 have o:=h.vx.promise q t (e:=e) (b:=b) s (Int.le_of_eq l);have r:({(x j).vo with pr:=eH (x j).vo.pr e b}:Vo)=(x j).vo:=by
  have:eH (x j).vo.pr e b=(x j).vo.pr:=by
   funext c;unfold eH;split;·next k=>subst k;exact l.symm
   ·rfl
  rw[this]
 rw[r,lK (λi=>(x i).vo) j]at o;have m:mP g {g with jh:=λi c f wa v=>g.jh i c f wa v∨(i=j/\c=e/\f=b/\wa=(dJ (x j).d.3 e).ac/\v=((dJ (x j).d.3 e).pm,(dJ (x j).d.3 e).st))}:=⟨id,id,.inl⟩;refine⟨h.nn,o,λp y=>(h.own p y).kw id m (.refl _ u) (Int.le_refl _) (λ_=>id) (λ_=>rfl),h.r0,h.gr,h.at_,h.t2,λk=>?_⟩;obtain⟨K,_,w⟩:=h.kn;have:=(h.ms k).kw (j:=j) (a:=x j) m (.refl K u) w (Int.le_refl _) (.inr ⟨rfl,Int.le_refl _⟩);rwa[lK]at this
def Inv.accept(h:Inv n nb x sn g u)(l:0<=j)(r:j<n)(o:(x j).5=false){m:Ms}(A:m.k=3)(C:(x j).d.ep<=m.e)(z:(dJ (x j).d.3 m.e).pr<=m.b)(y:g.jr m.e m.b (m.p,m.s)):Inv n nb (upd x j {x j with d:=(x j).d.step m}) sn {g with acc:=λi a c v'=>g.acc i a c v'∨(i=j/\a=m.e/\c=m.b/\v'=(m.p,m.s))} u:=by
 obtain⟨K,f,v⟩:=h.kn;have hs:(x j).d.step m={(x j).d with kv:=f8 (x j).d.3 m.e ⟨m.b,m.b,m.p,m.s⟩}:=by simp[Du.step,A,PV.after]
 have w:=h.vx.accept l r (e:=m.e) (b:=m.b) C z y;have B:({x j with d:=(x j).d.step m}:Nd).vo={(x j).vo with pr:=eH (x j).vo.pr m.e m.b,ac:=eH (x j).vo.ac m.e m.b,vl:=eH (x j).vo.vl m.e (m.p,m.s)}:=by
  rw[hs];simp only[Nd.vo,Du.ep,vmGet_put];congr 1;·funext a;simp only[eH];split<;>simp_all
  ·funext a;simp only[eH];split<;>simp_all
  ·funext a;simp only[eH];split<;>simp_all
 rw[←B]at w;have t:mP g {g with acc:=λi a c v'=>g.acc i a c v'∨(i=j/\a=m.e/\c=m.b/\v'=(m.p,m.s))}:=⟨.inl,id,id⟩;refine h.go t (.refl K u) v (by rw[hs];exact Int.le_refl _) (.inr ⟨by rw[hs],by rw[hs];exact Int.le_refl _⟩) w id .inl (λ_ _=>?_) .inl .inl h.at_ (λ_ _ _ _ _=>⟨id,rfl⟩) f;have q:=(h.own l r).kw (sn':=sn) id t (.refl K u) (v j l r) (λ_=>id) (λ_=>rfl);rw[hs];exact⟨q.i0,q.k2,q.k3,q.rr,q.rf,q.gc,q.ap,q.t1,q.t3,q.bv,q.dn,q.o1,by rw[o];simp,q.p1,q.o2⟩
end
end AG
namespace AG
def PZ(x:Int->Nd)(n:Int)(s:0<n):∃K:Int,Kn n x K/\∃i,0<=i/\i<n/\(x i).d.ep=K:=by
 have c:∀k:Nat,0<k->∃K:Int,(∀j,0<=j->j<(k:Int)->(x j).d.ep<=K)/\∃i,0<=i/\i<(k:Int)/\(x i).d.ep=K:=by
  intro k;induction k with
  |zero=>intro h;omega
  |succ k ih=>
   intro _;by_cases l:k=0;·subst l;exact⟨(x 0).d.ep,λj q b=>by rw[show j=0 by omega];exact Int.le_refl _,0,oG,oG,rfl⟩
   ·obtain⟨K,b,i,e,r,m⟩:=ih oG;by_cases o:K<=(x k).d.ep
    ·refine⟨(x k).d.ep,λj a g=>?_,k,oG,oG,rfl⟩;by_cases f:j=k;·subst f;exact Int.le_refl _
     ·exact Int.le_trans (b j a oG) o
    ·refine⟨K,λj a g=>?_,i,e,oG,m⟩;by_cases f:j=k;·subst f;omega
     ·exact b j a oG
 obtain⟨K,b,e⟩:=c n.toNat oG;refine⟨K,λj a g=>b j a oG,?_⟩;obtain⟨i,a,g,p⟩:=e;exact⟨i,a,oG,p⟩
section
variable {n nb:Int} {x:Int->Nd} {sn:Ms->Prop} {g:Gh} {u:Gv} {j:Int}
def Inv.one(h:Inv n nb x sn g u){i e b:Int}{p s:Int}(j:0<=i)(m:i<n)(c:0<=e)(k:e<(x i).d.ep)(t:lJ n g e b (p,s)):u.R (e+1)=⟨e+1,p,s⟩:=by
 obtain⟨o,w,v⟩:=(h.own j m).rf c k;have f:=h.vx.toPx.one v t;have l:(u.R (e+1)).P=p:=congrArg Prod.fst f;have q:(u.R (e+1)).S=s:=congrArg Prod.snd f;have a:∀r:Rc,r.E=e+1->r.P=p->r.S=s->r=⟨e+1,p,s⟩:=by rintro⟨E,P,S⟩ rfl rfl rfl;rfl
 exact a _ o l q
def Inv.learn(h:Inv n nb x sn g u)(D:0<=j)(F:j<n){m:Ms}{b:Int}(hk:m.k=6)(he:m.e=(x j).d.ep)(hc:lJ n g m.e b (m.p,m.s)){a:Nd}(hd:a.d=(x j).d.step m)(hi:a.id=(x j).id/\a.2=(x j).2/\a.nb=(x j).nb)(X:a.act=true->(x j).d.takes (m.e+1) m.p=true)(hp:a.ph=0)(hb:a.ba=0)(ho:a.on=0)(dF:a.5=false):∃u' K,Inv n nb (upd x j a) sn g u'/\Kn n x K/\0<=K/\Grv K u u'/\u'.R (m.e+1)=⟨m.e+1,m.p,m.s⟩/\u'.wr=u.wr/\(∀e,u.tk e->u'.4 e=u.4 e):=by
 have a0:=(h.own D F).i0.2.2.2.2;obtain⟨K,N,i,U,W,iK⟩:=PZ x n (by have:=h.nn;omega);have H:0<=K:=by have:=(h.own U W).i0.2.2.2.2;omega
 have hs:a.d={(x j).d with recs:=(x j).d.recs++[⟨m.e+1,m.p,m.s⟩],seen:=if(x j).d.takes (m.e+1) m.p=true then m.e+1 else(x j).d.seen,last:=if(x j).d.takes (m.e+1) m.p=true then 0 else(x j).d.last,kv:=fT (x j).d.3 m.e}:=by rw[hd];simp[Du.step,hk,Du.learn]
 have t:a.d.ep=(x j).d.ep+1:=by rw[hs];simp[Du.ep]
 have C:(x j).d.ep+1<=K->u.R (m.e+1)=⟨m.e+1,m.p,m.s⟩:=λy=>h.one U W oG oG hc;have E:(x j).d.takes (m.e+1) m.p=true->¬u.tk (m.e+1):=by
  intro c r;obtain⟨_,k,B,q2,w,q4,q5⟩:=h.t2 r;have:=N k B q2;have L:=C oG;rw[L]at w;simp only[Du.takes,Bool.and_eq_true,beq_iff_eq,decide_eq_true_eq]at c;have:=(h.own D F).i0.2.1;have Q:k=j:=by dsimp only at w;omega
  subst Q;omega
 let u':Gv:={u with R:=eH u.R (m.e+1) ⟨m.e+1,m.p,m.s⟩,tk:=λe=>u.tk e∨((x j).d.takes (m.e+1) m.p=true/\e=m.e+1),mx:=λe=>if(x j).d.takes (m.e+1) m.p=true/\e=m.e+1 then 0 else u.4 e};have v:∀e,u.tk e->u'.4 e=u.4 e:=by
  intro e r;show(if _ then _ else _)=_;split;·next f=>rw[f.2]at r;exact absurd r (E f.1)
  ·rfl
 have L:∀e,e≠m.e+1->u'.R e=u.R e:=λe M=>by show eH _ _ _ _=_;simp[eH,M]
 have o:u'.R (m.e+1)=⟨m.e+1,m.p,m.s⟩:=by show eH _ _ _ _=_;simp[eH]
 have V:Grv K u u':=by
  refine⟨λ{e} A B=>?_,.inl,id,λr=>by rw[v _ r];exact Int.le_refl _,id⟩;by_cases y:e=m.e+1;·subst y;rw[o,C oG]
  ·exact L e y
 have hV:=h.vx.learn (j:=j) (a:=a.vo) (by simp[Nd.vo,t]) (by intro e q;simp[Nd.vo,t]at q;simp only[Nd.vo,hs];rw[vmGet_del _ _ _ oG]) (by intro e q;simp[Nd.vo,t]at q;simp only[Nd.vo,hs];rw[vmGet_del _ _ _ oG]) (by intro e q;simp[Nd.vo,t]at q;simp only[Nd.vo,hs];rw[vmGet_del _ _ _ oG]) (by simp[Nd.vo,hb]);have l:a.d.seen=(if(x j).d.takes (m.e+1) m.p=true then m.e+1 else(x j).d.seen)/\a.d.last=(if(x j).d.takes (m.e+1) m.p=true then 0 else(x j).d.last):=by rw[hs];exact⟨rfl,rfl⟩
 have z:(x j).d.takes (m.e+1) m.p=true->m.p=j+1/\(x j).d.seen<m.e+1:=by intro c;simp only[Du.takes,Bool.and_eq_true,beq_iff_eq,decide_eq_true_eq]at c;have:=(h.own D F).i0.2.1;omega
 refine⟨u',K,h.go (.refl g) V N oG ?_ hV id .inl (λ_ _=>?_) .inl ?_ (λr=>.inl (h.at_ r)) ?_ H,N,H,V,o,rfl,v⟩
 ·rw[l.1,l.2];by_cases c:(x j).d.takes (m.e+1) m.p=true;·rw[if_pos c];exact .inl (z c).2
  ·rw[if_neg c,if_neg c];exact .inr ⟨rfl,Int.le_refl _⟩
 ·have q:=h.own D F;refine⟨?_,λf=>oG,λf=>oG,λ{i} A B=>?_,λ{e} A B=>?_,λf=>absurd hp f,λO f=>?_,λO=>?_,?_,?_,by rw[dF];simp,λf=>oG,by rw[dF];simp,λf=>oG,λf=>oG⟩;·have f:=q.i0;refine⟨hi.1.trans f.1,?_,hi.2.1.trans f.2.2.1,hi.2.2.trans f.2.2.2.1,oG⟩;rw[hs];exact f.2.1
  ·by_cases y:i=m.e+1;·subst y;rw[o,hs];simp only[Du.rc,Du.ep] at*;rw[List.getD_eq_getElem?_getD,List.getElem?_append_right oG];have:(m.e+1).toNat - (x j).d.recs.length=0:=oG;rw[this];rfl
   ·rw[L i y,←q.rr A oG,hs];simp only[Du.rc,Du.ep] at*;rw[List.getD_eq_getElem?_getD,List.getD_eq_getElem?_getD,List.getElem?_append_left oG]
  ·by_cases y:e=m.e;·subst y;rw[o];exact⟨rfl,b,hc⟩
   ·rw[L (e+1) oG];exact q.rf A oG
  ·rw[t,←he]at f;exact absurd (h.at_ f) (E (X O))
  ·have c:(x j).d.takes (m.e+1) m.p=true:=X O;have S:a.d.ep=m.e+1:=oG;rw[S,o,l.1,l.2,if_pos c,if_pos c];refine⟨.inr ⟨c,rfl⟩,(z c).1,rfl,?_⟩;show(0:Int)=if _ then _ else _;rw[if_pos ⟨c,rfl⟩]
  ·rw[l.1,l.2];by_cases c:(x j).d.takes (m.e+1) m.p=true;·rw[if_pos c,if_pos c];refine .inr ⟨.inr ⟨c,rfl⟩,?_⟩;show(0:Int)<=if _ then _ else _;rw[if_pos ⟨c,rfl⟩];exact Int.le_refl _
   ·rw[if_neg c,if_neg c];exact q.t3.imp id (λw=>⟨.inl w.1,by rw[v _ w.1];exact w.2⟩)
  ·rw[hs];exact q.bv
 ·intro e r;rcases r with r|⟨c,rfl⟩;·exact .inl r
  ·refine .inr ⟨oG,j,D,F,?_,?_,?_⟩;·rw[o];exact(z c).1
   ·rw[upd_self,l.1,if_pos c];exact Int.le_refl _
   ·rw[upd_self];omega
 ·intro k A B q2 w;exact⟨id,v _ ((h.own A B).t1 w).1⟩
end
end AG
namespace AG
section
variable {n nb:Int} {x:Int->Nd} {sn:Ms->Prop} {g:Gh} {u:Gv} {j:Int}
def step79(d:Du){m:Ms}(a:m.k=7∨m.k=9):(d.step m).recs=d.recs/\(d.step m).3=d.3/\(d.step m).id=d.id/\(d.step m).seen=m.e/\(d.step m).last=m.q:=by rcases a with a|a<;>simp[Du.step,a]
def B3{d:Du}{m:Ms}(a:m.k=7∨m.k=9)(c:∀{i},0<=i->i<nb->jT u i (d.bk i))(j:m.k=7->jT u m.bl m.v)(h:m.k=9->∀i:Nat,i<m.zs.length->jT u i (m.zs.getD i 0)){i:Int}(b:0<=i)(g:i<nb):jT u i ((d.step m).bk i):=by
 rcases a with a|a
 ·simp only[Du.step,a];show jT u i (if i=m.bl then m.v else d.bk i);split;·next hh=>subst hh;exact j a
  ·exact c b g
 ·simp only[Du.step,a];show jT u i (bif decide (0<=i) then m.zs.getD i.toNat (d.bk i) else d.bk i);rw[show decide (0<=i)=true by simp[b],cond_true];by_cases f:i.toNat<m.zs.length;·have:=h a i.toNat f;rw[List.getD_eq_getElem?_getD,List.getElem?_eq_getElem f]at this⊢;simp only[Option.getD_some]at this⊢;have e:((i.toNat:Nat):Int)=i:=oG;rw[e]at this;exact this
  ·rw[List.getD_eq_getElem?_getD,List.getElem?_eq_none oG];exact c b g
def Inv.write(h:Inv n nb x sn g u)(E:0<=j)(M:j<n){m:Ms}(A:m.k=7∨m.k=9)(F:u.tk m.e)(L:m.q<=u.4 m.e)(N:m.k=7->jT u m.bl m.v)(H:m.k=9->∀i:Nat,i<m.zs.length->jT u i (m.zs.getD i 0))(R:(x j).d.seen<m.e∨(x j).d.seen=m.e/\(x j).d.last<=m.q){a:Nd}(y:a.d=(x j).d.step m)(hi:a.id=(x j).id/\a.2=(x j).2/\a.nb=(x j).nb)(B:a.act=false)(Q:a.on<=0)(b:(a.ph=0/\a.ba=0)∨(a.ph=(x j).ph/\a.ba=(x j).ba/\a.gP=(x j).gP/\a.gS=(x j).gS/\a.fo=(x j).fo/\a.an=(x j).an))(dF:a.5=false)(p:(a.ph=0/\a.ba=0)∨(x j).act=false):Inv n nb (upd x j a) sn g u:=by
 obtain⟨K,r,O⟩:=h.kn;have q:=h.own E M;obtain⟨t,o,C,D,z⟩:=step79 (x j).d A;rw[←y]at t o C D z;have c:a.d.ep=(x j).d.ep:=by simp[Du.ep,t]
 have s:∀i,a.d.rc i=(x j).d.rc i:=λi=>by simp[Du.rc,t]
 refine h.go (.refl g) (.refl K u) O oG oG ?_ id .inl (λ_ _=>?_) .inl .inl h.at_ (λ_ _ _ _ _=>⟨id,rfl⟩) r
 ·rcases b with b|b;·exact h.vx.idle (by simp[Nd.vo,c]) (by simp[Nd.vo,o]) (by simp[Nd.vo,o]) (by simp[Nd.vo,o]) (by simp[Nd.vo,b.2])
  ·have e:a.vo=(x j).vo:=by simp[Nd.vo,c,o,b]
   rw[e];have:=lK (λi=>(x i).vo) j;rw[this];exact h.vx
 ·refine⟨?_,λf=>?_,λf=>?_,?_,?_,λf=>?_,by simp[B],by simp[B],.inr (by rw[D,z];exact⟨F,L⟩),?_,by rw[dF];simp,λf=>oG,by rw[dF];simp,λf=>?_,λf=>oG⟩;·rw[hi.1,hi.2.1,hi.2.2,C,c];exact q.i0
  ·rcases b with b|b;·omega
   ·rw[b.2.2.2.2.2,b.2.1,c];exact q.k2 oG
  ·rcases b with b|b;·omega
   ·rw[b.2.2.2.2.2,b.2.1,c];exact q.k3 oG
  ·intro i l w;rw[s];exact q.rr l oG
  ·intro e l w;exact q.rf l oG
  ·rcases b with b|b;·exact absurd b.1 f
   ·rw[b.1,b.2.2.1,b.2.2.2.1,c];exact q.gc oG
  ·intro i l w;rw[y];exact B3 A q.bv N H l w
  ·rcases b with b|b;·omega
   ·rcases p with p|p;·omega
    ·exact absurd (q.p1 oG).2.1 (by rw[p];simp)
def Inv.raise(h:Inv n nb x sn g u)(h0:0<=j)(h1:j<n){m:Ms}(hk:m.k=7∨m.k=9)(L:u.tk m.e)(hP:(u.R m.e).P=j+1)(a0:(x j).d.seen=m.e)(hq:m.q=(x j).d.last+1)(z:(x j).act=true∨(x j).act=false/\u.4 m.e<=m.q){W:Int->Int->Prop}(hW:∀{i v},u.wr i v->W i v)(h7:m.k=7->m.v=0∨W m.bl m.v)(Q:m.k=9->∀i:Nat,i<m.zs.length->m.zs.getD i 0=0∨W i (m.zs.getD i 0)){A:Prop}{a:Nd}(hd:a.d=(x j).d.step m)(hi:a.id=(x j).id/\a.2=(x j).2/\a.nb=(x j).nb)(V:a.act=true->(x j).act=true/\(x j).d.ep=m.e)(ho:0<a.on->a.act=true/\a.ow=m/\m.k=7/\a.oa=[])(f:a.ba<=0∨(a.ph=0/\a.vo=(x j).vo))(a1:a.ph=0∨a.ph=1)(hA:A->a.ph=1∨a.act=false)(M:u.ad m.e->a.ph=1∨a.act=false)(hg:a.ph=1->m.e=(x j).d.ep/\Fol (u.R m.e) (m.e+1) a.gP a.gS/\(sub a.gS (u.R m.e).S∨u.ad m.e∨A))(dF:a.5=false)(o:a.ph=1->a.act=true/\∀i,0<=i->i<5->bit a.gS i->bit (u.R m.e).S i∨i=a.jo)(E:m.k=7->0<=m.bl):Inv n nb (upd x j a) sn g {u with mx:=eH u.4 m.e m.q,wr:=W,ad:=λe=>u.ad e∨(A/\e=m.e)}:=by
 obtain⟨K,O,hK⟩:=h.kn;have q:=h.own h0 h1;obtain⟨U,C,e3,X,F⟩:=step79 (x j).d hk;rw[←hd]at U C e3 X F;have l:a.d.ep=(x j).d.ep:=by simp[Du.ep,U]
 have H:∀i,a.d.rc i=(x j).d.rc i:=λi=>by simp[Du.rc,U]
 have N:u.4 m.e<=m.q:=by
  rcases z with z|z;·have:=q.t1 z;have h3:(x j).d.ep=m.e:=oG;rw[h3]at this;omega
  ·exact z.2
 have hu:Grv K u {u with mx:=eH u.4 m.e m.q,wr:=W,ad:=λe=>u.ad e∨(A/\e=m.e)}:=by
  refine⟨λ_ _=>rfl,id,.inl,λ{e} _=>?_,hW⟩;show u.4 e<=eH u.4 m.e m.q e;unfold eH;split;·next c=>subst c;exact N
  ·exact Int.le_refl _
 refine h.go (.refl g) hu hK oG oG ?_ id .inl (λ_ _=>?_) .inl .inl ?_ ?_ O
 ·rcases f with f|f;·exact h.vx.idle (by simp[Nd.vo,l]) (by simp[Nd.vo,C]) (by simp[Nd.vo,C]) (by simp[Nd.vo,C]) (by simp[Nd.vo,f])
  ·rw[f.2,lK (λi=>(x i).vo) j];exact h.vx
 ·refine⟨?_,λb=>oG,λb=>oG,?_,?_,λb=>?_,λb c=>?_,λb=>?_,.inr ?_,?_,by rw[dF];simp,λb=>?_,by rw[dF];simp,λb=>⟨f.resolve_right (λc=>oG),by rw[l,←(hg b).1];exact o b⟩,λb=>?_⟩;·rw[hi.1,hi.2.1,hi.2.2,e3,l];exact q.i0
  ·intro i s y;rw[H];exact q.rr s oG
  ·intro e s y;exact q.rf s oG
  ·have o:a.ph=1:=oG;obtain⟨w,B,p⟩:=hg o;rw[l,←w];exact⟨B,p.elim .inl (λp=>.inr ⟨p.imp id (λr=>⟨r,rfl⟩),λQ=>absurd o Q⟩)⟩
  ·have D:=(V b).2;rw[l,D]at c;rcases c with c|⟨c,_⟩;·have:=M c;rw[b]at this;simp at this;omega
   ·have:=hA c;rw[b]at this;simp at this;omega
  ·have D:=(V b).2;rw[l,D,X,F];refine⟨L,hP,rfl,?_⟩;show m.q=eH u.4 m.e m.q m.e;simp[eH]
  ·rw[X,F];refine⟨L,?_⟩;show m.q<=eH u.4 m.e m.q m.e;simp[eH]
  ·intro i s y;rw[hd];exact B3 (u:={u with mx:=eH u.4 m.e m.q,wr:=W,ad:=λe=>u.ad e∨(A/\e=m.e)}) hk (λp0 p1=>(q.bv p0 p1).imp id hW) h7 Q s y
  ·obtain⟨w,B,p,r4⟩:=ho b;have D:=(V w).2;rw[B,r4];exact⟨w,p,oG,oG,sG⟩
  ·obtain⟨w,B,p,r4⟩:=ho b;rw[B];exact⟨E p,h7 p⟩
 ·rintro e (c|⟨_,rfl⟩);·exact h.at_ c
  ·exact L
 ·intro i s y q2 q3;have r:=(h.own s y).t1 q3;have t:(x i).d.ep≠m.e:=by intro c;rw[c,hP]at r;omega
  exact⟨λc=>c.resolve_right (λr=>t r.2),by show eH _ _ _ _=_;simp[eH,t]⟩
end
end AG
namespace AG
section
variable {n nb:Int} {x:Int->Nd} {sn:Ms->Prop} {g:Gh} {u:Gv} {j:Int}
def mO.ko{y a:Nd}(q:mO n nb j y sn g u)(k:a.d.recs=y.d.recs)(hs:a.d.id=y.d.id/\a.d.seen=y.d.seen/\a.d.last=y.d.last/\a.d.bk=y.d.bk)(hi:a.id=y.id/\a.2=y.2/\a.nb=y.nb)(m:a.act=y.act)(c:a.on=y.on/\a.ow=y.ow/\a.oa=y.oa)(dF:a.5=false)(k2:a.ph=2->0<a.ba->∀z∈a.an,z.1=2/\z.2.1=a.d.ep/\z.2.2.1=a.ba)(p:a.ph=3->0<a.ba->∀z∈a.an,z.1=4/\z.2.1=a.d.ep/\z.2.2.1=a.ba)(l:a.ph≠0->Fol (u.R a.d.ep) (a.d.ep+1) a.gP a.gS/\(sub a.gS (u.R a.d.ep).S∨u.ad a.d.ep/\Cp sn (u.R a.d.ep).S a.gS a.d.ep))(t:a.act=true->u.ad a.d.ep->a.ph≠0)(o:a.ph≠1):mO n nb j a sn g u:=by
 have b:a.d.ep=y.d.ep:=by simp[Du.ep,k]
 have h:∀i,a.d.rc i=y.d.rc i:=λi=>by simp[Du.rc,k]
 refine⟨by rw[hi.1,hi.2.1,hi.2.2,hs.1,b];exact q.i0,k2,p,λf s=>by rw[h];exact q.rr f oG,λf s=>q.rf f oG,λe=>⟨(l e).1,(l e).2.imp id (λr=>⟨r.1,λ_=>r.2⟩)⟩,t,by rw[m,b,hs.2.1,hs.2.2.1];exact q.t1,by rw[hs.2.1,hs.2.2.1];exact q.t3,by rw[hs.2.2.2];exact q.bv,by rw[dF];simp,by rw[m,c.1,c.2.1,c.2.2,b,hs.2.2.1];exact q.o1,by rw[dF];simp,λe=>absurd e o,by rw[c.1,c.2.1];exact q.o2⟩
def rK{y:Nd}{k:Int}(q:mO n nb j y sn g u)(a:y.ph=k)(b:k≠0:=by omega):y.5=false:=by
 cases hd:y.5;·rfl
 ·have:=(q.dn hd).2.1;omega
def mO.gc2{y:Nd}{k:Int}(q:mO n nb j y sn g u)(a:y.ph=k)(b:k≠0/\k≠1:=by omega):Fol (u.R y.d.ep) (y.d.ep+1) y.gP y.gS/\(sub y.gS (u.R y.d.ep).S∨u.ad y.d.ep/\Cp sn (u.R y.d.ep).S y.gS y.d.ep):=⟨(q.gc oG).1,(q.gc oG).2.imp id (λr=>⟨r.1,r.2 oG⟩)⟩
def Inv.take(h:Inv n nb x sn g u)(y:0<=j)(B:j<n){m:Ms}(U:m.k=1)(w:m.e=(x j).d.ep)(W:m.b%5=j)(t:0<m.b)(Q:(dJ (x j).d.3 m.e).pr<m.b){a:Nd}(O:a.d=(x j).d.step m)(hi:a.id=(x j).id/\a.2=(x j).2/\a.nb=(x j).nb)(ha:a.act=(x j).act)(V:a.on=(x j).on/\a.ow=(x j).ow/\a.oa=(x j).oa)(dF:a.5=false)(A:a.ph=2)(r:a.ba=m.b)(C:a.fo.wa=(dJ (x j).d.3 m.e).ac/\a.fo.p=(dJ (x j).d.3 m.e).pm/\a.fo.s=(dJ (x j).d.3 m.e).st)(o:a.an=[(2,m.e,m.b,j)])(H:Fol (u.R m.e) (m.e+1) a.gP a.gS/\(sub a.gS (u.R m.e).S∨u.ad m.e/\Cp sn (u.R m.e).S a.gS m.e)):Inv n nb (upd x j a) sn {g with jh:=λi c f wa v=>g.jh i c f wa v∨(i=j/\c=m.e/\f=m.b/\wa=(dJ (x j).d.3 m.e).ac/\v=((dJ (x j).d.3 m.e).pm,(dJ (x j).d.3 m.e).st))} u:=by
 obtain⟨K,E,N⟩:=h.kn;have hs:a.d={(x j).d with kv:=f8 (x j).d.3 m.e {dJ (x j).d.3 m.e with pr:=m.b}}:=by rw[O];simp[Du.step,U,PV.after]
 have l:a.d.ep=(x j).d.ep:=by rw[hs];rfl
 have L:=h.vx.take y B W t (by simp only[Nd.vo];rw[←w];exact Q) (a.gP,a.gS);have X:a.vo={(x j).vo with pr:=eH (x j).vo.pr (x j).vo.ep m.b,ph:=2,ba:=m.b,go:=(a.gP,a.gS),fw:=(x j).vo.ac (x j).vo.ep,fv:=(x j).vo.vl (x j).vo.ep,an:=[j]}:=by
  simp only[Nd.vo,A,r,o,C,l];rw[hs];simp only[vmGet_put,←w];congr 1;·funext c;simp only[eH];split<;>simp_all
  ·funext c;split<;>simp_all
  ·funext c;split<;>simp_all
 rw[←X]at L;have M:mP g {g with jh:=λi c f wa v=>g.jh i c f wa v∨(i=j/\c=m.e/\f=m.b/\wa=(dJ (x j).d.3 m.e).ac/\v=((dJ (x j).d.3 m.e).pm,(dJ (x j).d.3 m.e).st))}:=⟨id,id,.inl⟩;have F:({g with jh:=λi c f wa v=>g.jh i c f wa v∨(i=j/\c=(x j).vo.ep/\f=m.b/\wa=(x j).vo.ac (x j).vo.ep/\v=(x j).vo.vl (x j).vo.ep)}:Gh)={g with jh:=λi c f wa v=>g.jh i c f wa v∨(i=j/\c=m.e/\f=m.b/\wa=(dJ (x j).d.3 m.e).ac/\v=((dJ (x j).d.3 m.e).pm,(dJ (x j).d.3 m.e).st))}:=by simp only[Nd.vo,←w]
 rw[F]at L;refine h.go M (.refl K u) N oG (.inr ⟨by rw[hs],by rw[hs];exact Int.le_refl _⟩) L id .inl (λ_ _=>?_) .inl .inl h.at_ (λ_ _ _ _ _=>⟨id,rfl⟩) E;have q:=(h.own y B).kw (sn':=sn) id M (.refl K u) (N j y B) (λ_=>id) (λ_=>rfl);refine q.ko (by rw[hs]) (by rw[hs];exact⟨rfl,rfl,rfl,rfl⟩) hi ha V dF (λ_ _ z D=>?_) (λh9=>oG) (λ_=>by rw[l,←w];exact H) (λ_ _=>oG) oG;rw[o]at D;simp at D;subst D;exact⟨rfl,by rw[l,w],r.symm⟩
def Inv.count(h:Inv n nb x sn g u)(A:0<=j)(B:j<n){m:Ms}(F:g.jh m.f m.e m.b m.wa (m.p,m.s))(t:m.e=(x j).d.ep)(o:m.b=(x j).ba)(D:0<m.b)(c:(x j).ph=2)(E:(2,m.e,m.b,m.f)∉(x j).an){a:Nd}(K:a={x j with fo:=if(x j).fo.wa<m.wa then m else(x j).fo,an:=(x j).an++[(2,m.e,m.b,m.f)]}):Inv n nb (upd x j a) sn g u:=by
 have q:=h.own A B;have r:m.f∉(x j).vo.an:=by intro w;simp only[Nd.vo,List.mem_map]at w;obtain⟨y,hy,v⟩:=w;have:=q.k2 c oG y hy;apply E;obtain⟨L,O,N,M⟩:=y;simp only at this v;rw[t,o,←v,←this.1,←this.2.1,←this.2.2];exact hy
 have C:=h.vx.count A B (wa:=m.wa) (u:=(m.p,m.s)) (i:=m.f) (by simp[Nd.vo,c]) (by simp[Nd.vo];omega) (by simp only[Nd.vo];rw[←t,←o];exact F) r;subst K;have H:({x j with fo:=if(x j).fo.wa<m.wa then m else(x j).fo,an:=(x j).an++[(2,m.e,m.b,m.f)]}:Nd).vo={(x j).vo with fw:=if(x j).vo.fw<m.wa then m.wa else(x j).vo.fw,fv:=if(x j).vo.fw<m.wa then(m.p,m.s) else(x j).vo.fv,an:=(x j).vo.an++[m.f]}:=by
  simp only[Nd.vo,List.map_append,List.map_cons,List.map_nil];by_cases l:(x j).fo.wa<m.wa;·simp[l]
  ·simp[l]
 rw[←H]at C;refine h.vol rfl C (λ_ _=>q.ko rfl ⟨rfl,rfl,rfl,rfl⟩ ⟨rfl,rfl,rfl⟩ rfl ⟨rfl,rfl,rfl⟩ (show(x j).5=false from rK q c) (λ_ _ z k=>?_) (λl=>by simp only at l;omega) (λ_=>q.gc2 c) q.ap (by simp only;omega));rcases List.mem_append.1 k with k|k;·exact q.k2 c oG z k
 ·simp at k;subst k;exact⟨rfl,t,o⟩
def Inv.tally(h:Inv n nb x sn g u)(s:0<=j)(t:j<n){e b f:Int}{v:V}(C:g.acc f e b v)(o:e=(x j).d.ep)(l:b=(x j).ba)(A:0<b)(c:(x j).ph=3)(B:(4,e,b,f)∉(x j).an){a:Nd}(F:a={x j with an:=(x j).an++[(4,e,b,f)]}):Inv n nb (upd x j a) sn g u:=by
 have q:=h.own s t;have m:f∉(x j).vo.an:=by intro r;simp only[Nd.vo,List.mem_map]at r;obtain⟨y,hy,p⟩:=r;have:=q.k3 c oG y hy;apply B;obtain⟨H,M,L,K⟩:=y;simp only at this p;rw[o,l,←p,←this.1,←this.2.1,←this.2.2];exact hy
 have w:=h.vx.tally s t (u:=v) (i:=f) (by simp[Nd.vo,c]) (by simp[Nd.vo];omega) (by simp only[Nd.vo];rw[←o,←l];exact C) m;subst F;have E:({x j with an:=(x j).an++[(4,e,b,f)]}:Nd).vo={(x j).vo with an:=(x j).vo.an++[f]}:=by simp only[Nd.vo,List.map_append,List.map_cons,List.map_nil]
 rw[←E]at w;refine h.vol rfl w (λ_ _=>q.ko rfl ⟨rfl,rfl,rfl,rfl⟩ ⟨rfl,rfl,rfl⟩ rfl ⟨rfl,rfl,rfl⟩ (show(x j).5=false from rK q c) (λD=>by simp only at D;omega) (λ_ _ z k=>?_) (λ_=>q.gc2 c) q.ap (by simp only;omega));rcases List.mem_append.1 k with k|k;·exact q.k3 c oG z k
 ·simp at k;subst k;exact⟨rfl,o,l⟩
def Inv.gy(h:Inv n nb x sn g u)(o:0<=j)(t:j<n)(k:(x j).ph=2)(l:0<(x j).ba)(E:n<2*((x j).an.length:Int)){p s:Int}(a:p=(if 0<(x j).fo.wa then(x j).fo.p else(x j).gP))(c:s=(if 0<(x j).fo.wa then(x j).fo.s else(x j).gS)):Inv n nb (upd x j {x j with ph:=3,gP:=p,gS:=s,an:=[]}) sn {g with jr:=λe b w=>g.jr e b w∨(e=(x j).d.ep/\b=(x j).ba/\w=(p,s))} u:=by
 obtain⟨K,y,D⟩:=h.kn;have q:=h.own o t;have F:=h.vx.gy o t (v:=(p,s)) (by simp[Nd.vo,k]) (by simp[Nd.vo,l]) (by simpa[Nd.vo] using E) (by intro f;simp only[Nd.vo]at f⊢;rw[a,c,if_pos f,if_pos f]);have r:Fol (u.R (x j).d.ep) ((x j).d.ep+1) p s/\(sub s (u.R (x j).d.ep).S∨u.ad (x j).d.ep/\Cp sn (u.R (x j).d.ep).S s (x j).d.ep):=by
  by_cases f:0<(x j).fo.wa
  ·rw[if_pos f]at a c;obtain⟨_,_,m⟩:=h.vx.n7 (j:=j) o t (by simp[Nd.vo,k]) (by simp[Nd.vo,l]);rcases m with m|⟨i,m⟩;·simp only[Nd.vo]at m;omega
   ·have B:=h.gr (h.vx.a1 (h.vx.a4 m (by simp only[Nd.vo];exact f)));simp only[Nd.vo]at B;rw[a,c];exact B.2.2
  ·rw[if_neg f]at a c;rw[a,c];exact q.gc2 k
 have C:mP g {g with jr:=λe b w=>g.jr e b w∨(e=(x j).d.ep/\b=(x j).ba/\w=(p,s))}:=⟨id,.inl,id⟩;refine h.go C (.refl K u) D (Int.le_refl _) (.inr ⟨rfl,Int.le_refl _⟩) ?_ id .inl (λ_ _=>?_) ?_ .inl h.at_ (λ_ _ _ _ _=>⟨id,rfl⟩) y;·exact F
 ·have H:=q.kw (sn':=sn) id C (.refl K u) (D j o t) (λ_=>id) (λ_=>rfl);exact H.ko rfl ⟨rfl,rfl,rfl,rfl⟩ ⟨rfl,rfl,rfl⟩ rfl ⟨rfl,rfl,rfl⟩ (show(x j).5=false from rK q k) (λf=>by simp at f) (λ_ _ z L=>by simp at L) (λ_=>r) (λ_ _=>sG) sG
 ·intro e b w A;rcases A with A|⟨rfl,rfl,rfl⟩;·exact .inl A
  ·exact .inr ⟨q.i0.2.2.2.2,⟨j,o,t,Int.le_refl _⟩,r⟩
def Inv.chosen(h:Inv n nb x sn g u)(e:0<=j)(c:j<n)(b:(x j).ph=3)(a:0<(x j).ba)(f:n<2*((x j).an.length:Int)):lJ n g (x j).d.ep (x j).ba ((x j).gP,(x j).gS):=h.vx.chosen e c (by simp[Nd.vo,b]) (by simp[Nd.vo,a]) (by simpa[Nd.vo] using f)
def Inv.oper(h:Inv n nb x sn g u){a:Nd}(r:a={x j with on:=a.on,ow:=a.ow,oa:=a.oa,ops:=a.ops,res:=a.res})(s:0<a.on->0<(x j).on/\a.ow=(x j).ow/\∀y∈a.oa,y∈(x j).oa∨(y.1=8/\y.2.1=a.ow.e/\y.2.2.1=max 0 a.ow.q/\∃m,sn m/\m.k=8/\m.f=y.2.2.2/\m.e=a.ow.e/\m.q=a.ow.q))(dF:(x j).5=true->a.on=0):Inv n nb (upd x j a) sn g u:=by
 have N:a.vo=(x j).vo:=by rw[r];rfl
 have b:a.d=(x j).d:=by rw[r]
 refine h.vol b (by rw[N,lK (λi=>(x i).vo) j];exact h.vx) (λM Q=>?_);have q:=h.own M Q;have R:a.id=(x j).id/\a.2=(x j).2/\a.nb=(x j).nb/\a.5=(x j).5/\a.act=(x j).act/\a.ph=(x j).ph/\a.gP=(x j).gP/\a.gS=(x j).gS/\a.ba=(x j).ba/\a.an=(x j).an/\a.tr=(x j).tr:=by rw[r];exact⟨rfl,rfl,rfl,rfl,rfl,rfl,rfl,rfl,rfl,rfl,rfl⟩
 obtain⟨C,H,K,w,o,l,B,A,v,p,t⟩:=R;refine⟨by rw[C,H,K,b];exact q.i0,by rw[l,v,p,b];exact q.k2,by rw[l,v,p,b];exact q.k3,by rw[b];exact q.rr,by rw[b];exact q.rf,by rw[l,B,A,b];exact q.gc,by rw[o,l,b];exact q.ap,by rw[o,b];exact q.t1,by rw[b];exact q.t3,by rw[b];exact q.bv,by rw[w,o,l];exact λc=>⟨(q.dn c).1,(q.dn c).2.1,dF c⟩,λc=>?_,by rw[w,t,b];exact q.pd,by rw[l,v,o,A,b,show a.jo=(x j).jo by rw[r]];exact q.p1,λc=>by rw[(s c).2.1];exact q.o2 (s c).1⟩;obtain⟨F,z,D⟩:=s c;obtain⟨U,S,E,L,O⟩:=q.o1 F;rw[o,b,z];refine⟨U,S,E,L,λy hy=>?_⟩;rcases D y hy with hy|hy;·exact O y hy
 ·rw[z]at hy;exact hy
end
end AG
namespace AG
def Call(n nb:Int)(x:Int->Nd)(sn:Ms->Prop)(u:Gv)(j:Int)(a:Nd)(out:List (Int×Ms))(W:Int->Int->Prop):Prop:=
  ∃g' u' K,Kn n x K/\0<=K/\Grv K u u'/\u'.wr=W/\Inv n nb (upd x j a) (λy=>sn y∨∃z∈out,y=z.2) g' u'/\∀z∈out,z.2.k=8->z.2.f=j/\z.2.e=a.d.seen
def Nx(n nb:Int)(x:Int->Nd)(sn:Ms->Prop)(u:Gv)(j:Int)(a:Nd)(out:List (Int×Ms))(u':Gv):Prop:=∃g' K,Kn n x K/\Grv K u u'/\Inv n nb (upd x j a) (λy=>sn y∨∃z∈out,y=z.2) g' u'
section
variable {n nb:Int} {x:Int->Nd} {sn:Ms->Prop} {g:Gh} {u:Gv} {j:Int}
def Inv.nil(h:Inv n nb x sn g u):Inv n nb x (λy=>sn y∨∃z∈([]:List (Int×Ms)),y=z.2) g u:=h.says sG
def Inv.same(h:Inv n nb x sn g u):Inv n nb (upd x j (x j)) sn g u:=by rw[lK];exact h
def Call.none(h:Inv n nb x sn g u):Call n nb x sn u j (x j) [] u.wr:=by obtain⟨K,b,a⟩:=h.kn;exact⟨g,u,K,a,b,.refl K u,rfl,by rw[lK];exact h.nil,sG⟩
def Inv.call{a:Nd}{b:Gh}{u':Gv}{K:Int}{out:List (Int×Ms)}(i:Kn n x K)(l:0<=K)(m:Grv K u u')(h:Inv n nb (upd x j a) sn b u')(c:∀z∈out,lF n (upd x j a) b u' z.2)(g:∀z∈out,z.2.k=8->z.2.f=j/\z.2.e=a.d.seen):Call n nb x sn u j a out u'.wr:=⟨b,u',K,i,l,m,rfl,h.says c,g⟩
def Inv.iw{a:Nd}{b:Gh}{out:List (Int×Ms)}(h':Inv n nb x sn g u)(h:Inv n nb (upd x j a) sn b u)(c:∀z∈out,lF n (upd x j a) b u z.2)(i:∀z∈out,z.2.k=8->z.2.f=j/\z.2.e=a.d.seen):Call n nb x sn u j a out u.wr:=by obtain⟨K,m,l⟩:=h'.kn;exact Inv.call l m (.refl K u) h c i
def Inv.fall(h:Inv n nb x sn g u){m:Ms}(a:En n (x j).d g u m):Inv n nb (upd x j ((x j).fall m)) sn g u:=h.idle rfl ⟨rfl,rfl,rfl⟩ rfl rfl rfl rfl (λ_=>a)
def wX{m:Ms}(h:m.k=1∨m.k=5):lF n x g u m:=by refine⟨λa=>?_,λa=>?_,λa=>?_,λa=>?_,λa=>?_,λa=>?_⟩<;>omega
def Inv.decision(h:Inv n nb x sn g u)(k:0<=j)(c:j<n){e f:Int}(b:0<=e)(l:e<(x j).d.ep):lF n x g u {(x j).decision e with f:=f}:=by
 refine⟨λa=>?_,λa=>?_,λa=>?_,λ_=>?_,λa=>?_,λa=>?_⟩;·simp[Nd.decision]at a
 ·simp[Nd.decision]at a
 ·simp[Nd.decision]at a
 ·have q:=(h.own k c).rr (i:=e+1) oG oG;simp only[Nd.decision];exact⟨b,by rw[q],by rw[q],j,k,c,l⟩
 ·simp[Nd.decision]at a
 ·simp[Nd.decision]at a
def Nd.ku(n:Nd)(tq:Int)(r:Nd×Ms):Nd×List (Int×Ms):=(r.1,if r.2.k=0 then[] else[(tq,{r.2 with f:=n.id})])
def jV{y:Nd}{b:Int}{r:Nd×Ms}{Q:Int×Ms->Prop}(h:r.2.k≠0->Q (b,{r.2 with f:=y.id})):∀z∈(y.ku b r).2,Q z:=by
 intro z a;unfold Nd.ku at a;dsimp only at a;split at a;·simp at a
 ·next hk=>simp at a;subst a;exact h hk
def Inv.iy(h:Inv n nb x sn g u)(r:0<=j)(t:j<n)(w:(x j).5=false){m:Ms}(c:m.k=1∨m.k=3)(L:sn m)(C:0<=m.e)(ok:Bool):Call n nb x sn u j ((x j).ku m.f ((x j).iy m ok)).1 ((x j).ku m.f ((x j).iy m ok)).2 u.wr:=by
 have y:=(h.own r t).i0.1;have D:=(h.ms L).s3;unfold Nd.iy;by_cases E:m.e<(x j).d.ep
 ·rw[if_pos E];refine h.iw (by rw[show((x j).ku m.f (x j,(x j).decision m.e)).1=x j from rfl,lK];exact h) (jV λ_=>?_) (jV λ_ l=>?_);·rw[show((x j).ku m.f (x j,(x j).decision m.e)).1=x j from rfl,lK];exact h.decision r t C E
  ·simp[Nd.decision]at l
 rw[if_neg E];by_cases F:m.b<(dJ (x j).d.3 m.e).pr;·rw[if_pos F];refine h.iw (a:=x j) h.same (jV λ_=>wX (.inr rfl)) (jV λ_ l=>by simp at l)
 rw[if_neg F];dsimp only;have s8:∀z∈((x j).ku m.f (x j,if m.k=3 then{Ms.nil with k:=4,e:=m.e,b:=m.b} else{Ms.nil with k:=2,e:=m.e,b:=m.b,wa:=(dJ (x j).d.3 m.e).ac,p:=(dJ (x j).d.3 m.e).pm,s:=(dJ (x j).d.3 m.e).st})).2,z.2.k≠8:=by refine jV λ_ l=>?_;by_cases M:m.k=3<;>simp[M,Ms.nil]at l
 have mk:∀{x':Int->Nd} {A:Gh},(m.k=1->A.jh j m.e m.b (dJ (x j).d.3 m.e).ac ((dJ (x j).d.3 m.e).pm,(dJ (x j).d.3 m.e).st))->(m.k=3->∃v,A.acc j m.e m.b v)->∀z∈((x j).ku m.f (x j,if m.k=3 then{Ms.nil with k:=4,e:=m.e,b:=m.b} else{Ms.nil with k:=2,e:=m.e,b:=m.b,wa:=(dJ (x j).d.3 m.e).ac,p:=(dJ (x j).d.3 m.e).pm,s:=(dJ (x j).d.3 m.e).st})).2,lF n x' A u z.2:=by
  intro x' A a1 N;refine jV λ_=>?_;rcases c with c|c;·rw[if_neg oG];refine⟨λ_=>by rw[y];exact a1 c,λi=>?_,λi=>?_,λi=>?_,λi=>?_,λi=>?_⟩<;>simp[Ms.nil]at i
  ·rw[if_pos c];refine⟨λi=>?_,λi=>?_,λ_=>by rw[y];exact N c,λi=>?_,λi=>?_,λi=>?_⟩<;>simp[Ms.nil]at i
 split
 ·next c3=>
  rcases c with c|c
  ·have K:(dJ (x j).d.3 m.e).pr=m.b:=by have:=congrArg PV.pr (rI c3);simp[PV.after,c]at this;exact this.symm
   have o:=h.again r t (e:=m.e) (b:=m.b) oG K;refine h.iw (a:=x j) o.same (mk (λ_=>.inr ⟨rfl,rfl,rfl,rfl,rfl⟩) (λi=>oG)) (λz q l=>absurd l (s8 z q))
  ·have H:=D c;have B:(dJ (x j).d.3 m.e).ac=m.b:=by have:=congrArg PV.ac (rI c3);simp[PV.after,c]at this;exact this.symm
   have o:=h.vx.n2 r t (j:=j) (e:=m.e) (by simp only[Nd.vo];omega) (by simp only[Nd.vo];have:=h.vx.a6 H;omega);simp only[Nd.vo]at o;rw[B]at o;exact h.iw (a:=x j) h.same (mk (λi=>oG) (λ_=>⟨_,o⟩)) (λz q l=>absurd l (s8 z q))
 ·split
  ·rcases c with c|c;·have o:=h.promise r t w c oG oG;exact h.iw (a:={x j with d:=(x j).d.step m}) o (mk (λ_=>.inr ⟨rfl,rfl,rfl,rfl,rfl⟩) (λi=>oG)) (λz q l=>absurd l (s8 z q))
   ·have o:=h.accept r t w c oG oG (D c);exact h.iw (a:={x j with d:=(x j).d.step m}) o (mk (λi=>oG) (λ_=>⟨_,.inr ⟨rfl,rfl,rfl,rfl⟩⟩)) (λz q l=>absurd l (s8 z q))
  ·refine h.iw (a:=(x j).fall m) (h.fall ?_) (by simp[Nd.ku,Ms.nil]) (by simp[Nd.ku,Ms.nil]);rcases c with c|c;·exact .inl ⟨c,oG,oG⟩
   ·exact .inr (.inl ⟨c,oG,oG,D c⟩)
end
end AG
namespace AG
section
variable {n nb:Int} {x:Int->Nd} {sn:Ms->Prop} {g:Gh} {u:Gv} {j:Int}
def Inv.qa(h:Inv n nb x sn g u)(c:0<=j)(a:j<n){e:Int}(f:0<=e)(i:e<=(x j).d.ep):(u.R e).E=e:=by
 by_cases b:e=0;·subst b;rw[h.r0]
 ·have:=((h.own c a).rf (e:=e - 1) oG oG).1;rw[show e - 1+1=e by omega]at this;exact this
def Inv.known(h:Inv n nb x sn g u)(o:0<=j)(m:j<n){e:Int}(a:0<=e)(f:e<(x j).d.ep):Fol (u.R e) (e+1) (u.R (e+1)).P (u.R (e+1)).S/\(sub (u.R (e+1)).S (u.R e).S∨u.ad e/\Cp sn (u.R e).S (u.R (e+1)).S e):=by obtain⟨_,b,l,c,k⟩:=(h.own o m).rf a f;obtain⟨i,hi,_⟩:=sU c c;exact(h.gr (h.vx.a1 (k i hi))).2.2
def Inv.mr(h:Inv n nb x sn g u)(f:0<=j)(c:j<n){e:Int}(b:0<=e)(k:e<=(x j).d.ep):0<=(u.R e).S/\(u.R e).S<=31:=by
 by_cases i:e=0;·subst i;rw[h.r0];have l:=h.nn;have a:n=2∨n=3∨n=4∨n=5:=oG;rcases a with rfl|rfl|rfl|rfl<;>decide
 ·have:=(h.known f c (e:=e - 1) oG oG).1;rw[show e - 1+1=e by omega]at this;obtain⟨_,_,_,_,_,s0,s1,_⟩:=this;omega
def Inv.learned(h:Inv n nb x sn g u)(f:0<=j)(l:j<n)(q:(x j).5=false){m:Ms}{b:Int}(r:m.k=6)(o:folB ((x j).d.rc (x j).d.ep) (m.e+1) m.p m.s=true)(z:m.e=(x j).d.ep->lJ n g m.e b (m.p,m.s))(ok:Bool){y:Nd}(hy:y.d=(x j).d/\y.id=(x j).id/\y.2=(x j).2/\y.nb=(x j).nb/\y.5=(x j).5):∃u' K,Kn n x K/\0<=K/\Grv K u u'/\u'.wr=u.wr/\Inv n nb (upd x j (y.decided m ok).1) sn g u'/\((y.decided m ok).2=true->u'.R (m.e+1)=⟨m.e+1,m.p,m.s⟩/\m.e<(y.decided m ok).1.d.ep):=by
 obtain⟨i,A,w,v,N⟩:=hy;have t:=(h.own f l).i0.2.2.2.2;have c:m.e=(x j).d.ep:=by have C:=(h.own f l).rr t (Int.le_refl _);have S:=h.qa f l t (Int.le_refl _);rw[C]at o;have:=(sW o).2.2.1;omega
 unfold Nd.decided;rw[i,if_pos o];cases ok;·obtain⟨K,F,L⟩:=h.kn;refine⟨u,K,L,F,.refl K u,rfl,?_,sG⟩;exact h.idle (a:=y.fall m) (by simp[Nd.fall,Nd.stand,i]) ⟨A,w,v⟩ rfl rfl rfl rfl (λ_=>.inr (.inr (.inl ⟨r,c,b,z c⟩)))
 ·obtain⟨u',K,H,O,M,B,E,D,Q⟩:=h.learn f l r c (z c) (a:={(y.save m true).stand with act:=(x j).d.takes (m.e+1) m.p}) (by simp[Nd.save,Nd.stand,i]) ⟨A,w,v⟩ id rfl rfl rfl (by simp[Nd.save,Nd.stand,N,q]);refine⟨u',K,O,M,B,D,H,λ_=>⟨E,?_⟩⟩;show m.e<((y.save m true).stand).d.ep;simp[Nd.save,Nd.stand,i,Du.step,r,Du.learn,Du.ep]at c⊢;omega
def Inv.decided(h:Inv n nb x sn g u)(v:0<=j)(B:j<n)(a:(x j).5=false){m:Ms}(f:m.k=6)(A:sn m)(ok:Bool):Call n nb x sn u j ((x j).decided m ok).1 [] u.wr:=by
 by_cases c:folB ((x j).d.rc (x j).d.ep) (m.e+1) m.p m.s=true;·obtain⟨C,t,w,i,o,z,q⟩:=(h.ms A).s6 f;obtain⟨_,b,l⟩:=(h.own o z).rf C q;rw[t,w]at l;obtain⟨u',K,D,H,E,r,F,_⟩:=h.learned v B a f c (λ_=>l) ok (y:=x j) ⟨rfl,rfl,rfl,rfl,rfl⟩;rw[←r];exact Inv.call D H E F sG sG
 ·unfold Nd.decided;rw[if_neg c];exact Call.none h
def kJ{y:Nd}{m:Ms}{l:List Int}{Q:Int×Ms->Prop}(h:∀i,Q (i,{m with f:=y.id})):∀z∈y.tell m l,Q z:=by intro z a;simp only[Nd.tell,List.mem_map]at a;obtain⟨i,_,rfl⟩:=a;exact h i
def Inv.conclude(h:Inv n nb x sn g u)(b:0<=j)(f:j<n)(c:(x j).ph=3)(l:0<(x j).ba)(A:n<2*((x j).an.length:Int))(ok:Bool):Call n nb x sn u j ((x j).conclude ok).1 ((x j).conclude ok).2 u.wr:=by
 have q:=h.own b f;have o:=rK q c;have E:=h.chosen b f c l A;have r:=(q.gc oG).1;unfold Nd.conclude;dsimp only;have v:folB ((x j).d.rc (x j).d.ep) (({Ms.nil with k:=6,e:=(x j).d.ep,p:=(x j).gP,s:=(x j).gS}:Ms).e+1) ({Ms.nil with k:=6,e:=(x j).d.ep,p:=(x j).gP,s:=(x j).gS}:Ms).p ({Ms.nil with k:=6,e:=(x j).d.ep,p:=(x j).gP,s:=(x j).gS}:Ms).s=true:=by rw[q.rr q.i0.2.2.2.2 (Int.le_refl _)];exact sV (h.mr b f q.i0.2.2.2.2 (Int.le_refl _)) r
 obtain⟨u',K,C,H,D,w,F,B⟩:=h.learned b f o (m:={Ms.nil with k:=6,e:=(x j).d.ep,p:=(x j).gP,s:=(x j).gS}) rfl v (λ_=>E) ok (y:={x j with ph:=0,gP:=0,gS:=0,jo:=0,ba:=0,rf:=0,fo:=.nil,an:=[]}) ⟨rfl,rfl,rfl,rfl,rfl⟩;rw[←w];refine Inv.call C H D F ?_ ?_
 ·split
  ·next hh=>
   obtain⟨t,z⟩:=B hh;refine kJ λi=>?_;refine⟨λa=>?_,λa=>?_,λa=>?_,λ_=>⟨q.i0.2.2.2.2,by rw[t],by rw[t],j,b,f,by rw[upd_self];exact z⟩,λa=>?_,λa=>?_⟩<;>simp at a
  ·simp
 ·split;·exact kJ λi a=>by simp at a
  ·simp
def Inv.update(h:Inv n nb x sn g u)(r:0<=j)(v:j<n)(s:(x j).5=false){m:Ms}(t:m.k=7∨m.k=9)(F:sn m)(A:0<=m.e)(ok:Bool):Call n nb x sn u j ((x j).ku m.f ((x j).update m ok)).1 ((x j).ku m.f ((x j).update m ok)).2 u.wr:=by
 have q:=h.own r v;have i:=q.i0.1;obtain⟨y,w,z,B⟩:=(h.ms F).s7 t;unfold Nd.update;split;·exact h.iw (a:=x j) h.same (jV λb=>absurd rfl b) (jV λb=>absurd rfl b)
 next c1=>
 split
 ·next c2=>
  refine h.iw (a:=x j) h.same (jV λb=>?_) (jV λb D=>?_)
  ·by_cases c3:m.e<(x j).d.ep;·rw[if_pos c3,lK];exact h.decision r v A c3
   ·rw[if_neg c3]at b;exact absurd rfl b
  ·by_cases c3:m.e<(x j).d.ep;·rw[if_pos c3]at D;simp[Nd.decision]at D
   ·rw[if_neg c3]at b;exact absurd rfl b
 next c2=>
 dsimp only;have mk:∀{x':Int->Nd},(x' j).d.seen=m.e->m.q<=(x' j).d.last->lF n x' g u {({Ms.nil with k:=m.k+1,e:=m.e,q:=m.q}:Ms) with f:=(x j).id}:=by
  intro x' a1 H;refine⟨λb=>?_,λb=>?_,λb=>?_,λb=>?_,λb=>?_,λb=>?_⟩;·dsimp only at b;omega
  ·dsimp only at b;omega
  ·dsimp only at b;omega
  ·dsimp only at b;omega
  ·dsimp only at b;omega
  ·dsimp only;rw[i];exact⟨y,w,r,v,.inr ⟨a1.symm,H⟩⟩
 split
 ·next c3=>
  refine h.iw (a:=x j) h.same (jV λ_=>by rw[lK];exact mk c3.1.symm oG) (jV λ_ _=>⟨i,c3.1⟩)
 next c3=>
 have l:(x j).d.seen<m.e∨(x j).d.seen=m.e/\(x j).d.last<=m.q:=by
  by_cases p:m.e=(x j).d.seen;·refine .inr ⟨p.symm,?_⟩;apply Classical.byContradiction;intro E;exact c1 (.inr ⟨p,.inr oG⟩)
  ·exact .inl oG
 split
 ·have o:(((x j).save m true).stand).d.seen=m.e/\(((x j).save m true).stand).d.last=m.q/\((x j).save m true).d.seen=m.e/\((x j).save m true).d.last=m.q:=by have:=step79 (x j).d t;exact⟨this.2.2.2.1,this.2.2.2.2,this.2.2.2.1,this.2.2.2.2⟩
  by_cases p:m.e=(x j).d.seen
  ·rw[if_pos p];have c:(x j).act=false:=by
    cases ha:(x j).act;·rfl
    ·exact absurd (.inr ⟨p,.inl ha⟩) c1
   have C:(x j).on<=0:=by apply Classical.byContradiction;intro E;have:=(q.o1 oG).1;rw[c]at this;simp at this
   refine h.iw (a:=(x j).save m true) (h.write r v t y w (λk=>(z k).2) B l rfl ⟨rfl,rfl,rfl⟩ c C (.inr ⟨rfl,rfl,rfl,rfl,rfl,rfl⟩) s (.inr c)) (jV λ_=>mk (by rw[upd_self];exact o.2.2.1) (by rw[upd_self,o.2.2.2];exact Int.le_refl _)) (jV λ_ _=>⟨i,o.2.2.1.symm⟩)
  ·rw[if_neg p];refine h.iw (a:=((x j).save m true).stand) (h.write r v t y w (λk=>(z k).2) B l rfl ⟨rfl,rfl,rfl⟩ rfl (Int.le_refl _) (.inl ⟨rfl,rfl⟩) s (.inl ⟨rfl,rfl⟩)) (jV λ_=>mk (by rw[upd_self];exact o.1) (by rw[upd_self,o.2.1];exact Int.le_refl _)) (jV λ_ _=>⟨i,o.1.symm⟩)
 ·exact h.iw (a:=(x j).fall m) (h.fall (.inr (.inr (.inr ⟨t,y,w,λk=>(z k).2,B,l⟩)))) (by simp[Nd.ku,Ms.nil]) (by simp[Nd.ku,Ms.nil])
end
end AG
namespace AG
section
variable {n nb:Int} {x:Int->Nd} {sn:Ms->Prop} {g:Gh} {u:Gv} {j:Int}
def Call.trans{a a1:Nd}{out:List (Int×Ms)}{W:Int->Int->Prop}(p:(x j).d.ep<=a1.d.ep)(o:Call n nb (upd x j a1) sn u j a out W):Call n nb x sn u j a out W:=by
 obtain⟨f,u',K,e,b,l,c,h,k⟩:=o;rw[qG]at h;refine⟨f,u',K,λi g m=>?_,b,l,c,h,k⟩;have:=e i g m;by_cases hi:i=j;·subst hi;rw[upd_self]at this;omega
 ·rw[upd_ne hi]at this;exact this
def OJ{a rf id:Int}(d:0<=a)(f:0<=id)(e:id<5):∀b,b=(if max a rf - max a rf%5+id<=max a rf then max a rf - max a rf%5+id+5 else max a rf - max a rf%5+id)->b%5=id/\0<b/\a<b:=by intro b c;subst c;split<;>omega
def Inv.fu(h:Inv n nb x sn g u)(t:0<=j)(z:j<n)(l:(x j).5=false){y:Nd}(hy:y.d=(x j).d/\y.id=(x j).id/\y.2=(x j).2/\y.nb=(x j).nb/\y.5=(x j).5/\y.act=(x j).act/\y.on=(x j).on/\y.ow=(x j).ow/\y.oa=(x j).oa)(v:Fol (u.R (x j).d.ep) ((x j).d.ep+1) y.gP y.gS/\(sub y.gS (u.R (x j).d.ep).S∨u.ad (x j).d.ep/\Cp sn (u.R (x j).d.ep).S y.gS (x j).d.ep))(ok:Bool)(o:1000000000000<y.fe y.rf->Inv n nb (upd x j y) sn g u):Call n nb x sn u j (y.fu ok).1 (y.fu ok).2 u.wr:=by
 obtain⟨c,B,E,D,C,H,K,X,Q⟩:=hy;have q:=h.own t z;have A:=q.i0.1;have hE:=q.i0.2.2.2.2;have r:=h.vx.lw (j:=j) (e:=(x j).d.ep) t z (Int.le_refl _);simp only[Nd.vo]at r;have U:=OJ (rf:=y.rf) (show 0<=(dJ y.d.3 y.d.ep).pr by rw[c];omega) (show 0<=y.id by omega) (by have:=h.nn;omega) (y.fe y.rf) rfl;rw[c]at U;unfold Nd.fu;dsimp only;by_cases w:1000000000000<y.fe y.rf;·rw[if_pos w];exact h.iw (o w) sG sG
 rw[if_neg w];have V:y.iy {Ms.nil with k:=1,e:=y.d.ep,b:=y.fe y.rf} ok=if ok=true then(y.save {Ms.nil with k:=1,e:=y.d.ep,b:=y.fe y.rf} true,{Ms.nil with k:=2,e:=y.d.ep,b:=y.fe y.rf,wa:=(dJ y.d.3 y.d.ep).ac,p:=(dJ y.d.3 y.d.ep).pm,s:=(dJ y.d.3 y.d.ep).st}) else(y.fall {Ms.nil with k:=1,e:=y.d.ep,b:=y.fe y.rf},.nil):=by
  unfold Nd.iy;dsimp only;have c1:¬y.d.ep<y.d.ep:=Int.lt_irrefl _;have F:¬y.fe y.rf<(dJ y.d.3 y.d.ep).pr:=by rw[c];omega
  have c3:¬(1:Int)=3:=oG;have W:¬(((dJ y.d.3 y.d.ep).after 1 (y.fe y.rf) Ms.nil.p Ms.nil.s).nk (dJ y.d.3 y.d.ep)=true):=by intro O;have:=congrArg PV.pr (rI O);simp[PV.after]at this;rw[c]at this;omega
  rw[if_neg c1,if_neg F,if_neg W,if_neg c3]
 rw[V];cases ok
 ·have N:¬(false=true):=sG;rw[if_neg N];have cd:(y.fall {Ms.nil with k:=1,e:=y.d.ep,b:=y.fe y.rf}).5=true:=rfl;rw[if_pos cd];refine h.iw (h.idle (by simp[Nd.fall,Nd.stand,c]) ⟨B,E,D⟩ rfl rfl rfl rfl (λ_=>.inl ⟨rfl,?_,?_⟩)) sG sG;·show(x j).d.ep<=y.d.ep;rw[c];exact Int.le_refl _
  ·show(dJ (x j).d.3 y.d.ep).pr<=y.fe y.rf;rw[c];omega
 ·rw[if_pos rfl,if_neg (by simp[Nd.save,C,l])];have M:=h.take t z (m:={Ms.nil with k:=1,e:=y.d.ep,b:=y.fe y.rf}) rfl (by simp[c]) (by dsimp only;omega) (by dsimp only;omega) (by dsimp only;rw[c];omega) (a:={y.save {Ms.nil with k:=1,e:=y.d.ep,b:=y.fe y.rf} true with ph:=2,ba:=y.fe y.rf,fo:={({Ms.nil with k:=2,e:=y.d.ep,b:=y.fe y.rf,wa:=(dJ y.d.3 y.d.ep).ac,p:=(dJ y.d.3 y.d.ep).pm,s:=(dJ y.d.3 y.d.ep).st}:Ms) with f:=y.id},an:=[(2,y.d.ep,y.fe y.rf,y.id)]}) (by simp[Nd.save,c]) ⟨B,E,D⟩ H ⟨K,X,Q⟩ (by simp[Nd.save,C,l]) rfl rfl (by simp[c]) (by dsimp only;rw[B,A]) (by dsimp only[Nd.save];rw[c];exact v);exact h.iw M (kJ λi=>wX (.inl rfl)) (kJ λi L=>by simp at L)
def Inv.qg(h:Inv n nb x sn g u)(w:0<=j)(A:j<n)(y:(x j).ph=2)(B:0<(x j).ba)(X:n<2*((x j).an.length:Int))(ok:Bool):Call n nb x sn u j ((x j).gy ok).1 ((x j).gy ok).2 u.wr:=by
 have q:=h.own w A;have o:=rK q y;have N:=q.i0.1;have hE:=q.i0.2.2.2.2;obtain⟨P,E⟩:∃P,P=(if 0<(x j).fo.wa then(x j).fo.p else(x j).gP):=⟨_,rfl⟩;obtain⟨S,hS⟩:∃S,S=(if 0<(x j).fo.wa then(x j).fo.s else(x j).gS):=⟨_,rfl⟩;have F:=h.gy w A y B X E hS;have hn:(if 0<(x j).fo.wa then{x j with gP:=(x j).fo.p,gS:=(x j).fo.s} else x j)={x j with gP:=P,gS:=S}:=by
  by_cases c:0<(x j).fo.wa;·rw[if_pos c]at E hS⊢;rw[E,hS]
  ·rw[if_neg c]at E hS⊢;rw[E,hS]
 unfold Nd.gy;rw[hn];dsimp only;have Q:∀{x':Int->Nd} {r:Gh},r.jr (x j).d.ep (x j).ba (P,S)->∀z∈({x j with gP:=P,gS:=S}:Nd).tell {Ms.nil with k:=3,e:=(x j).d.ep,b:=(x j).ba,p:=P,s:=S} ({x j with gP:=P,gS:=S}:Nd).others,lF n x' r u z.2:=by intro x' r M;refine kJ λi=>?_;refine⟨λD=>?_,λ_=>M,λD=>?_,λD=>?_,λD=>?_,λD=>?_⟩<;>simp at D
 have V:∀z∈({x j with gP:=P,gS:=S}:Nd).tell {Ms.nil with k:=3,e:=(x j).d.ep,b:=(x j).ba,p:=P,s:=S} ({x j with gP:=P,gS:=S}:Nd).others,z.2.k≠8:=kJ λi C=>by simp at C
 have l:∀{d:Du} {r:Gh},(∃O,O=upd x j {x j with d:=d,ph:=3,gP:=P,gS:=S,an:=[]}/\Inv n nb O sn r u)->d.ep=(x j).d.ep->(∃v,r.acc j (x j).d.ep (x j).ba v)->r.jr (x j).d.ep (x j).ba (P,S)->Call n nb x sn u j {x j with d:=d,gP:=P,gS:=S,ph:=3,an:=[(4,(x j).d.ep,(x j).ba,(x j).id)]} (({x j with gP:=P,gS:=S}:Nd).tell {Ms.nil with k:=3,e:=(x j).d.ep,b:=(x j).ba,p:=P,s:=S} ({x j with gP:=P,gS:=S}:Nd).others) u.wr:=by rintro d r ⟨O,rfl,t⟩ W ⟨v,hv⟩ M;have R:=t.tally w A (e:=(x j).d.ep) (b:=(x j).ba) (f:=j) hv (by rw[upd_self];exact W.symm) (by rw[upd_self]) B (by rw[upd_self]) (by rw[upd_self];simp) rfl;rw[upd_self,qG]at R;refine h.iw (a:={x j with d:=d,gP:=P,gS:=S,ph:=3,an:=[(4,(x j).d.ep,(x j).ba,(x j).id)]}) (by rw[N];exact R) (Q M) (λz L C=>absurd C (V z L))
 unfold Nd.iy;dsimp only;rw[if_neg (Int.lt_irrefl _)];by_cases U:(x j).ba<(dJ (x j).d.3 (x j).d.ep).pr;·rw[if_pos U];dsimp only;rw[if_neg (by rw[o];simp),if_neg dG];exact h.iw (a:={x j with gP:=P,gS:=S,ph:=3,an:=[]}) F (Q (.inr ⟨rfl,rfl,rfl⟩)) (λz L C=>absurd C (V z L))
 rw[if_neg U];rw[if_pos rfl];split
 ·next c3=>
  rw[if_neg (by rw[o];simp),if_pos rfl];have H:(dJ (x j).d.3 (x j).d.ep).ac=(x j).ba:=by have:=congrArg PV.ac (rI c3);simp[PV.after]at this;exact this.symm
  have K:=h.vx.n2 (j:=j) (e:=(x j).d.ep) w A (Int.le_refl _) (by simp only[Nd.vo];omega);simp only[Nd.vo]at K;rw[H]at K;exact l (d:=(x j).d) ⟨_,rfl,F⟩ rfl ⟨_,K⟩ (.inr ⟨rfl,rfl,rfl⟩)
 ·cases ok;·have cf:¬(false=true):=sG;simp only[if_neg cf];have cd:(({x j with gP:=P,gS:=S}:Nd).fall {Ms.nil with k:=3,e:=(x j).d.ep,b:=(x j).ba,p:=P,s:=S}).5=true:=rfl;rw[if_pos cd];have t:=F.idle (j:=j) (a:=({x j with gP:=P,gS:=S}:Nd).fall {Ms.nil with k:=3,e:=(x j).d.ep,b:=(x j).ba,p:=P,s:=S}) (by rw[upd_self];rfl) (by rw[upd_self];exact⟨rfl,rfl,rfl⟩) rfl rfl rfl rfl (λ_=>.inr (.inl ⟨rfl,by rw[upd_self];exact Int.le_refl _,by rw[upd_self];show(dJ (x j).d.3 (x j).d.ep).pr<=(x j).ba;omega,.inr ⟨rfl,rfl,rfl⟩⟩));rw[qG]at t;exact h.iw t sG sG
  ·rw[if_pos rfl,if_neg (by simp[Nd.save,o]),if_pos rfl];have t:=F.accept (j:=j) w A (by rw[upd_self];exact o) (m:={Ms.nil with k:=3,e:=(x j).d.ep,b:=(x j).ba,p:=P,s:=S}) rfl (by rw[upd_self];exact Int.le_refl _) (by rw[upd_self];show(dJ (x j).d.3 (x j).d.ep).pr<=(x j).ba;omega) (.inr ⟨rfl,rfl,rfl⟩);rw[upd_self,qG]at t;exact l (d:=(x j).d.step {Ms.nil with k:=3,e:=(x j).d.ep,b:=(x j).ba,p:=P,s:=S}) ⟨_,rfl,t⟩ (by simp[Du.step,Du.ep]) ⟨_,.inr ⟨rfl,rfl,rfl,rfl⟩⟩ (.inr ⟨rfl,rfl,rfl⟩)
end
end AG
end Go.Proofs.YtdcainmlcpafbaaGreatDoor
