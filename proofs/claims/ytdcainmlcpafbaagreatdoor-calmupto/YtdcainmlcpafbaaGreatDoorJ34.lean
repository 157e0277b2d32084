import Derived.Test.YtdcainmlcpafbaaGreatDoorJ22
set_option linter.all false
set_option maxHeartbeats 1000000
set_option maxRecDepth 20000
namespace Go.Proofs.YtdcainmlcpafbaaGreatDoor
namespace AG
def stepA(s:(Int->Nd)×List (Int×Ms))(z:Int×Ms):(Int->Nd)×List (Int×Ms):=(upd s.1 z.1 ((s.1 z.1).receive z.2 true).1,s.2++((s.1 z.1).receive z.2 true).2)
def passA(x:Int->Nd)(net:List (Int×Ms)):(Int->Nd)×List (Int×Ms):=net.foldl stepA (x,[])
def RA(l:List (Int×Ms)):∀(x:Int->Nd) (a:List (Int×Ms)),l.foldl stepA (x,a)=((passA x l).1,a++(passA x l).2):=by
 induction l with
 |nil=>intro x a;simp[passA]
 |cons z l ih=>
  intro x a;have e:∀b,stepA (x,b) z=(upd x z.1 ((x z.1).receive z.2 true).1,b++((x z.1).receive z.2 true).2):=λ_=>rfl;have c:passA x (z::l)=((passA (upd x z.1 ((x z.1).receive z.2 true).1) l).1,((x z.1).receive z.2 true).2++(passA (upd x z.1 ((x z.1).receive z.2 true).1) l).2):=by show(z::l).foldl stepA (x,[])=_;rw[List.foldl_cons,e,ih];simp
  rw[List.foldl_cons,e,ih,c];simp
def rC(x:Int->Nd)(z:Int×Ms)(l:List (Int×Ms)):passA x (z::l)=((passA (upd x z.1 ((x z.1).receive z.2 true).1) l).1,((x z.1).receive z.2 true).2++(passA (upd x z.1 ((x z.1).receive z.2 true).1) l).2):=by have e:stepA (x,[]) z=(upd x z.1 ((x z.1).receive z.2 true).1,[]++((x z.1).receive z.2 true).2):=rfl;show(z::l).foldl stepA (x,[])=_;rw[List.foldl_cons,e,RA];simp
def xK(f:Int->Ms):∀(l:List Int) (x:Int->Nd),l.Nodup->passA x (l.map λk=>(k,f k))=(λk=>if k∈l then((x k).receive (f k) true).1 else x k,l.flatMap λk=>((x k).receive (f k) true).2)
 | [],x,_=>by simp[passA]
 |k::l,x,h=>by
  have d:=List.nodup_cons.1 h;rw[List.map_cons,rC,xK f l _ d.2];refine Prod.ext ?_ ?_
  ·funext j;dsimp only;by_cases b:j=k;·subst b;rw[if_neg d.1,upd_self,if_pos List.mem_cons_self]
   ·rw[upd_ne b];by_cases c:j∈l;·rw[if_pos c,if_pos (List.mem_cons_of_mem _ c)]
    ·rw[if_neg c,if_neg (by simp[b,c])]
  ·dsimp only;rw[List.flatMap_cons];congr 1;have:∀j∈l,upd x k ((x k).receive (f k) true).1 j=x j:=λj b=>upd_ne (λe=>d.1 (e ▸ b));clear h d;induction l with
   |nil=>rfl
   |cons a l ih=>rw[List.flatMap_cons,List.flatMap_cons,this a List.mem_cons_self,ih (λj b=>this j (List.mem_cons_of_mem _ b))]
def jR:Nd->List Ms->Nd×List (Int×Ms)
  |y,[]=>(y,[])
  |y,m::l=>((jR (y.receive m true).1 l).1,(y.receive m true).2++(jR (y.receive m true).1 l).2)
def yC(i:Int):∀(l:List Ms) (x:Int->Nd),passA x (l.map λm=>(i,m))=(upd x i (jR (x i) l).1,(jR (x i) l).2)
 | [],x=>by simp[passA,jR,lK]
 |m::l,x=>by rw[List.map_cons,rC,yC i l];simp only[upd_self,qG,jR]
def BE:∀(l:List (Int×Ms)) (x:Int->Nd),(∀z∈l,((x z.1).receive z.2 true).1=x z.1)->passA x l=(x,l.flatMap λz=>((x z.1).receive z.2 true).2)
 | [],x,_=>by simp[passA]
 |z::l,x,h=>by rw[rC,h z List.mem_cons_self,lK,BE l x (λy hy=>h y (List.mem_cons_of_mem _ hy))];rfl
def Vy(y y':Nd):Prop:=y'={y with d:={y.d with kv:=y'.d.3}}
def Vy.refl(y:Nd):Vy y y:=rfl
def Vy.trans{x y z:Nd}(h:Vy x y)(h':Vy y z):Vy x z:=by unfold Vy at*;rw[h',h]
def vt(y:Nd)(e:Int):PV:=dJ y.d.3 e
def Vy.f{y a:Nd}(h:Vy y a):a.id=y.id/\a.2=y.2/\a.nb=y.nb/\a.5=y.5/\a.act=y.act/\a.ph=y.ph/\a.on=y.on/\a.res=y.res/\a.ops=y.ops/\a.d.ep=y.d.ep/\a.d.recs=y.d.recs/\a.d.bk=y.d.bk/\a.d.seen=y.d.seen/\a.d.last=y.d.last/\a.d.id=y.d.id:=by rw[h];exact⟨rfl,rfl,rfl,rfl,rfl,rfl,rfl,rfl,rfl,rfl,rfl,rfl,rfl,rfl,rfl⟩
structure Qn(n k E:Int)(y:Nd):Prop where
  id:y.id=k
  di:y.d.id=k
  no:y.2=n
  up:y.5=false
  ph:y.ph=0
  on:y.on=0
  rs:y.res=[]
  ep:y.d.ep=E
def Qn.vy{n k E:Int}{y c:Nd}(h:Qn n k E y)(m:Vy y c):Qn n k E c:=by obtain⟨a1,o,s,d,t,j,i,e,r,b,g,p,q,l,a⟩:=m.f;exact⟨a1.trans h.id,a.trans h.di,o.trans h.no,d.trans h.up,j.trans h.ph,i.trans h.on,e.trans h.rs,b.trans h.ep⟩
def yX(y:Nd){m:Ms}(g:m.k=1∨m.k=3)(i:m.e=y.d.ep):∃f a,y.iy m true=(f,a)/\Vy y f/\(∀e,e≠m.e->vt f e=vt y e)/\((m.b<(vt y m.e).pr/\f=y/\a={Ms.nil with k:=5,e:=m.e,b:=m.b,wa:=(vt y m.e).pr})∨ ((vt y m.e).pr<=m.b/\vt f m.e=(vt y m.e).after m.k m.b m.p m.s/\a=if m.k=3 then{Ms.nil with k:=4,e:=m.e,b:=m.b} else{Ms.nil with k:=2,e:=m.e,b:=m.b,wa:=(vt y m.e).ac,p:=(vt y m.e).pm,s:=(vt y m.e).st})):=by
 unfold Nd.iy;rw[if_neg oG];by_cases c:m.b<(dJ y.d.3 m.e).pr;·rw[if_pos c];exact⟨_,_,rfl,.refl y,λ_ _=>rfl,.inl ⟨c,rfl,rfl⟩⟩
 ·rw[if_neg c];dsimp only;by_cases c3:((dJ y.d.3 m.e).after m.k m.b m.p m.s).nk (dJ y.d.3 m.e)=true;·rw[if_pos c3];exact⟨_,_,rfl,.refl y,λ_ _=>rfl,.inr ⟨by unfold vt;omega,(rI c3).symm,rfl⟩⟩
  ·rw[if_neg c3,if_pos rfl];have hs:(y.save m true).d={y.d with kv:=f8 y.d.3 m.e ((dJ y.d.3 m.e).after m.k m.b m.p m.s)}:=by rcases g with g|g<;>simp[Nd.save,Du.step,g]
   refine⟨_,_,rfl,?_,λe h=>?_,.inr ⟨by unfold vt;omega,?_,rfl⟩⟩;·unfold Vy;rw[hs];simp only[Nd.save]at hs⊢;rw[hs]
   ·unfold vt;rw[hs];dsimp only;rw[vmGet_put,if_neg h]
   ·unfold vt;rw[hs];dsimp only;rw[vmGet_put,if_pos rfl]
end AG
namespace AG
def oth(n i:Int):List Int:=((List.range n.toNat).map Int.ofNat).filter (λk=>k≠i)
def oth_mem{n i k:Int}:k∈oth n i↔(0<=k/\k<n)/\k≠i:=by
 unfold oth;simp only[List.mem_filter,List.mem_map,List.mem_range,ne_eq,decide_eq_true_eq];constructor;·rintro⟨⟨a,d,c⟩,b⟩;have c:(a:Int)=k:=c;exact⟨oG,b⟩
 ·rintro⟨d,b⟩;exact⟨⟨k.toNat,oG,by show((k.toNat:Nat):Int)=k;omega⟩,b⟩
def uG(n i:Int):(oth n i).Nodup:=by unfold oth;refine List.Pairwise.filter _ (List.pairwise_map.2 ((List.nodup_range (n:=n.toNat)).imp ?_));intro a b h c;have c:(a:Int)=b:=c;exact h oG
def m1(i E b:Int):Ms:={Ms.nil with k:=1,f:=i,e:=E,b:=b}
def m2(k E b:Int)(v:PV):Ms:={Ms.nil with k:=2,f:=k,e:=E,b:=b,wa:=v.ac,p:=v.pm,s:=v.st}
def m3(i E b p s:Int):Ms:={Ms.nil with k:=3,f:=i,e:=E,b:=b,p:=p,s:=s}
def m4(k E b:Int):Ms:={Ms.nil with k:=4,f:=k,e:=E,b:=b}
def m5(k E b w:Int):Ms:={Ms.nil with k:=5,f:=k,e:=E,b:=b,wa:=w}
def m6(i E p s:Int):Ms:={Ms.nil with k:=6,f:=i,e:=E,p:=p,s:=s}
def NA{l:List Int}{f:Int->List (Int×Ms)}{a:Int->Ms}{i:Int}(h:∀k∈l,f k=[(i,a k)]):l.flatMap f=l.map λk=>(i,a k):=by
 induction l with
 |nil=>rfl
 |cons k l ih=>rw[List.flatMap_cons,List.map_cons,h k List.mem_cons_self,ih (λj b=>h j (List.mem_cons_of_mem _ b))];rfl
def Qn.iy{n k i E:Int}{y:Nd}(h:Qn n k E y)(hi:0<=i/\i<n)(x:k≠i){m:Ms}(q:m.f=i)(l:m.e=E)(r:m.k=1∨m.k=3):∃c a,y.receive m true=(c,[(i,a)])/\Vy y c/\(∀e,e≠E->vt c e=vt y e)/\((m.b<(vt y E).pr/\c=y/\a=m5 k E m.b (vt y E).pr)∨((vt y E).pr<=m.b/\vt c E=(vt y E).after m.k m.b m.p m.s/\a=if m.k=3 then m4 k E m.b else m2 k E m.b (vt y E))):=by
 obtain⟨c,a,w,t,v,d⟩:=yX y r (l.trans h.ep.symm);have u:y.receive m true=y.ku m.f (c,a):=by unfold Nd.receive;rw[if_neg (by rw[h.up,h.id,h.no,q];simp;omega),if_pos r,w]
 have j:a.k≠0:=by
  rcases d with d|d;·rw[d.2.2];show(5:Int)≠0;decide
  ·rw[d.2.2];split<;>simp
 refine⟨c,{a with f:=k},?_,t,by rw[←l];exact v,?_⟩;·rw[u];unfold Nd.ku;rw[if_neg j,h.id,q]
 ·rw[←l];rcases d with⟨o,g,c3⟩|⟨o,g,c3⟩;·exact .inl ⟨o,g,by rw[c3];rfl⟩
  ·refine .inr ⟨o,g,?_⟩;rw[c3];split<;>rfl
section
variable {n i E:Int} {x:Int->Nd}
def B6(hi:0<=i/\i<n)(r:∀k∈oth n i,Qn n k E (x k)){m:Ms}(l:m.f=i)(t:m.e=E)(q:m.k=1∨m.k=3):∃(g:Int->Nd) (a:Int->Ms),passA x ((oth n i).map λk=>(k,m))=(g,(oth n i).map λk=>(i,a k))/\(∀k,k∉oth n i->g k=x k)/\∀k∈oth n i,Vy (x k) (g k)/\(∀e,e≠E->vt (g k) e=vt (x k) e)/\((m.b<(vt (x k) E).pr/\g k=x k/\a k=m5 k E m.b (vt (x k) E).pr)∨((vt (x k) E).pr<=m.b/\vt (g k) E=(vt (x k) E).after m.k m.b m.p m.s/\a k=if m.k=3 then m4 k E m.b else m2 k E m.b (vt (x k) E))):=by
 have h:∀k∈oth n i,∃a,((x k).receive m true).2=[(i,a)]/\Vy (x k) ((x k).receive m true).1/\(∀e,e≠E->vt ((x k).receive m true).1 e=vt (x k) e)/\((m.b<(vt (x k) E).pr/\((x k).receive m true).1=x k/\a=m5 k E m.b (vt (x k) E).pr)∨((vt (x k) E).pr<=m.b/\vt ((x k).receive m true).1 E=(vt (x k) E).after m.k m.b m.p m.s/\a=if m.k=3 then m4 k E m.b else m2 k E m.b (vt (x k) E))):=by intro k c;obtain⟨v,a,d,j⟩:=(r k c).iy hi (oth_mem.1 c).2 l t q;refine⟨a,by rw[d],by rw[d];exact j⟩
 refine⟨λk=>if k∈oth n i then((x k).receive m true).1 else x k,λk=>(((x k).receive m true).2.headD (0,.nil)).2,?_,λk c=>if_neg c,λk c=>?_⟩;·rw[xK (λ_=>m) _ _ (uG n i)];congr 1;refine NA λk c=>?_;obtain⟨a,d,_⟩:=h k c;rw[d];rfl
 ·obtain⟨a,d,j,o,u⟩:=h k c;dsimp only;rw[if_pos c,d];exact⟨j,o,u⟩
end
end AG
namespace AG
def Wy(y y':Nd):Prop:=y'={y with d:={y.d with kv:=y'.d.3},ph:=y'.ph,gP:=y'.gP,gS:=y'.gS,jo:=y'.jo,ba:=y'.ba,rf:=y'.rf,fo:=y'.fo,an:=y'.an}
def Wy.refl(y:Nd):Wy y y:=rfl
def Wy.trans{x y z:Nd}(h:Wy x y)(h':Wy y z):Wy x z:=by unfold Wy at*;rw[h',h]
def Wy.f{y a:Nd}(h:Wy y a):a.id=y.id/\a.2=y.2/\a.nb=y.nb/\a.5=y.5/\a.act=y.act/\a.on=y.on/\a.res=y.res/\a.ops=y.ops/\a.d.ep=y.d.ep/\a.d.recs=y.d.recs/\a.d.bk=y.d.bk/\a.d.seen=y.d.seen/\a.d.last=y.d.last/\a.d.id=y.d.id:=by rw[h];exact⟨rfl,rfl,rfl,rfl,rfl,rfl,rfl,rfl,rfl,rfl,rfl,rfl,rfl,rfl⟩
structure P2(n i E b:Int)(C:List Int)(y:Nd):Prop where
  id:y.id=i
  no:y.2=n
  up:y.5=false
  ph:y.ph=2
  ba:y.ba=b
  ep:y.d.ep=E
  pr:(vt y E).pr=b
  an:y.an=C.map (λk=>(2,E,b,k))
structure P3(n i E b:Int)(v:V)(C:List Int)(y:Nd):Prop where
  id:y.id=i
  no:y.2=n
  up:y.5=false
  ph:y.ph=3
  ba:y.ba=b
  ep:y.d.ep=E
  go:(y.gP,y.gS)=v
  vo:vt y E=⟨b,b,v.1,v.2⟩
  an:y.an=C.map (λk=>(4,E,b,k))
section
variable {n i E b:Int} {y:Nd} {C:List Int} {v:V}
def pv(y:Nd):V:=if 0<y.fo.wa then(y.fo.p,y.fo.s) else(y.gP,y.gS)
def P2.gy(h:P2 n i E b C y):∃g,y.gy true=(g,(oth n i).map λk=>(k,m3 i E b (pv y).1 (pv y).2))/\P3 n i E b (pv y) [i] g/\Wy y g/\(∀e,e≠E->vt g e=vt y e)/\g.rf=y.rf:=by
 obtain⟨z,B⟩:∃z:Nd,z=(if 0<y.fo.wa then{y with gP:=y.fo.p,gS:=y.fo.s} else y):=⟨_,rfl⟩;have j:z={y with gP:=(pv y).1,gS:=(pv y).2}:=by rw[B];unfold pv;split<;>rfl
 have v:z.d=y.d:=by rw[j]
 obtain⟨g,a,A,l,w,r⟩:=yX z (m:={Ms.nil with k:=3,e:=z.d.ep,b:=z.ba,p:=z.gP,s:=z.gS}) (.inr rfl) rfl;have u:z.d.ep=E:=by rw[v];exact h.ep
 have x:z.ba=b:=by rw[j];exact h.ba
 have t:z.gP=(pv y).1/\z.gS=(pv y).2:=by rw[j];exact⟨rfl,rfl⟩
 have D:vt z=vt y:=by funext e;unfold vt;rw[v]
 simp only[u,x,t,D]at A w r;have r:=r.resolve_left (λc=>by have:=c.1;rw[h.pr]at this;omega);have q:g.5=false:=by rw[l.f.2.2.2.1,j];exact h.up
 have o:z.id=i:=by rw[j];exact h.id
 refine⟨{g with ph:=3,an:=[(4,E,b,i)]},?_,?_,?_,?_,?_⟩;·unfold Nd.gy;rw[←B];dsimp only;rw[u,x,t.1,t.2,A];dsimp only;rw[if_neg (by rw[q];simp),r.2.2,if_pos (by rfl),o];refine Prod.ext rfl ?_;dsimp only;unfold Nd.tell Nd.others oth;rw[o,show z.2=n by rw[j];exact h.no];rfl
 ·refine⟨?_,?_,q,rfl,?_,?_,?_,?_,rfl⟩;·exact l.f.1.trans o
  ·rw[show({g with ph:=3,an:=[(4,E,b,i)]}:Nd).2=g.2 from rfl,l.f.2.1,j];exact h.no
  ·show g.ba=b;rw[l,j];exact h.ba
  ·show g.d.ep=E;rw[l.f.2.2.2.2.2.2.2.2.2.1];exact u
  ·show(g.gP,g.gS)=pv y;rw[l,j]
  ·show vt g E=_;rw[r.2.1];rfl
 ·show _=_;have:g={z with d:={z.d with kv:=g.d.3}}:=l;rw[this,j]
 ·exact λe F=>w e F
 ·show g.rf=y.rf;rw[l,j]
def P2.more(h:P2 n i E b C y)(hi:0<=i/\i<n)(g:0<b){k:Int}(l:(0<=k/\k<n)/\k≠i)(j:k∉C)(w:PV):∃a,Wy y a/\(∀e,vt a e=vt y e)/\P2 n i E b (C++[k]) a/\(a.fo=if y.fo.wa<w.ac then m2 k E b w else y.fo)/\a.gP=y.gP/\a.gS=y.gS/\a.rf=y.rf/\y.receive (m2 k E b w) true=if n<2*((C.length:Int)+1) then a.gy true else(a,[]):=by
 have c:(2,E,b,k)∉y.an:=by rw[h.an];simpa using j
 refine⟨{y with fo:=if y.fo.wa<w.ac then m2 k E b w else y.fo,an:=y.an++[(2,E,b,k)]},rfl,λ_=>rfl,⟨h.id,h.no,h.up,h.ph,h.ba,h.ep,h.pr,by show y.an++_=_;rw[h.an];simp⟩,rfl,rfl,rfl,rfl,?_⟩;unfold Nd.receive;rw[if_neg (by show¬(y.5=true∨k=y.id∨y.2<=k);rw[h.up,h.id,h.no];simp;omega),if_neg (by show¬((2:Int)=1∨(2:Int)=3);omega),if_pos (show(m2 k E b w).k=2 from rfl)];unfold Nd.promised;rw[if_pos ⟨h.ph,⟨h.ep.symm,h.ba.symm,g⟩,c⟩];dsimp only;have d:((y.an++[((2:Int),(m2 k E b w).e,(m2 k E b w).b,(m2 k E b w).f)]).length:Int)=(C.length:Int)+1:=by rw[h.an];simp
 rw[d,h.no];rfl
def yD{y:Nd}(c:y.5=false)(g:y.id=i)(a:y.2=n)(f:y.d.ep=E)(e:y.ba=b)(h:0<b){k:Int}(j:(0<=k/\k<n)/\k≠i)(w:Int):y.receive (m5 k E b w) true=({y with rf:=max y.rf w},[]):=by unfold Nd.receive;rw[if_neg (by show¬(y.5=true∨k=y.id∨y.2<=k);rw[c,g,a];simp;omega),if_neg (by show¬((5:Int)=1∨(5:Int)=3);omega),if_neg (by show¬((5:Int)=2);omega),if_neg (by show¬((5:Int)=4);omega),if_pos (show(m5 k E b w).k=5 from rfl)];unfold Nd.refused;rw[if_pos ⟨f.symm,e.symm,h⟩];rfl
def EI{y:Nd}(c:y.id=i)(d:y.2=n)(a:y.ph≠2){k:Int}(w:PV):y.receive (m2 k E b w) true=(y,[]):=by
 unfold Nd.receive;split;·rfl
 rw[if_neg (by show¬((2:Int)=1∨(2:Int)=3);omega),if_pos (show(m2 k E b w).k=2 from rfl)];unfold Nd.promised;rw[if_neg (λh=>a h.1)]
def mR(E b:Int)(w:Int->PV)(k:Int):Ms:=if(w k).pr<=b then m2 k E b (w k) else m5 k E b (w k).pr
def P3.rest(d:0<b)(w:Int->PV):∀(l:List Int) (y:Nd),P3 n i E b v C y->(∀k∈l,(0<=k/\k<n)/\k≠i)->∃c,jR y (l.map (mR E b w))=(c,[])/\P3 n i E b v C c/\Wy y c/\∀e,vt c e=vt y e
 | [],y,h,_=>⟨y,rfl,h,.refl y,λ_=>rfl⟩
 |k::l,y,h,hl=>by
  have step:∃a,y.receive (mR E b w k) true=(a,[])/\P3 n i E b v C a/\Wy y a/\∀e,vt a e=vt y e:=by
   unfold mR;split;·exact⟨y,EI h.id h.no (by rw[h.ph];omega) _,h,.refl y,λ_=>rfl⟩
   ·exact⟨_,yD h.up h.id h.no h.ep h.ba d (hl k List.mem_cons_self) _,⟨h.id,h.no,h.up,h.ph,h.ba,h.ep,h.go,h.vo,h.an⟩,rfl,λ_=>rfl⟩
  obtain⟨a,a1,r,s,f⟩:=step;obtain⟨t,g,o,p,m⟩:=P3.rest d w l a r (λj q=>hl j (List.mem_cons_of_mem _ q));refine⟨t,?_,o,s.trans p,λe=>(m e).trans (f e)⟩;rw[List.map_cons];simp only[jR,a1,g,List.append_nil]
def P2.pass(hi:0<=i/\i<n)(D:0<b)(w:Int->PV)(a:V->Prop)(R:Int):∀(l:List Int) (y:Nd) (C:List Int),P2 n i E b C y->y.rf<=R->(∀k∈l,(w k).pr<=R)->(∀k∈l,(0<=k/\k<n)/\k≠i)->l.Nodup->(∀k∈l,k∉C)->2*(C.length:Int)<=n->(∀k∈l,0<(w k).ac->a ((w k).pm,(w k).st))->(0<y.fo.wa->a (y.fo.p,y.fo.s))->a (y.gP,y.gS)->
    (∃d,jR y (l.map (mR E b w))=(d,[])/\P2 n i E b (C++l.filter (λk=>decide ((w k).pr<=b))) d/\Wy y d/\(∀e,vt d e=vt y e)/\2*((C.length:Int)+(l.filter (λk=>decide ((w k).pr<=b))).length)<=n/\(∀k∈l,b<(w k).pr->(w k).pr<=d.rf)/\y.rf<=d.rf/\(0<d.fo.wa->a (d.fo.p,d.fo.s))/\a (d.gP,d.gS)/\d.rf<=R)∨
    (∃d v,jR y (l.map (mR E b w))=(d,(oth n i).map λk=>(k,m3 i E b v.1 v.2))/\P3 n i E b v [i] d/\Wy y d/\(∀e,e≠E->vt d e=vt y e)/\n<2*((C.length:Int)+(l.filter (λk=>decide ((w k).pr<=b))).length)/\a v)
  | [],y,C,h,hR,_,_,_,_,hc,_,hf,hg=>.inl ⟨y,rfl,by simpa using h,.refl y,λ_=>rfl,by simpa using hc,sG,Int.le_refl _,hf,hg,hR⟩
  |k::l,y,C,h,hR,hRl,hl,hn,hd,hc,hw,hf,hg=>by
    have x:=List.nodup_cons.1 hn
    have r:=λj c=>hRl j (List.mem_cons_of_mem _ c)
    have a9:=hRl k List.mem_cons_self
    have hk:=hl k List.mem_cons_self
    have z:=λj c=>hl j (List.mem_cons_of_mem _ c)
    by_cases M:(w k).pr<=b
    · obtain⟨u,a1,X,a3,a4,a5,a6,a7,B⟩:=h.more hi D hk (hd k List.mem_cons_self) (w k)
      have W:mR E b w k=m2 k E b (w k):=if_pos M
      have N:(k::l).filter (λk=>decide ((w k).pr<=b))=k::l.filter (λk=>decide ((w k).pr<=b)):=List.filter_cons_of_pos (by simpa using M)
      have L:0<u.fo.wa->a (u.fo.p,u.fo.s):=by
        rw[a4];split
        · intro K;exact hw k List.mem_cons_self K
        · exact hf
      have F:a (u.gP,u.gS):=by rw[a5,a6];exact hg
      rw[List.map_cons,W,N]
      by_cases hm:n<2*((C.length:Int)+1)
      · right
        rw[if_pos hm]at B
        obtain⟨g,b1,b2,b3,b4,b5⟩:=a3.gy
        obtain⟨y3,m,q,c3,o⟩:=P3.rest D w l g b2 z
        refine⟨y3,pv u,?_,q,a1.trans (b3.trans c3),λe he=>(o e).trans ((b4 e he).trans (X e)),?_,?_⟩
        · simp only[jR,B,b1,m,List.append_nil]
        · simp only[List.length_cons];omega
        · unfold pv;split
          · next K=>exact L K
          · exact F
      · rw[if_neg hm]at B
        have S:∀j∈l,j∉C++[k]:=λj c K=>by
          rcases List.mem_append.1 K with U|U
          · exact hd j (List.mem_cons_of_mem _ c) U
          · have:j=k:=by simpa using U
            subst this;exact x.1 c
        have f:=P2.pass hi D w a R l u (C++[k]) a3 (by rw[a7];exact hR) r z x.2 S (by rw[List.length_append];simp;omega) (λj c=>hw j (List.mem_cons_of_mem _ c)) L F
        have el:((C++[k]).length:Int)=(C.length:Int)+1:=sG
        rw[el]at f
        rcases f with⟨g,m,q,c3,o,H,A,Q,O⟩|⟨g,v,m,q,c3,o,H,A⟩
        · refine .inl ⟨g,?_,by simpa using q,a1.trans c3,λe=>(o e).trans (X e),?_,λj c t=>?_,by rw[←a7];exact Q,O⟩
          · simp only[jR,B,m,List.append_nil]
          · simp only[List.length_cons];omega
          · rcases List.mem_cons.1 c with rfl|c
            · omega
            · exact A j c t
        · refine .inr ⟨g,v,?_,q,a1.trans c3,λe he=>(o e he).trans (X e),?_,A⟩
          · simp only[jR,B,m,List.nil_append]
          · simp only[List.length_cons];omega
    · have W:mR E b w k=m5 k E b (w k).pr:=if_neg M
      have N:(k::l).filter (λk=>decide ((w k).pr<=b))=l.filter (λk=>decide ((w k).pr<=b)):=List.filter_cons_of_neg (by simpa using M)
      have hr:=yD h.up h.id h.no h.ep h.ba D hk (w k).pr
      have h1:P2 n i E b C {y with rf:=max y.rf (w k).pr}:=⟨h.id,h.no,h.up,h.ph,h.ba,h.ep,h.pr,h.an⟩
      have f:=P2.pass hi D w a R l {y with rf:=max y.rf (w k).pr} C h1 (by show max y.rf (w k).pr<=R;omega) r z x.2 (λj c=>hd j (List.mem_cons_of_mem _ c)) hc (λj c=>hw j (List.mem_cons_of_mem _ c)) hf hg
      rw[List.map_cons,W,N]
      rcases f with⟨g,m,q,c3,o,H,A,Q,O⟩|⟨g,v,m,q,c3,o,H,A⟩
      · have a0:max y.rf (w k).pr<=g.rf:=Q
        refine .inl ⟨g,?_,q,Wy.trans (y:={y with rf:=max y.rf (w k).pr}) rfl c3,o,H,λj c t=>?_,oG,O⟩
        · simp only[jR,hr,m,List.append_nil]
        · rcases List.mem_cons.1 c with rfl|c
          · omega
          · exact A j c t
      · refine .inr ⟨g,v,?_,q,Wy.trans (y:={y with rf:=max y.rf (w k).pr}) rfl c3,o,H,A⟩
        simp only[jR,hr,m,List.nil_append]
end
end AG
namespace AG
def iG(y:Nd)(v:V):Nd:={(y.save (m6 0 y.d.ep v.1 v.2) true).stand with act:=y.d.takes (y.d.ep+1) v.1}
def rW(y:Nd)(v:V):(iG y v).d=y.d.learn (y.d.ep+1) v.1 v.2:=by simp[iG,Nd.save,Nd.stand,Du.step,m6]
def vG(y:Nd)(v:V):(iG y v).d.ep=y.d.ep+1:=by rw[rW];simp[Du.learn,Du.ep]
section
variable {n i E b:Int} {y:Nd} {C:List Int} {v:V}
def B7(y:Nd){m:Ms}(b:m.k=6)(a:m.e=y.d.ep)(c:folB (y.d.rc y.d.ep) (y.d.ep+1) m.p m.s=true):y.decided m true=(iG y (m.p,m.s),true):=by
 unfold Nd.decided;rw[a,if_pos c,if_pos rfl];have e:y.d.step m=y.d.step (m6 0 y.d.ep m.p m.s):=by simp[Du.step,b,m6,a]
 simp only[iG,Nd.save,e]
def P3.conclude(h:P3 n i E b v C y)(f:folB (y.d.rc E) (E+1) v.1 v.2=true):y.conclude true=(iG y v,(oth n i).map λk=>(k,m6 i E v.1 v.2)):=by
 have c:y.gP=v.1/\y.gS=v.2:=by rw[←h.go];exact⟨rfl,rfl⟩
 have a:=B7 ({y with ph:=0,gP:=0,gS:=0,jo:=0,ba:=0,rf:=0,fo:=.nil,an:=[]}:Nd) (m:={Ms.nil with k:=6,e:=y.d.ep,p:=y.gP,s:=y.gS}) rfl rfl (by dsimp only;rw[c.1,c.2,h.ep];exact f);dsimp only at a;unfold Nd.conclude;dsimp only;rw[a];refine Prod.ext ?_ ?_;·show iG _ (y.gP,y.gS)=iG y v;rw[h.go];rfl
 ·dsimp only;rw[if_pos rfl];unfold Nd.tell Nd.others oth;rw[h.id,h.no,c.1,c.2,h.ep];rfl
def P3.more(h:P3 n i E b v C y)(hi:0<=i/\i<n)(g:0<b){k:Int}(l:(0<=k/\k<n)/\k≠i)(j:k∉C):∃a,Wy y a/\(∀e,vt a e=vt y e)/\P3 n i E b v (C++[k]) a/\y.receive (m4 k E b) true=if n<2*((C.length:Int)+1) then a.conclude true else(a,[]):=by
 have c:(4,E,b,k)∉y.an:=by rw[h.an];simpa using j
 refine⟨{y with an:=y.an++[(4,E,b,k)]},rfl,λ_=>rfl,⟨h.id,h.no,h.up,h.ph,h.ba,h.ep,h.go,h.vo,by show y.an++_=_;rw[h.an];simp⟩,?_⟩;unfold Nd.receive;rw[if_neg (by show¬(y.5=true∨k=y.id∨y.2<=k);rw[h.up,h.id,h.no];simp;omega),if_neg (by show¬((4:Int)=1∨(4:Int)=3);omega),if_neg (by show¬((4:Int)=2);omega),if_pos (show(m4 k E b).k=4 from rfl)];unfold Nd.accepted;rw[if_pos ⟨h.ph,⟨h.ep.symm,h.ba.symm,g⟩,c⟩];dsimp only;have d:((y.an++[((4:Int),(m4 k E b).e,(m4 k E b).b,(m4 k E b).f)]).length:Int)=(C.length:Int)+1:=by rw[h.an];simp
 rw[d,h.no];rfl
def nY(E b:Int)(w:Int->Int)(k:Int):Ms:=if w k<=b then m4 k E b else m5 k E b (w k)
def F5(w:Int->Int):∀(l:List Int) (y:Nd),y.ph=0->y.d.ep=E+1->jR y (l.map (nY E b w))=(y,[])
 | [],_,_,_=>rfl
 |k::l,y,hp,he=>by
  have a:y.receive (nY E b w k) true=(y,[]):=by
   unfold Nd.receive;split;·rfl
   ·unfold nY;split;·rw[if_neg (by show¬((4:Int)=1∨(4:Int)=3);omega),if_neg (by show¬((4:Int)=2);omega),if_pos (show(m4 k E b).k=4 from rfl)];unfold Nd.accepted;rw[if_neg (λh=>by have:=h.1;omega)]
    ·rw[if_neg (by show¬((5:Int)=1∨(5:Int)=3);omega),if_neg (by show¬((5:Int)=2);omega),if_neg (by show¬((5:Int)=4);omega),if_pos (show(m5 k E b (w k)).k=5 from rfl)];unfold Nd.refused;rw[if_neg (λh=>by have:E=y.d.ep:=h.1;omega)]
  rw[List.map_cons];simp only[jR,a,F5 w l y hp he,List.append_nil]
def P3.pass(hi:0<=i/\i<n)(r:0<b)(w:Int->Int):∀(l:List Int) (y:Nd) (C:List Int),P3 n i E b v C y->folB (y.d.rc E) (E+1) v.1 v.2=true->(∀k∈l,(0<=k/\k<n)/\k≠i)->l.Nodup->(∀k∈l,k∉C)->2*(C.length:Int)<=n->n<2*((C.length:Int)+(l.filter (λk=>decide (w k<=b))).length)->
    ∃z,jR y (l.map (nY E b w))=(iG z v,(oth n i).map λk=>(k,m6 i E v.1 v.2))/\Wy y z/\(∀e,vt z e=vt y e)
  | [],y,C,h,hf,_,_,_,hc,hm=>by simp at hm;omega
  |k::l,y,C,h,hf,hl,hn,hd,hc,hm=>by
    have c:=List.nodup_cons.1 hn
    have H:=hl k List.mem_cons_self
    have m:=λj a=>hl j (List.mem_cons_of_mem _ a)
    by_cases q:w k<=b
    · obtain⟨s,a1,K,D,p⟩:=h.more hi r H (hd k List.mem_cons_self)
      have B:nY E b w k=m4 k E b:=if_pos q
      have u:(k::l).filter (λk=>decide (w k<=b))=k::l.filter (λk=>decide (w k<=b)):=List.filter_cons_of_pos (by simpa using q)
      have o:folB (s.d.rc E) (E+1) v.1 v.2=true:=by unfold Du.rc;rw[a1.f.2.2.2.2.2.2.2.2.2.1];exact hf
      rw[List.map_cons,B]
      rw[u,List.length_cons]at hm
      by_cases a:n<2*((C.length:Int)+1)
      · rw[if_pos a,D.conclude o]at p
        refine⟨s,?_,a1,K⟩
        have g:=F5 (E:=E) (b:=b) w l (iG s v) rfl (by rw[vG,D.ep])
        simp only[jR,p,g,List.append_nil]
      · rw[if_neg a]at p
        have t:∀j∈l,j∉C++[k]:=λj a M=>by
          rcases List.mem_append.1 M with A|A
          · exact hd j (List.mem_cons_of_mem _ a) A
          · have:j=k:=by simpa using A
            subst this;exact c.1 a
        obtain⟨z,F,x,c3⟩:=P3.pass hi r w l s (C++[k]) D o m c.2 t (by rw[List.length_append];simp;omega) (by rw[List.length_append];simp only[List.length_cons,List.length_nil];omega)
        refine⟨z,?_,a1.trans x,λe=>(c3 e).trans (K e)⟩
        simp only[jR,p,F,List.nil_append]
    · have B:nY E b w k=m5 k E b (w k):=if_neg q
      have u:(k::l).filter (λk=>decide (w k<=b))=l.filter (λk=>decide (w k<=b)):=List.filter_cons_of_neg (by simpa using q)
      have L:=yD h.up h.id h.no h.ep h.ba r H (w k)
      rw[u]at hm
      obtain⟨z,F,x,c3⟩:=P3.pass hi r w l {y with rf:=max y.rf (w k)} C ⟨h.id,h.no,h.up,h.ph,h.ba,h.ep,h.go,h.vo,h.an⟩ hf m c.2 (λj a=>hd j (List.mem_cons_of_mem _ a)) hc hm
      rw[List.map_cons,B]
      refine⟨z,?_,Wy.trans (y:={y with rf:=max y.rf (w k)}) rfl x,c3⟩
      simp only[jR,L,F,List.nil_append]
def Qn.decided{k:Int}(h:Qn n k E y)(hi:0<=i/\i<n)(b:k≠i)(a:folB (y.d.rc E) (E+1) v.1 v.2=true):y.receive (m6 i E v.1 v.2) true=(iG y v,[]):=by unfold Nd.receive;rw[if_neg (by show¬(y.5=true∨i=y.id∨y.2<=i);rw[h.up,h.id,h.no];simp;omega),if_neg (by show¬((6:Int)=1∨(6:Int)=3);omega),if_neg (by show¬((6:Int)=2);omega),if_neg (by show¬((6:Int)=4);omega),if_neg (by show¬((6:Int)=5);omega),if_pos (show(m6 i E v.1 v.2).k=6 from rfl)];rw[B7 y (m:=m6 i E v.1 v.2) rfl h.ep.symm (by rw[h.ep];exact a)];rfl
end
def RunA(n:Int):Nat->(Int->Nd)×List (Int×Ms)->(Int->Nd)×List (Int×Ms)->Prop
  |0,s,s'=>s=s'
  |m+1,s,s'=>s.2=[]/\s=s'∨s.2≠[]/\s.2.length<=1000/\(∀z∈s.2,0<=z.1/\z.1<n)/\RunA n m (passA s.1 s.2) s'
def RunA.nil(n:Int)(m:Nat)(x:Int->Nd):RunA n m (x,[]) (x,[]):=by
 cases m;·rfl
 ·exact .inl ⟨rfl,rfl⟩
def RunA.go{n:Int}{m:Nat}{x x':Int->Nd}{l a:List (Int×Ms)}{s:(Int->Nd)×List (Int×Ms)}(b:l≠[])(d:l.length<=1000)(c:∀z∈l,0<=z.1/\z.1<n)(h:passA x l=(x',a))(k:RunA n m (x',a) s):RunA n (m+1) (x,l) s:=.inr ⟨b,d,c,by rw[h];exact k⟩
end AG
namespace AG
def Vy.wy{y a:Nd}(h:Vy y a):Wy y a:=by obtain⟨V,b⟩:∃V,V=a.d.3:=⟨_,rfl⟩;unfold Vy at h;rw[←b]at h;subst h;rfl
def FB(i:Int)(l:List Int)(a:Int->Ms):(l.map λk=>(i,a k))=(l.map a).map λm=>(i,m):=by rw[List.map_map];rfl
def NC{l:List Int}{f:Int->List (Int×Ms)}(h:∀k∈l,f k=[]):l.flatMap f=[]:=by
 induction l with
 |nil=>rfl
 |cons k l ih=>rw[List.flatMap_cons,h k List.mem_cons_self,ih (λj a=>h j (List.mem_cons_of_mem _ a))];rfl
def rO{n i:Int}(b:2<=n)(hi:0<=i/\i<n){f:Int->Int×Ms}:(oth n i).map f≠[]:=by
 intro h;have a:oth n i=[]:=List.map_eq_nil_iff.1 h;have:(if i=0 then(1:Int) else 0)∈oth n i:=by rw[oth_mem];split<;>omega
 rw[a]at this;simp at this
section
variable {n i E b:Int} {x:Int->Nd}
def DC(m:Nat)(S:2<=n)(af:n<=5)(hi:0<=i/\i<n)(hb:0<b)(hq:∀k∈oth n i,Qn n k E (x k))(h2:P2 n i E b [i] (x i))(u:V->Prop){R:Int}(hR:(x i).rf<=R)(a5:∀k∈oth n i,(vt (x k) E).pr<=R)(a9:∀k∈oth n i,0<(vt (x k) E).ac->u ((vt (x k) E).pm,(vt (x k) E).st))(hf:0<(x i).fo.wa->u ((x i).fo.p,(x i).fo.s))(hg:u ((x i).gP,(x i).gS))(M:∀v,u v->∀k,0<=k->k<n->folB ((x k).d.rc E) (E+1) v.1 v.2=true):(∃o C,RunA n (m+5) (x,(oth n i).map λk=>(k,m1 i E b)) (o,[])/\P2 n i E b C (o i)/\Wy (x i) (o i)/\(∀e,vt (o i) e=vt (x i) e)/\(0<(o i).fo.wa->u ((o i).fo.p,(o i).fo.s))/\u ((o i).gP,(o i).gS)/\(o i).rf<=R/\(∃k∈oth n i,b<(vt (x k) E).pr)/\(∀k,k∉oth n i->k≠i->o k=x k)/\∀k∈oth n i,Vy (x k) (o k)/\(∀e,e≠E->vt (o k) e=vt (x k) e)/\((vt (o k) E).pr<=b∨(vt (o k) E).pr<=(o i).rf)/\(vt (o k) E).ac=(vt (x k) E).ac/\(vt (o k) E).pm=(vt (x k) E).pm/\(vt (o k) E).st=(vt (x k) E).st)∨ (∃x5 v,RunA n (m+5) (x,(oth n i).map λk=>(k,m1 i E b)) (x5,[])/\u v/\(∀k,k∉oth n i->k≠i->x5 k=x k)/\∀k,0<=k->k<n->∃z,x5 k=iG z v/\Wy (x k) z/\∀e,e≠E->vt z e=vt (x k) e):=by
 have Q:i∉oth n i:=λh=>(oth_mem.1 h).2 rfl;have U:(oth n i).length<=1000:=by unfold oth;refine Nat.le_trans (List.length_filter_le _ _) ?_;rw[List.length_map,List.length_range];omega
 have ol:∀f:Int->Int×Ms,((oth n i).map f).length<=1000:=λf=>by rw[List.length_map];exact U
 have N:∀f:Int->Ms,(((oth n i).map f).map λm=>(i,m)).length<=1000:=λf=>by rw[List.length_map,List.length_map];exact U
 have F:∀{f:Int->Ms},∀z∈(oth n i).map (λk=>(k,f k)),0<=z.1/\z.1<n:=λ{f} z hz=>by obtain⟨k,c,rfl⟩:=List.mem_map.1 hz;exact(oth_mem.1 c).1
 have O:∀{l:List Ms},∀z∈l.map (λm=>(i,m)),0<=z.1/\z.1<n:=λ{l} z hz=>by obtain⟨k,c,rfl⟩:=List.mem_map.1 hz;exact hi
 obtain⟨w,a,p1,o1,k1⟩:=B6 hi hq (m:=m1 i E b) rfl rfl (.inl rfl);have ha:∀k∈oth n i,a k=mR E b (λk=>vt (x k) E) k:=by
  intro k c;obtain⟨_,_,L⟩:=k1 k c;unfold mR;rcases L with⟨B,_,c3⟩|⟨B,_,c3⟩;·have B:b<(vt (x k) E).pr:=B;rw[if_neg (by dsimp only;omega),c3];rfl
  ·have B:(vt (x k) E).pr<=b:=B;rw[if_pos B,c3];rfl
 have a4:((oth n i).map λk=>(i,a k))=((oth n i).map (mR E b (λk=>vt (x k) E))).map λm=>(i,m):=by rw[FB,List.map_congr_left ha]
 rw[a4]at p1;have ab:w i=x i:=o1 i Q;have g:∀k∈oth n i,(0<=k/\k<n)/\k≠i:=λk c=>oth_mem.1 c;have p2:=yC i ((oth n i).map (mR E b (λk=>vt (x k) E))) w;rw[ab]at p2;have K:((oth n i).map (mR E b (λk=>vt (x k) E))).map (λm=>(i,m))≠[]:=by rw[List.map_map];exact rO S hi
 rcases P2.pass hi hb (λk=>vt (x k) E) u R (oth n i) (x i) [i] h2 hR a5 g (uG n i) (λk c=>by have:=(g k c).2;simpa using this) nG a9 hf hg with⟨y',B,c2,c3,c4,c5,c6,c7,c8,c9,c10⟩|⟨y',v,B,c2,c3,c4,c5,c6⟩
 ·left;rw[B]at p2;refine⟨upd w i y',_,?_,by rw[upd_self];exact c2,by rw[upd_self];exact c3,by rw[upd_self];exact c4,by rw[upd_self];exact c8,by rw[upd_self];exact c9,by rw[upd_self];exact c10,?_,λk c r=>by rw[upd_ne r];exact o1 k c,λk c=>?_⟩;·exact .go (rO S hi) (ol _) F p1 (.go K (N _) O p2 (.nil _ _ _))
  ·apply Classical.byContradiction;intro a7;have a2:(oth n i).filter (λk=>decide ((vt (x k) E).pr<=b))=oth n i:=List.filter_eq_self.2 (λk c=>by rw[decide_eq_true_eq];apply Classical.byContradiction;intro L;exact a7 ⟨k,c,oG⟩)
   rw[a2]at c5;have ae:((oth n i).length:Int)=n - 1:=by
    have X:∀(m:Nat) (j:Int),0<=j->j<m->((((List.range m).map Int.ofNat).filter (λk=>k≠j)).length:Int)=m - 1:=by
     intro m;induction m with
     |zero=>intro j h0 h1;omega
     |succ m ih=>
      intro j h0 h1;rw[List.range_succ,List.map_append,List.filter_append,List.length_append];by_cases hj:j=m
      ·subst hj;have h3:(((List.range m).map Int.ofNat).filter (λk=>k≠(m:Int)))=(List.range m).map Int.ofNat:=List.filter_eq_self.2 (λk c=>by obtain⟨q,q1,rfl⟩:=List.mem_map.1 c;have:=List.mem_range.1 q1;simp;omega)
       rw[h3];simp
      ·have:=ih j h0 oG;have h4:([m].map Int.ofNat).filter (λk=>k≠j)=[(m:Int)]:=by simp;omega
       rw[h4];simp only[List.length_cons,List.length_nil];omega
    have:=X n.toNat i hi.1 oG;unfold oth;omega
   simp only[List.length_cons,List.length_nil]at c5;omega
  ·have r:=(g k c).2;obtain⟨v1,v2,v3⟩:=k1 k c;rw[upd_ne r,upd_self];refine⟨v1,v2,?_⟩;rcases v3 with⟨t,D,_⟩|⟨t,D,_⟩;·have t:b<(vt (x k) E).pr:=t;rw[D];exact⟨.inr (c6 k c t),rfl,rfl,rfl⟩
   ·have e:vt (w k) E={vt (x k) E with pr:=b}:=by rw[D];rfl
    rw[e];exact⟨.inl (Int.le_refl _),rfl,rfl,rfl⟩
 ·right;rw[B]at p2;have H:∀k∈oth n i,upd w i y' k=w k:=λk c=>upd_ne (g k c).2;have q2:∀k∈oth n i,Qn n k E (upd w i y' k):=λk c=>by rw[H k c];exact(hq k c).vy (k1 k c).1
  obtain⟨A,a3,p3,o3,k3⟩:=B6 hi q2 (m:=m3 i E b v.1 v.2) rfl rfl (.inr rfl);have a8:∀k∈oth n i,a3 k=nY E b (λk=>(vt (w k) E).pr) k:=by
   intro k c;obtain⟨_,_,L⟩:=k3 k c;rw[H k c]at L;unfold nY;rcases L with⟨t,_,d3⟩|⟨t,_,d3⟩;·have t:b<(vt (w k) E).pr:=t;rw[if_neg (by dsimp only;omega),d3];rfl
   ·have t:(vt (w k) E).pr<=b:=t;rw[if_pos t,d3];rfl
  rw[FB,List.map_congr_left a8]at p3;have a6:A i=y':=by rw[o3 i Q,upd_self]
  have a1:(oth n i).filter (λk=>decide ((vt (w k) E).pr<=b))=(oth n i).filter (λk=>decide ((vt (x k) E).pr<=b)):=by
   refine List.filter_congr λk c=>?_;rcases(k1 k c).2.2 with⟨t,D,_⟩|⟨t,D,_⟩;·rw[D]
   ·have t:(vt (x k) E).pr<=b:=t;have e:vt (w k) E={vt (x k) E with pr:=b}:=by rw[D];rfl
    rw[e];simp[t]
  have W:∀{y z:Nd},Wy y z->z.d.rc E=y.d.rc E:=λh=>by unfold Du.rc;rw[h.f.2.2.2.2.2.2.2.2.2.1]
  have p4:=yC i ((oth n i).map (nY E b (λk=>(vt (w k) E).pr))) A;rw[a6]at p4;obtain⟨z,t,D,d3⟩:=P3.pass hi hb (λk=>(vt (w k) E).pr) (oth n i) y' [i] c2 (by rw[W c3];exact M v c6 i hi.1 hi.2) g (uG n i) (λk c=>by have:=(g k c).2;simpa using this) nG (by rw[a1];exact c5);rw[t]at p4;have a0:((oth n i).map (nY E b (λk=>(vt (w k) E).pr))).map (λm=>(i,m))≠[]:=by rw[List.map_map];exact rO S hi
  have w4:∀k∈oth n i,Vy (x k) (A k):=λk c=>by have:=(k3 k c).1;rw[H k c]at this;exact(k1 k c).1.trans this
  have ad:∀k∈oth n i,upd A i (iG z v) k=A k:=λk c=>upd_ne (g k c).2;have r5:∀k∈oth n i,(upd A i (iG z v) k).receive (m6 i E v.1 v.2) true=(iG (A k) v,[]):=λk c=>by rw[ad k c];exact((hq k c).vy (w4 k c)).decided hi (g k c).2 (by rw[W (w4 k c).wy];exact M v c6 k (g k c).1.1 (g k c).1.2)
  have p5:=xK (λ_=>m6 i E v.1 v.2) (oth n i) (upd A i (iG z v)) (uG n i);rw[NC (λk c=>by rw[r5 k c])]at p5;refine⟨λk=>if k∈oth n i then((upd A i (iG z v) k).receive (m6 i E v.1 v.2) true).1 else upd A i (iG z v) k,v,?_,c6,?_,?_⟩;·exact .go (rO S hi) (ol _) F p1 (.go K (N _) O p2 (.go (rO S hi) (ol _) F p3 (.go a0 (N _) O p4 (.go (rO S hi) (ol _) F p5 (.nil _ _ _)))))
  ·intro k c r;dsimp only;rw[if_neg c,upd_ne r,o3 k c,upd_ne r,o1 k c]
  ·intro k k0 aa;dsimp only;by_cases r:k=i;·subst r;rw[if_neg Q,upd_self];exact⟨z,rfl,c3.trans D,λe he=>(d3 e).trans (c4 e he)⟩
   ·have c:k∈oth n i:=oth_mem.2 ⟨⟨k0,aa⟩,r⟩;rw[if_pos c,r5 k c];refine⟨A k,rfl,(w4 k c).wy,λe he=>?_⟩;have L:=(k3 k c).2.1 e he;rw[H k c]at L;exact L.trans ((k1 k c).2.1 e he)
end
end AG
namespace AG
def xL(y:Nd){b d:Int}(c:0<=b)(a:b<y.nb):y.fq.zs.getD b.toNat d=y.d.bk b:=by simp only[Nd.fq];rw[List.getD_eq_getElem?_getD,List.getElem?_map,List.getElem?_range oG];simp only[Option.map_some,Option.getD_some];congr 1;omega
def xM{d:Du}{E p s:Int}(b:E=d.ep+1):((d.learn E p s).bk=d.bk/\(d.learn E p s).ep=E/\(d.learn E p s).rc E=⟨E,p,s⟩)/\(d.takes E p=true->(d.learn E p s).seen=E/\(d.learn E p s).last=0)/\(d.takes E p=false->(d.learn E p s).seen=d.seen/\(d.learn E p s).last=d.last):=by
 have c:(d.learn E p s).ep=E:=by simp[Du.learn,Du.ep]at b⊢;omega
 refine⟨⟨rfl,c,?_⟩,λa=>?_,λa=>?_⟩;·simp only[Du.learn,Du.rc,Du.ep]at b⊢;rw[List.getD_eq_getElem?_getD,show E.toNat=d.recs.length by omega,List.getElem?_append_right r_];simp
 ·simp[Du.learn,a]
 ·simp[Du.learn,a]
section
variable {n i E:Int} {y:Nd}
def yY(u:y.5=false)(l:y.id=i)(hi:0<=i/\i<5)(r:y.2=n)(j:y.d.ep=E)(z:0<=(vt y E).pr)(A:y.fe y.rf<=1000000000000):∃g b,y.fu true=(g,(oth n i).map λk=>(k,m1 i E b))/\P2 n i E b [i] g/\Wy y g/\(∀e,e≠E->vt g e=vt y e)/\(vt g E={vt y E with pr:=b})/\(g.fo.wa=(vt y E).ac/\g.fo.p=(vt y E).pm/\g.fo.s=(vt y E).st)/\g.gP=y.gP/\g.gS=y.gS/\g.rf=y.rf/\0<b/\(vt y E).pr<b/\y.rf<b/\b<=max (vt y E).pr (max y.rf 0)+10:=by
 obtain⟨b,t⟩:∃b,b=y.fe y.rf:=⟨_,rfl⟩;have v:0<b/\(vt y E).pr<b/\y.rf<b/\b<=max (vt y E).pr (max y.rf 0)+10:=by rw[t];unfold Nd.fe kF;unfold vt at*;rw[j,l];split<;>omega
 obtain⟨o,a,x,h,w,q⟩:=yX y (m:={Ms.nil with k:=1,e:=y.d.ep,b:=b}) (.inl rfl) rfl;simp only[j]at x w q;have q:=q.resolve_left (λc=>by have:=c.1;omega);refine⟨{o with ph:=2,ba:=b,fo:={a with f:=i},an:=[(2,E,b,i)]},b,?_,?_,?_,w,?_,?_,?_,?_,?_,v⟩;·unfold Nd.fu;dsimp only;rw[←t,if_neg oG,j,x];dsimp only;rw[if_neg (by rw[h.f.2.2.2.1,u];simp),l];refine Prod.ext rfl ?_;dsimp only;unfold Nd.tell Nd.others oth;rw[l,r];rfl
 ·refine⟨h.f.1.trans l,h.f.2.1.trans r,h.f.2.2.2.1.trans u,rfl,rfl,h.f.2.2.2.2.2.2.2.2.2.1.trans j,?_,rfl⟩;show(vt o E).pr=b;rw[q.2.1];rfl
 ·have:o={y with d:={y.d with kv:=o.d.3}}:=h;show _=_;rw[this]
 ·show vt o E=_;rw[q.2.1];rfl
 ·show a.wa=_/\a.p=_/\a.s=_;rw[q.2.2];exact⟨rfl,rfl,rfl⟩
 ·show o.gP=y.gP;rw[h]
 ·show o.gS=y.gS;rw[h]
 ·show o.rf=y.rf;rw[h]
def K5(h:Qn n i E y)(hi:0<=i/\i<5){set:Int}(j:0<=(vt y E).pr)(q:bits .andNot .i64 set (y.d.rc E).S=0)(o:folB (y.d.rc E) (E+1) (i+1) set=true)(w:y.fe 0<=1000000000000):∃a b,(y.eu set true).1=a/\(y.eu set true).2.1=((oth n i).map λk=>(k,m1 i E b))/\P2 n i E b [i] a/\Wy y a/\(∀e,e≠E->vt a e=vt y e)/\(vt a E={vt y E with pr:=b})/\(a.fo.wa=(vt y E).ac/\a.fo.p=(vt y E).pm/\a.fo.s=(vt y E).st)/\a.gP=i+1/\a.gS=set/\a.rf=0/\0<b/\(vt y E).pr<b/\b<=(vt y E).pr+10:=by
 obtain⟨a,b,c,p2,r,t,p5,v,x,A,z,f,l,u,g⟩:=yY (y:={y with ph:=2,gP:=i+1,gS:=set,jo:=0,ba:=0,rf:=0,fo:=.nil,an:=[]}) h.up h.id hi h.no h.ep j w;rw[h.id]at c;refine⟨a,b,?_,?_,p2,?_,t,p5,v,x,A,z,f,l,?_⟩;·unfold Nd.eu;rw[if_neg (by rw[h.up];simp),h.ep,h.id,if_neg (by rw[q,o];simp;omega),if_neg (by rw[h.ph];simp)];dsimp only;rw[c]
 ·unfold Nd.eu;rw[if_neg (by rw[h.up];simp),h.ep,h.id,if_neg (by rw[q,o];simp;omega),if_neg (by rw[h.ph];simp)];dsimp only;rw[c]
 ·exact Wy.trans (y:={y with ph:=2,gP:=i+1,gS:=set,jo:=0,ba:=0,rf:=0,fo:=.nil,an:=[]}) rfl r
 ·have m:b<=max (vt y E).pr (max 0 0)+10:=g;omega
def OU{b:Int}{C:List Int}(h:P2 n i E b C y)(hi:0<=i/\i<5)(o:y.on=0)(j:0<=b)(v:y.fe y.rf<=1000000000000):∃a c,y.gq true=(a,(oth n i).map λk=>(k,m1 i E c))/\P2 n i E c [i] a/\Wy y a/\(∀e,e≠E->vt a e=vt y e)/\(vt a E={vt y E with pr:=c})/\(a.fo.wa=(vt y E).ac/\a.fo.p=(vt y E).pm/\a.fo.s=(vt y E).st)/\a.gP=y.gP/\a.gS=y.gS/\0<c/\b<c/\y.rf<c/\c<=max b (max y.rf 0)+10:=by
 obtain⟨a,c,t,p2,q,r,p5,u,w,x,z,l,g,m,d⟩:=yY h.up h.id hi h.no h.ep (by rw[h.pr];exact j) v;rw[h.pr]at g d;refine⟨a,c,?_,p2,q,r,p5,u,w,x,l,g,m,d⟩;unfold Nd.gq;rw[if_neg (by rw[h.up];simp)];have e:y.ic true=y.fu true:=by unfold Nd.ic;rw[if_neg (by rw[h.ph];omega),if_neg (by rw[h.ph];omega)]
 rw[e,t];dsimp only;rw[if_neg (by rw[q.f.2.2.2.2.2.1,o];omega),List.append_nil]
end
end AG
namespace AG
structure Sy(n E:Int)(rE:Rc)(B:Int)(x:Int->Nd):Prop where
  q:∀k,0<=k->k<n->Qn n k E (x k)
  rc:∀k,0<=k->k<n->(x k).d.rc E=rE
  pr:∀k,0<=k->k<n->0<=(vt (x k) E).pr/\(vt (x k) E).pr<=B
  vk:∀k,0<=k->k<n->0<(vt (x k) E).ac->folB rE (E+1) (vt (x k) E).pm (vt (x k) E).st=true
  fr:∀k,0<=k->k<n->∀e,E<e->vt (x k) e=⟨0,0,0,0⟩
  se:∀k,0<=k->k<n->(x k).d.seen<=E
  l0:0<=E
structure Le(n k E:Int)(v:V)(y y':Nd):Prop where
  q:Qn n k (E+1) y'
  rc:y'.d.rc (E+1)=⟨E+1,v.1,v.2⟩
  bk:y'.d.bk=y.d.bk
  ac:y'.act=decide (v.1=k+1)
  se:y'.d.seen=if v.1=k+1 then E+1 else y.d.seen
  la:y'.d.last=if v.1=k+1 then 0 else y.d.last
  op:y'.ops=y.ops
  nb:y'.nb=y.nb
  vt:∀e,E<e->vt y' e=vt y e
section
variable {n i k E B:Int} {x x':Int->Nd} {rE:Rc} {v:V}
def vH{y z:Nd}(W:0<=E)(h:y.id=k/\y.d.id=k/\y.2=n/\y.5=false/\y.res=[]/\y.d.ep=E/\y.d.seen<=E)(H:Wy y z)(O:∀e,e≠E->vt z e=vt y e):Le n k E v y (iG z v):=by
 obtain⟨a1,Q,B,F,V,X,u,t,K,C,j,i,l,g⟩:=H.f;obtain⟨x,m,L,w,A,M,U⟩:=h;have o:z.d.ep=E:=K.trans M;obtain⟨⟨R,S,D⟩,r,q⟩:=xM (d:=z.d) (E:=E+1) (p:=v.1) (s:=v.2) oG;have b:(iG z v).d=z.d.learn (E+1) v.1 v.2:=by rw[rW,o]
 have c:z.d.takes (E+1) v.1=decide (v.1=k+1):=by unfold Du.takes;rw[g,m,i];have:decide (y.d.seen<E+1)=true:=decide_eq_true oG;rw[this,Bool.and_true];rfl
 refine⟨⟨?_,?_,?_,?_,rfl,rfl,?_,?_⟩,?_,?_,?_,?_,?_,?_,?_,λe he=>?_⟩;·show z.id=k;rw[a1];exact x
 ·rw[b];show z.d.id=k;rw[g];exact m
 ·show z.2=n;rw[Q];exact L
 ·show z.5=false;rw[F];exact w
 ·show z.res=[];rw[u];exact A
 ·rw[b];exact S
 ·rw[b];exact D
 ·rw[b,R];exact j
 ·show z.d.takes (z.d.ep+1) v.1=_;rw[o];exact c
 ·rw[b];by_cases a:v.1=k+1;·rw[if_pos a];exact(r (by rw[c];simpa using a)).1
  ·rw[if_neg a,(q (by rw[c];simpa using a)).1];exact i
 ·rw[b];by_cases a:v.1=k+1;·rw[if_pos a];exact(r (by rw[c];simpa using a)).2
  ·rw[if_neg a,(q (by rw[c];simpa using a)).2];exact l
 ·show z.ops=y.ops;exact t
 ·show z.nb=y.nb;exact B
 ·have N:AG.vt (iG z v) e=AG.vt z e:=by unfold AG.vt;rw[b];show dJ (fT z.d.3 (E+1 - 1)) e=_;rw[vmGet_del _ _ _ oG]
  rw[N];exact O e oG
def Sy.next(h:Sy n E rE B x)(b:∀k,0<=k->k<n->Le n k E v (x k) (x' k)):Sy n (E+1) ⟨E+1,v.1,v.2⟩ 0 x':=by
 have d:∀k,0<=k->k<n->vt (x' k) (E+1)=⟨0,0,0,0⟩:=λk a k1=>by rw[(b k a k1).vt _ oG];exact h.fr k a k1 _ oG
 refine⟨λk a k1=>(b k a k1).q,λk a k1=>(b k a k1).rc,λk a k1=>?_,λk a k1 c=>?_,λk a k1 e f=>?_,λk a k1=>?_,by have:=h.l0;omega⟩;·rw[d k a k1];exact⟨Int.le_refl _,Int.le_refl _⟩
 ·rw[d k a k1]at c;simp at c
 ·rw[(b k a k1).vt _ oG];exact h.fr k a k1 _ oG
 ·rw[(b k a k1).se];have:=h.se k a k1;split<;>omega
def Vg(n E:Int)(rE:Rc)(x:Int->Nd)(o:V)(v:V):Prop:=folB rE (E+1) v.1 v.2=true/\((∀k,0<=k->k<n->(vt (x k) E).ac<=0)->v=o)
structure GH(n i E b R:Int)(rE:Rc)(o:V)(x:Int->Nd)(y:Nd)(x2:Int->Nd):Prop where
  p2:∃C,P2 n i E b C (x2 i)
  wy:Wy y (x2 i)
  vi:∀e,vt (x2 i) e=vt y e
  fo:0<(x2 i).fo.wa->Vg n E rE x o ((x2 i).fo.p,(x2 i).fo.s)
  go:Vg n E rE x o ((x2 i).gP,(x2 i).gS)
  rf:(x2 i).rf<=R
  hi:∃k∈oth n i,b<(vt (x k) E).pr
  ou:∀k,k∉oth n i->k≠i->x2 k=x k
  ot:∀k∈oth n i,Vy (x k) (x2 k)/\(∀e,e≠E->vt (x2 k) e=vt (x k) e)/\((vt (x2 k) E).pr<=b∨(vt (x2 k) E).pr<=(x2 i).rf)/\(vt (x2 k) E).ac=(vt (x k) E).ac/\(vt (x2 k) E).pm=(vt (x k) E).pm/\(vt (x2 k) E).st=(vt (x k) E).st
def Sy.run(m:Nat)(h:Sy n E rE B x)(hn:2<=n)(K:n<=5)(hi:0<=i/\i<n){y:Nd}{b:Int}(hb:0<b)(h2:P2 n i E b [i] y)(W:Wy (x i) y)(hv:∀e,e≠E->vt y e=vt (x i) e)(l:y.fo.wa=(vt (x i) E).ac/\y.fo.p=(vt (x i) E).pm/\y.fo.s=(vt (x i) E).st)(hg:folB rE (E+1) y.gP y.gS=true)(L:y.rf<=B):(∃H,RunA n (m+5) (upd x i y,(oth n i).map λk=>(k,m1 i E b)) (H,[])/\GH n i E b B rE (y.gP,y.gS) x y H)∨ (∃u v,RunA n (m+5) (upd x i y,(oth n i).map λk=>(k,m1 i E b)) (u,[])/\Vg n E rE x (y.gP,y.gS) v/\(∀k,¬(0<=k/\k<n)->u k=x k)/\∀k,0<=k->k<n->Le n k E v (x k) (u k)):=by
 have c:∀k∈oth n i,(0<=k/\k<n)/\k≠i:=λk a=>oth_mem.1 a;have w:∀k∈oth n i,upd x i y k=x k:=λk a=>upd_ne (c k a).2;have S:∀{y z:Nd},Wy y z->z.d.rc E=y.d.rc E:=λh=>by unfold Du.rc;rw[h.f.2.2.2.2.2.2.2.2.2.1]
 have V:=DC m (x:=upd x i y) hn K hi hb (λk a=>by rw[w k a];exact h.q k (c k a).1.1 (c k a).1.2) (by rw[upd_self];exact h2) (Vg n E rE x (y.gP,y.gS)) (R:=B) (by rw[upd_self];exact L) (λk a=>by rw[w k a];exact(h.pr k (c k a).1.1 (c k a).1.2).2)
  (λk a j=>by rw[w k a]at j⊢;exact⟨h.vk k (c k a).1.1 (c k a).1.2 j,λO=>by have:=O k (c k a).1.1 (c k a).1.2;omega⟩)
  (λj=>by rw[upd_self]at j⊢;rw[l.1]at j;rw[l.2.1,l.2.2];exact⟨h.vk i hi.1 hi.2 j,λO=>by have:=O i hi.1 hi.2;omega⟩)
  (by rw[upd_self];exact⟨hg,λ_=>rfl⟩)
  (λv r k o k1=>by
    by_cases a:k=i
    · subst a;rw[upd_self,S W,h.rc k o k1];exact r.1
    · rw[upd_ne a,h.rc k o k1];exact r.1)
 rw[upd_self]at V;rcases V with⟨H,C,M,N,c3,U,c5,c6,c7,c8,c9,Q⟩|⟨u,v,M,N,c3,U⟩
 ·refine .inl ⟨H,M,⟨C,N⟩,c3,U,c5,c6,c7,?_,λk a g=>by rw[c9 k a g,upd_ne g],λk a=>?_⟩;·obtain⟨k,a,t⟩:=c8;rw[w k a]at t;exact⟨k,a,t⟩
  ·have:=Q k a;rw[w k a]at this;exact this
 ·refine .inr ⟨u,v,M,N,λk a=>?_,λk o k1=>?_⟩;·have g:k≠i:=λj=>a (j ▸ hi);rw[c3 k (λj=>a (c k j).1) g,upd_ne g]
  ·obtain⟨z,d1,D,F⟩:=U k o k1;have q:=h.q k o k1;rw[d1];have A:(x k).id=k/\(x k).d.id=k/\(x k).2=n/\(x k).5=false/\(x k).res=[]/\(x k).d.ep=E/\(x k).d.seen<=E:=⟨q.id,q.di,q.no,q.up,q.rs,q.ep,h.se k o k1⟩;by_cases a:k=i;·subst a;rw[upd_self]at D F;exact vH h.l0 A (W.trans D) (λe X=>(F e X).trans (hv e X))
   ·rw[upd_ne a]at D F;exact vH h.l0 A D F
def Sy.again(m:Nat)(h:Sy n E rE B x)(hn:2<=n)(U:n<=5)(hi:0<=i/\i<n){y j:Nd}{b D:Int}{o:V}{g:Int->Nd}(hw:Wy (x i) y)(hv:∀e,e≠E->vt y e=vt (x i) e)(u:(vt y E).ac=(vt (x i) E).ac/\(vt y E).pm=(vt (x i) E).pm/\(vt y E).st=(vt (x i) E).st)(hs:GH n i E b B rE o x y g)(hb:0<D)(a2:b<D)(a1:(g i).rf<D)(h2:P2 n i E D [i] j)(K:Wy (g i) j)(W:∀e,e≠E->vt j e=vt (g i) e)(A:j.fo.wa=(vt (g i) E).ac/\j.fo.p=(vt (g i) E).pm/\j.fo.s=(vt (g i) E).st)(hg:j.gP=(g i).gP/\j.gS=(g i).gS):∃M v,RunA n (m+5) (upd g i j,(oth n i).map λk=>(k,m1 i E D)) (M,[])/\Vg n E rE x o v/\(∀k,¬(0<=k/\k<n)->M k=x k)/\∀k,0<=k->k<n->Le n k E v (x k) (M k):=by
 have c:∀k∈oth n i,(0<=k/\k<n)/\k≠i:=λk a=>oth_mem.1 a;have S:∀k∈oth n i,upd g i j k=g k:=λk a=>upd_ne (c k a).2;have r:∀{y z:Nd},Wy y z->z.d.rc E=y.d.rc E:=λh=>by unfold Du.rc;rw[h.f.2.2.2.2.2.2.2.2.2.1]
 have el:=DC m (x:=upd g i j) hn U hi hb (λk a=>by rw[S k a];exact(h.q k (c k a).1.1 (c k a).1.2).vy (hs.ot k a).1) (by rw[upd_self];exact h2) (Vg n E rE x o) (R:=max j.rf D) (by rw[upd_self];omega) (λk a=>by rw[S k a];have:=(hs.ot k a).2.2.1;omega)
  (λk a l=>by
    rw[S k a]at l⊢
    obtain⟨_,_,_,e1,e2,e3⟩:=hs.ot k a
    rw[e1]at l;rw[e2,e3]
    exact⟨h.vk k (c k a).1.1 (c k a).1.2 l,λX=>by have:=X k (c k a).1.1 (c k a).1.2;omega⟩)
  (λl=>by
    rw[upd_self]at l⊢
    rw[A.1,hs.vi,u.1]at l
    rw[A.2.1,A.2.2,hs.vi,u.2.1,u.2.2]
    exact⟨h.vk i hi.1 hi.2 l,λX=>by have:=X i hi.1 hi.2;omega⟩)
  (by rw[upd_self,hg.1,hg.2];exact hs.go)
  (λv L k t k1=>by
    by_cases a:k=i
    · subst a;rw[upd_self,r K,r hs.wy,r hw,h.rc k t k1];exact L.1
    · rw[upd_ne a,r (hs.ot k (oth_mem.2 ⟨⟨t,k1⟩,a⟩)).1.wy,h.rc k t k1];exact L.1)
 rw[upd_self]at el;rcases el with⟨x3,C,_,_,_,_,_,_,_,⟨k,a,a0⟩,_⟩|⟨M,v,c1,c2,c3,c4⟩;·exfalso;rw[S k a]at a0;have:=(hs.ot k a).2.2.1;omega
 ·refine⟨M,v,c1,c2,λk a=>?_,λk t k1=>?_⟩;·have w:k≠i:=λl=>a (l ▸ hi);have H:k∉oth n i:=λl=>a (c k l).1;rw[c3 k H w,upd_ne w,hs.ou k H w]
  ·obtain⟨z,d1,O,Q⟩:=c4 k t k1;have q:=h.q k t k1;rw[d1];have N:(x k).id=k/\(x k).d.id=k/\(x k).2=n/\(x k).5=false/\(x k).res=[]/\(x k).d.ep=E/\(x k).d.seen<=E:=⟨q.id,q.di,q.no,q.up,q.rs,q.ep,h.se k t k1⟩;by_cases a:k=i;·subst a;rw[upd_self]at O Q;exact vH h.l0 N (hw.trans (hs.wy.trans (K.trans O))) (λe F=>(Q e F).trans ((W e F).trans ((hs.vi e).trans (hv e F))))
   ·rw[upd_ne a]at O Q;have o:=hs.ot k (oth_mem.2 ⟨⟨t,k1⟩,a⟩);exact vH h.l0 N (o.1.wy.trans O) (λe F=>(Q e F).trans (o.2.1 e F))
end
end AG
end Go.Proofs.YtdcainmlcpafbaaGreatDoor
