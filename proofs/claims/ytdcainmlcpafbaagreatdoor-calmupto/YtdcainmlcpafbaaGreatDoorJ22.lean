import Derived.Test.YtdcainmlcpafbaaGreatDoorJ21
set_option linter.all false
set_option maxRecDepth 20000
namespace Go.Proofs.YtdcainmlcpafbaaGreatDoor
namespace AG
abbrev Nd.qc (n:Nd) (m:Ms):Prop:=m.e=n.d.ep/\m.b=n.ba/\0<m.b
def Nd.promised(n:Nd)(m:Ms)(ok:Bool):Nd×List (Int×Ms):=
  if n.ph=2/\n.qc m/\(2,m.e,m.b,m.f)∉n.an then
    let n1:Nd:={n with fo:=if n.fo.wa<m.wa then m else n.fo,an:=n.an++[(2,m.e,m.b,m.f)]}
    if n.2<2*(n1.an.length:Int) then n1.gy ok else(n1,[])
  else(n,[])
def Nd.accepted(n:Nd)(m:Ms)(ok:Bool):Nd×List (Int×Ms):=
  if n.ph=3/\n.qc m/\(4,m.e,m.b,m.f)∉n.an then
    let n1:Nd:={n with an:=n.an++[(4,m.e,m.b,m.f)]}
    if n.2<2*(n1.an.length:Int) then n1.conclude ok else(n1,[])
  else(n,[])
def Nd.refused(n:Nd)(m:Ms):Nd:=
  if n.qc m then{n with rf:=max n.rf m.wa} else n
def Nd.all(n:Nd):Prop:=∀i,0<=i->i<5->bit (n.d.rc n.d.ep).S i->i≠n.id->i<n.2/\(8,n.ow.e,max 0 n.ow.q,i)∈n.oa
def TE:∀s:Fin 32,∀t:Fin 5,0<=bits BinOp.andNot IntKind.i64 (s.val:Int) (2 ^ t.val)/\bits BinOp.andNot IntKind.i64 (s.val:Int) (2 ^ t.val)<=31/\∀i:Fin 5,(bits BinOp.andNot IntKind.i64 (s.val:Int) (2 ^ t.val) / 2 ^ i.val%2=1↔(s.val:Int) / 2 ^ i.val%2=1/\i≠t):=by decide +kernel
def GE{s:Int}{t:Nat}(hs:0<=s/\s<=31)(e:t<5):(0<=bits BinOp.andNot IntKind.i64 s (2 ^ t)/\bits BinOp.andNot IntKind.i64 s (2 ^ t)<=31)/\∀i,0<=i->i<5->(bit (bits BinOp.andNot IntKind.i64 s (2 ^ t)) i↔bit s i/\i≠(t:Int)):=by
 have h:=TE ⟨s.toNat,oG⟩ ⟨t,e⟩;simp only[show((s.toNat:Nat):Int)=s by omega]at h;refine⟨⟨h.1,h.2.1⟩,λi f g=>?_⟩;have d:=h.2.2 ⟨i.toNat,oG⟩;unfold bit;rw[d];constructor;·rintro⟨a,b⟩;exact⟨a,λc=>b (Fin.ext (by simp only;omega))⟩
 ·rintro⟨a,b⟩;exact⟨a,λc=>b (by have:=congrArg Fin.val c;simp only at this;omega)⟩
def C3{S id e q:Int}{lo:List Ky}(hS:0<=S/\S<=31)(l:0<=id/\id<5):∀t:Nat,t<=5->(0<=gW S id e q lo t/\gW S id e q lo t<=31)/\∀i,0<=i->i<5->(bit (gW S id e q lo t) i↔bit S i/\i≠id/\¬(i<t/\((8:Int),e,max 0 q,i)∈lo))
 |0,_=>by
  have h:=GE hS (t:=id.toNat) oG;refine⟨h.1,λi g j=>?_⟩;have m:=h.2 i g j;show bit (bits BinOp.andNot IntKind.i64 S (2 ^ id.toNat)) i↔_;rw[m];constructor;·rintro⟨a,b⟩;exact⟨a,oG,λf=>oG⟩
  ·rintro⟨a,b,_⟩;exact⟨a,oG⟩
 |t+1,ht=>by
  have ih:=C3 hS l (e:=e) (q:=q) (lo:=lo) t oG;unfold gW;by_cases k:((8:Int),e,max 0 q,(t:Int))∈lo
  ·simp only[k,decide_true,cond_true];have h:=GE ih.1 (t:=t) oG;refine⟨h.1,λi g j=>?_⟩;rw[h.2 i g j,ih.2 i g j];constructor;·rintro⟨⟨a,b,c⟩,d⟩;exact⟨a,b,λf=>c ⟨oG,f.2⟩⟩
   ·rintro⟨a,b,c⟩;exact⟨⟨a,b,λf=>c ⟨oG,f.2⟩⟩,λf=>c ⟨oG,by rw[f];exact k⟩⟩
  ·simp only[k,decide_false,cond_false];refine⟨ih.1,λi g j=>?_⟩;rw[ih.2 i g j];constructor
   ·rintro⟨a,b,c⟩;refine⟨a,b,λf=>?_⟩;by_cases hi:i=t;·rw[hi]at f;exact k f.2
    ·exact c ⟨oG,f.2⟩
   ·rintro⟨a,b,c⟩;exact⟨a,b,λf=>c ⟨oG,f.2⟩⟩
def C4{n:Nd}(hS:0<=(n.d.rc n.d.ep).S/\(n.d.rc n.d.ep).S<=31)(a:0<=n.id/\n.id<5)(o:0<=n.2/\n.2<=5)(h:gW (n.d.rc n.d.ep).S n.id n.ow.e n.ow.q n.oa n.2.toNat=0):n.all:=by
 intro i c f m k;have b:=((C3 hS a (e:=n.ow.e) (q:=n.ow.q) (lo:=n.oa) n.2.toNat oG).2 i c f).2;rw[h]at b;have j:¬bit 0 i:=by unfold bit;simp
 apply Classical.byContradiction;intro l;exact j (b ⟨m,k,λg=>l ⟨oG,g.2⟩⟩)
def Nd.finish(n:Nd):Nd:=
  if gW (n.d.rc n.d.ep).S n.id n.ow.e n.ow.q n.oa n.2.toNat=0 then{n with res:=n.res++[⟨n.on,n.ow.bl,n.ow.v,n.ow.e,n.ow.q⟩],on:=0,ow:=.nil,oa:=[]} else n
def Nd.wrote(n:Nd)(m:Ms):Nd:=
  if 0<n.on/\m.e=n.ow.e/\m.q=n.ow.q then({n with oa:=if(8,m.e,max 0 m.q,m.f)∈n.oa then n.oa else n.oa++[(8,m.e,max 0 m.q,m.f)]}:Nd).finish else n
def Nd.copied(n:Nd)(m:Ms)(ok:Bool):Nd×List (Int×Ms):=
  if n.ph=1/\m.f=n.jo/\m.e=n.d.ep/\m.q=n.d.last then({n with ph:=2}:Nd).fu ok else(n,[])
section
variable {n nb:Int} {x:Int->Nd} {sn:Ms->Prop} {g:Gh} {u:Gv} {j:Int}
def Inv.promised(h:Inv n nb x sn g u)(d:0<=j)(a:j<n){m:Ms}(r:m.k=2)(s:sn m)(ok:Bool):Call n nb x sn u j ((x j).promised m ok).1 ((x j).promised m ok).2 u.wr:=by
 have q:=h.own d a;unfold Nd.promised;split
 ·next c=>
  obtain⟨o,⟨p,c3,v⟩,t⟩:=c;have i:=h.count d a ((h.ms s).s2 r) p c3 v o t rfl;dsimp only;split
  ·next hq=>
   refine Call.trans (a1:={x j with fo:=if(x j).fo.wa<m.wa then m else(x j).fo,an:=(x j).an++[(2,m.e,m.b,m.f)]}) (Int.le_refl _) ?_;have l:=i.qg d a (by rw[upd_self];exact o) (by rw[upd_self];show 0<(x j).ba;omega) (by rw[upd_self];rw[q.i0.2.2.1]at hq;exact hq) ok;rw[upd_self]at l;exact l
  ·exact h.iw i sG sG
 ·exact Call.none h
def Inv.accepted(h:Inv n nb x sn g u)(d:0<=j)(a:j<n){m:Ms}(r:m.k=4)(s:sn m)(ok:Bool):Call n nb x sn u j ((x j).accepted m ok).1 ((x j).accepted m ok).2 u.wr:=by
 have q:=h.own d a;unfold Nd.accepted;split
 ·next c=>
  obtain⟨o,⟨p,c3,y⟩,w⟩:=c;obtain⟨v,t⟩:=(h.ms s).s4 r;have i:=h.tally d a t p c3 y o w rfl;dsimp only;split
  ·next hq=>
   refine Call.trans (a1:={x j with an:=(x j).an++[(4,m.e,m.b,m.f)]}) (Int.le_refl _) ?_;have l:=i.conclude d a (by rw[upd_self];exact o) (by rw[upd_self];show 0<(x j).ba;omega) (by rw[upd_self];rw[q.i0.2.2.1]at hq;exact hq) ok;rw[upd_self]at l;exact l
  ·exact h.iw i sG sG
 ·exact Call.none h
def Inv.note(h:Inv n nb x sn g u)(r:Int):Inv n nb (upd x j {x j with rf:=r}) sn g u:=by refine h.vol rfl (by rw[show({x j with rf:=r}:Nd).vo=(x j).vo from rfl,lK (λi=>(x i).vo) j];exact h.vx) (λb a=>?_);have q:=h.own b a;exact⟨q.i0,q.k2,q.k3,q.rr,q.rf,q.gc,q.ap,q.t1,q.t3,q.bv,q.dn,q.o1,q.pd,q.p1,q.o2⟩
def Inv.refused(h:Inv n nb x sn g u){m:Ms}:Call n nb x sn u j ((x j).refused m) [] u.wr:=by
 unfold Nd.refused;split;·exact h.iw (h.note _) sG sG
 ·exact Call.none h
def Inv.finish(h:Inv n nb x sn g u):Inv n nb (upd x j (x j).finish) sn g u:=by
 unfold Nd.finish;split;·exact h.oper rfl (λa=>by simp at a) (λ_=>rfl)
 ·exact h.same
def Inv.wrote(h:Inv n nb x sn g u)(r:0<=j)(p:j<n){m:Ms}(i:m.k=8)(d:sn m):Call n nb x sn u j ((x j).wrote m) [] u.wr:=by
 unfold Nd.wrote;split
 ·next c=>
  have o:=h.oper (j:=j) (a:={x j with oa:=if(8,m.e,max 0 m.q,m.f)∈(x j).oa then(x j).oa else(x j).oa++[(8,m.e,max 0 m.q,m.f)]}) rfl (λ_=>⟨c.1,rfl,λy hy=>?_⟩) (λl=>by have:=((h.own r p).dn l).2.2;omega);·have b:=o.finish (j:=j);rw[upd_self,qG]at b;exact h.iw b sG sG
  ·dsimp only at hy;split at hy;·exact .inl hy
   ·rcases List.mem_append.1 hy with hy|hy;·exact .inl hy
    ·simp at hy;subst hy;exact .inr ⟨rfl,c.2.1,congrArg (max 0) c.2.2,m,d,i,rfl,c.2.1,c.2.2⟩
 ·exact Call.none h
def Inv.copied(h:Inv n nb x sn g u)(f:0<=j)(o:j<n){m:Ms}(v:m.k=10)(w:sn m)(ok:Bool):Call n nb x sn u j ((x j).copied m ok).1 ((x j).copied m ok).2 u.wr:=by
 have q:=h.own f o;unfold Nd.copied;split
 ·next c=>
  have a:=rK q c.1;have l:=q.p1 c.1;have e:Fol (u.R (x j).d.ep) ((x j).d.ep+1) (x j).gP (x j).gS/\(sub (x j).gS (u.R (x j).d.ep).S∨u.ad (x j).d.ep/\Cp sn (u.R (x j).d.ep).S (x j).gS (x j).d.ep):=⟨(q.gc oG).1,(q.gc oG).2.imp id (λr=>⟨r.1,λi p t s=>(l.2.2 i p t s).imp id (λb=>⟨m,w,v,c.2.1.trans b.symm,c.2.2.1⟩)⟩)⟩;refine h.fu f o a (y:={x j with ph:=2}) ⟨rfl,rfl,rfl,rfl,rfl,rfl,rfl,rfl,rfl⟩ e ok (λ_=>?_);refine h.vol rfl (h.vx.idle rfl rfl rfl rfl l.1) (λ_ _=>?_);exact q.ko rfl ⟨rfl,rfl,rfl,rfl⟩ ⟨rfl,rfl,rfl⟩ rfl ⟨rfl,rfl,rfl⟩ a (λ_ b=>by dsimp only at b;omega) (λb=>by simp at b) (λ_=>e) (λ_ _=>sG) sG
 ·exact Call.none h
end
def Nd.receive(n:Nd)(m:Ms)(ok:Bool):Nd×List (Int×Ms):=
  if n.5=true∨m.f=n.id∨n.2<=m.f then(n,[])
  else if m.k=1∨m.k=3 then n.ku m.f (n.iy m ok)
  else if m.k=2 then n.promised m ok
  else if m.k=4 then n.accepted m ok
  else if m.k=5 then(n.refused m,[])
  else if m.k=6 then((n.decided m ok).1,[])
  else if m.k=7∨m.k=9 then n.ku m.f (n.update m ok)
  else if m.k=8 then(n.wrote m,[])
  else if m.k=10 then n.copied m ok
  else(n,[])
section
variable {n nb:Int} {x:Int->Nd} {sn:Ms->Prop} {g:Gh} {u:Gv} {j:Int}
def Inv.receive(h:Inv n nb x sn g u)(d:0<=j)(a:j<n){m:Ms}(b:sn m)(f:0<=m.e)(ok:Bool):Call n nb x sn u j ((x j).receive m ok).1 ((x j).receive m ok).2 u.wr:=by
 unfold Nd.receive;split;·exact Call.none h
 next c0=>
 have c:(x j).5=false:=by
  cases hd:(x j).5;·rfl
  ·exact absurd (.inl hd) c0
 split;·next hk=>exact h.iy d a c hk b f ok
 split;·next hk=>exact h.promised d a hk b ok
 split;·next hk=>exact h.accepted d a hk b ok
 split;·exact h.refused
 split;·next hk=>exact h.decided d a c hk b ok
 split;·next hk=>exact h.update d a c hk b f ok
 split;·next hk=>exact h.wrote d a hk b
 split;·next hk=>exact h.copied d a hk b ok
 ·exact Call.none h
end
end AG
namespace AG
def Nd.eu(n:Nd)(set:Int)(ok:Bool):Nd×List (Int×Ms)×Int:=
  if n.5=true then(n,[],3)
  else if bits .andNot .i64 set (n.d.rc n.d.ep).S≠0∨folB (n.d.rc n.d.ep) (n.d.ep+1) (n.id+1) set=false∨1000000000000<n.fe 0 then(n,[],1)
  else if n.ph≠0 then(n,[],4)
  else
    let r:=({n with ph:=2,gP:=n.id+1,gS:=set,jo:=0,ba:=0,rf:=0,fo:=.nil,an:=[]}:Nd).fu ok
    (r.1,r.2,if r.1.5=true then 3 else 0)
def MV:∀s:Fin 32,∀o:Fin 32,bits BinOp.andNot IntKind.i64 (s.val:Int) (o.val:Int)=0->∀i:Fin 5,(s.val:Int) / 2 ^ i.val%2=1->(o.val:Int) / 2 ^ i.val%2=1:=by decide +kernel
def BD{s o:Int}(hs:0<=s/\s<=31)(d:0<=o/\o<=31)(h:bits BinOp.andNot IntKind.i64 s o=0):sub s o:=by have a:=MV ⟨s.toNat,oG⟩ ⟨o.toNat,oG⟩;simp only[show((s.toNat:Nat):Int)=s by omega,show((o.toNat:Nat):Int)=o by omega]at a;exact λi b c hi=>a h ⟨i.toNat,oG⟩ hi
def Nd.missing(n:Nd):List Int:=
  ((List.range n.2.toNat).map Int.ofNat).filter (λi=>eU (gW (n.d.rc n.d.ep).S n.id n.ow.e n.ow.q n.oa n.2.toNat) i.toNat)
def Nd.fq(n:Nd):Ms:={Ms.nil with k:=9,e:=n.d.ep,q:=n.d.last,zs:=(List.range n.nb.toNat).map (λi:Nat=>n.d.bk i)}
def Nd.ic(n:Nd)(ok:Bool):Nd×List (Int×Ms):=
  if n.ph=0 then(n,n.tell {Ms.nil with k:=1,e:=n.d.ep} n.others)
  else if n.ph=1 then(n,n.tell n.fq [n.jo])
  else n.fu ok
def Nd.gq(n:Nd)(ok:Bool):Nd×List (Int×Ms):=
  if n.5=true then(n,[])
  else((n.ic ok).1,(n.ic ok).2++if 0<(n.ic ok).1.on then(n.ic ok).1.tell (n.ic ok).1.ow (n.ic ok).1.missing else[])
def Nd.jl(n:Nd)(right:Bool):Int:=
  if n.5=true then 3 else if n.act=false then 5 else if right=false∨n.d.last=1000000000000 then 1 else if n.ph≠0∨0<n.on then 4 else 0
def Nd.adm(n:Nd)(node:Int):Bool:=decide (0<=node/\node<n.2)&&!eU (n.d.rc n.d.ep).S node.toNat
def Nd.admi(n:Nd)(node:Int)(ok:Bool):Nd×List (Int×Ms)×Int:=
  if n.jl (n.adm node)≠0 then(n,[],n.jl (n.adm node))
  else
    let m:Ms:={n.fq with q:=n.d.last+1}
    if ok=true then({n.save m true with ph:=1,jo:=node,gP:=(n.d.rc n.d.ep).P,gS:=(n.d.rc n.d.ep).S+2 ^ node.toNat,ba:=0,rf:=0,fo:=.nil,an:=[]},n.tell m [node],0)
    else(n.fall m,[],3)
def Nd.blk(n:Nd)(bl:Int):Bool:=decide (0<=bl)&&decide (bl<n.nb)
def Nd.operate(n:Nd)(bl v:Int)(ok:Bool):Nd×List (Int×Ms)×Int:=
  if n.jl (n.blk bl)≠0 then(n,[],n.jl (n.blk bl))
  else
    let m:Ms:={Ms.nil with k:=7,e:=n.d.ep,q:=n.d.last+1,bl:=bl,v:=v}
    if ok=true then
      let y:Nd:={n.save m true with ops:=n.ops+1,on:=n.ops+1,ow:=m,oa:=[]}
      (y.finish,y.tell m y.missing,0)
    else(n.fall m,[],3)
def Nd.fresh(n:Nd)(d:Du):Nd:={n.stand with d:=d,down:=false,ops:=0,res:=[],tr:=.nil}
section
variable {n nb:Int} {x:Int->Nd} {sn:Ms->Prop} {g:Gh} {u:Gv} {j:Int}
def Inv.eu(h:Inv n nb x sn g u)(e:0<=j)(c:j<n)(set:Int)(ok:Bool):Call n nb x sn u j ((x j).eu set ok).1 ((x j).eu set ok).2.1 u.wr:=by
 have q:=h.own e c;unfold Nd.eu;split;·exact Call.none h
 next c0=>
 split;·exact Call.none h
 next c1=>
 split;·exact Call.none h
 next c2=>
 have a:(x j).5=false:=by simpa using c0
 have i:=q.rr q.i0.2.2.2.2 (Int.le_refl _);have k:folB ((x j).d.rc (x j).d.ep) ((x j).d.ep+1) ((x j).id+1) set=true:=by
  cases hf:folB ((x j).d.rc (x j).d.ep) ((x j).d.ep+1) ((x j).id+1) set;·exact absurd (.inr (.inl hf)) c1
  ·rfl
 have f:Fol (u.R (x j).d.ep) ((x j).d.ep+1) ((x j).id+1) set:=by rw[←i];exact sW k
 have m:sub set (u.R (x j).d.ep).S:=by
  obtain⟨_,_,_,_,_,s0,s1,_⟩:=f;have b:bits .andNot .i64 set (u.R (x j).d.ep).S=0:=by rw[←i];exact Classical.byContradiction λl=>c1 (.inl l)
  exact BD ⟨oG,s1⟩ (h.mr e c q.i0.2.2.2.2 (Int.le_refl _)) b
 refine h.fu e c a (y:={x j with ph:=2,gP:=(x j).id+1,gS:=set,jo:=0,ba:=0,rf:=0,fo:=.nil,an:=[]}) ⟨rfl,rfl,rfl,rfl,rfl,rfl,rfl,rfl,rfl⟩ ⟨f,.inl m⟩ ok (λb=>?_);exact absurd (.inr (.inr b)) c1
def Call.more{a:Nd}{out c:List (Int×Ms)}{W:Int->Int->Prop}(t:Call n nb x sn u j a out W)(q:∀{sn' e u'},Inv n nb (upd x j a) sn' e u'->∀z∈c,lF n (upd x j a) e u' z.2)(l:∀z∈c,z.2.k≠8):Call n nb x sn u j a (out++c) W:=by
 obtain⟨e,u',K,s,o,m,r,h,f⟩:=t;refine⟨e,u',K,s,o,m,r,?_,λz b g=>(List.mem_append.1 b).elim (λb=>f z b g) (λb=>absurd g (l z b))⟩;have d:=h.says (q h);refine⟨d.nn,d.vx,λi p=>(d.own i p).kw (λhy=>?_) (.refl _) (.refl _ u') (Int.le_refl _) (λ_=>id) (λ_=>rfl),d.r0,λf=>d.gr_on (λhy=>?_) f,d.at_,d.t2,λhy=>d.ms ?_⟩;iterate 2
  rcases hy with(hy|⟨z,b,hy⟩)|⟨z,b,hy⟩
  · exact .inl hy
  · exact .inr ⟨z,List.mem_append.2 (.inl b),hy⟩
  · exact .inr ⟨z,List.mem_append.2 (.inr b),hy⟩
 ·rcases hy with hy|⟨z,b,hy⟩;·exact .inl (.inl hy)
  ·rcases List.mem_append.1 b with b|b;·exact .inl (.inr ⟨z,b,hy⟩)
   ·exact .inr ⟨z,b,hy⟩
def Inv.opmsg(h:Inv n nb x sn g u)(e:0<=j)(d:j<n)(b:0<(x j).on)(f:Int):lF n x g u {(x j).ow with f:=f}:=by
 have q:=h.own e d;obtain⟨i,m,c,l,_⟩:=q.o1 b;have t:=q.t1 i;have k:=q.o2 b;refine⟨λa=>?_,λa=>?_,λa=>?_,λa=>?_,λ_=>?_,λa=>?_⟩;·dsimp only at a;omega
 ·dsimp only at a;omega
 ·dsimp only at a;omega
 ·dsimp only at a;omega
 ·dsimp only;rw[c];exact⟨t.1,oG,λ_=>k,λa=>oG⟩
 ·dsimp only at a;omega
def Inv.pg(h:Inv n nb x sn g u)(k:0<=j)(e:j<n)(c:(x j).act=true)(f:Int):lF n x g u {(x j).fq with f:=f}:=by
 have q:=h.own k e;have t:=q.t1 c;refine⟨λa=>?_,λa=>?_,λa=>?_,λa=>?_,λ_=>⟨t.1,by show(x j).d.last<=u.4 (x j).d.ep;omega,λa=>?_,λ_ i hi=>?_⟩,λa=>?_⟩;·simp[Nd.fq]at a
 ·simp[Nd.fq]at a
 ·simp[Nd.fq]at a
 ·simp[Nd.fq]at a
 ·simp[Nd.fq]at a
 ·have b:i<(x j).nb.toNat:=by simpa[Nd.fq] using hi
  have l:({(x j).fq with f:=f}:Ms).zs.getD i 0=(x j).d.bk i:=by simp only[Nd.fq];rw[List.getD_eq_getElem?_getD,List.getElem?_map,List.getElem?_range b];rfl
  rw[l];exact q.bv oG (by have:=q.i0.2.2.2.1;omega)
 ·simp[Nd.fq]at a
def Inv.gq(h:Inv n nb x sn g u)(c:0<=j)(b:j<n)(ok:Bool):Call n nb x sn u j ((x j).gq ok).1 ((x j).gq ok).2 u.wr:=by
 have q:=h.own c b;unfold Nd.gq;split;·exact Call.none h
 next c0=>
 have d:(x j).5=false:=by simpa using c0
 have f:Call n nb x sn u j ((x j).ic ok).1 ((x j).ic ok).2 u.wr:=by
  unfold Nd.ic;split;·exact h.iw h.same (kJ λi=>wX (.inl rfl)) (kJ λi a=>by simp at a)
  next c1=>
  split
  ·next c2=>
   exact h.iw h.same (kJ λi=>by rw[lK];exact h.pg c b (q.p1 c2).2.1 _) (kJ λi a=>by simp[Nd.fq]at a)
  ·next c2=>exact h.fu c b d ⟨rfl,rfl,rfl,rfl,rfl,rfl,rfl,rfl,rfl⟩ (q.gc2 rfl ⟨c1,c2⟩) ok (λ_=>h.same)
 refine f.more (λ{sn' k u'} e=>?_) ?_
 ·split;·next ho=>exact kJ λi=>by have:=e.opmsg c b (by rw[upd_self];exact ho) ((x j).ic ok).1.id;rw[upd_self]at this;exact this
  ·simp
 ·split
  ·next ho=>
   refine kJ λi a=>?_;obtain⟨k,u',K,_,_,_,_,e,_⟩:=f;have:=((e.own c b).o1 (by rw[upd_self];exact ho)).2.1;rw[upd_self]at this;dsimp only at a;omega
  ·simp
def Inv.rise(h:Inv n nb x sn g u)(B:0<=j)(L:j<n){m:Ms}(D:m.k=7∨m.k=9)(H:(x j).act=true)(p:m.e=(x j).d.ep)(Q:m.q=(x j).d.last+1){W:Int->Int->Prop}(s:∀{i v},u.wr i v->W i v)(M:m.k=7->m.v=0∨W m.bl m.v)(E:m.k=9->∀i:Nat,i<m.zs.length->m.zs.getD i 0=0∨W i (m.zs.getD i 0)):∃K,Kn n x K/\0<=K/\Grv K u {u with mx:=eH u.4 m.e m.q,wr:=W}/\Inv n nb (upd x j ((x j).fall m)) sn g {u with mx:=eH u.4 m.e m.q,wr:=W}:=by
 obtain⟨K,b,w⟩:=h.kn;have q:=h.own B L;have t:=q.t1 H;have o:Grv K u {u with mx:=eH u.4 m.e m.q,wr:=W}:=by
  refine⟨λ_ _=>rfl,id,id,λ{e} _=>?_,s⟩;show u.4 e<=eH u.4 m.e m.q e;unfold eH;split;·next l=>subst l;rw[p];omega
  ·exact Int.le_refl _
 have O:eH u.4 m.e m.q m.e=m.q:=by simp[eH]
 refine⟨K,w,b,o,h.go (.refl g) o w (Int.le_refl _) (.inr ⟨rfl,Int.le_refl _⟩) (h.vx.idle rfl rfl rfl rfl (Int.le_refl _)) id .inl (λ_ _=>?_) .inl .inl h.at_ (λi y C N A=>⟨id,?_⟩) b⟩
 ·refine⟨q.i0,λa=>?_,λa=>?_,q.rr,q.rf,λa=>absurd rfl a,λa=>?_,λa=>?_,?_,λF z=>(q.bv F z).imp id s,λ_=>⟨rfl,rfl,rfl⟩,λa=>?_,λ_=>?_,λa=>?_,λa=>?_⟩;·simp[Nd.fall,Nd.stand]at a
  ·simp[Nd.fall,Nd.stand]at a
  ·simp[Nd.fall,Nd.stand]at a
  ·simp[Nd.fall,Nd.stand]at a
  ·rcases q.t3 with c|c;·exact .inl c
   ·exact .inr ⟨c.1,Int.le_trans c.2 (o.4 c.1)⟩
  ·simp[Nd.fall,Nd.stand]at a
  ·refine .inr (.inr (.inr ⟨D,by show u.tk m.e;rw[p];exact t.1,?_,M,E,.inr ⟨?_,?_⟩⟩));·show m.q<=eH u.4 m.e m.q m.e;omega
   ·show(x j).d.seen=m.e;omega
   ·show(x j).d.last<=m.q;omega
  ·simp[Nd.fall,Nd.stand]at a
  ·simp[Nd.fall,Nd.stand]at a
 ·have r:=(h.own y C).t1 A;have f:(x i).d.ep≠m.e:=by intro l;rw[l,p,t.2.1]at r;omega
  show eH _ _ _ _=_;simp[eH,f]
def Inv.ng(h:Inv n nb x sn g u):Inv n nb (upd x j ((x j).fresh (x j).d)) sn g u:=h.idle rfl ⟨rfl,rfl,rfl⟩ rfl rfl rfl rfl (by simp[Nd.fresh])
def Inv.oz(h:Inv n nb x sn g u)(l:0<=j)(m:j<n)(p:(x j).5=true):Call n nb x sn u j ((x j).fresh ((x j).d.step (x j).tr)) [] u.wr:=by
 have q:=(h.own l m).pd p;have c:=h.ng (j:=j);have hs:upd x j ((x j).fresh (x j).d) j=(x j).fresh (x j).d:=upd_self _ _ _;have t:∀{W},Call n nb (upd x j ((x j).fresh (x j).d)) sn u j ((x j).fresh ((x j).d.step (x j).tr)) [] W->Call n nb x sn u j ((x j).fresh ((x j).d.step (x j).tr)) [] W:=λA=>Call.trans (a1:=(x j).fresh (x j).d) (Int.le_refl _) A;apply t;rcases q with⟨k,f,i⟩|⟨k,f,i,o⟩|⟨k,f,b,i⟩|⟨k,f,i,o,y,r⟩;·have e:=c.promise l m (by rw[hs];rfl) k (by rw[hs];exact f) (by rw[hs];exact i);rw[hs]at e;exact c.iw e sG sG
 ·have e:=c.accept l m (by rw[hs];rfl) k (by rw[hs];exact f) (by rw[hs];exact i) o;rw[hs]at e;exact c.iw e sG sG
 ·obtain⟨u',K,z,C,B,s,E,w,D⟩:=c.learn l m k (by rw[hs];exact f) i (a:=(x j).fresh ((x j).d.step (x j).tr)) (by rw[hs];rfl) (by rw[hs];exact⟨rfl,rfl,rfl⟩) (by intro v;simp[Nd.fresh,Nd.stand]at v) rfl rfl rfl rfl;rw[←w];exact Inv.call C B s z sG sG
 ·have e:=c.write l m k f i o y (by rw[hs];exact r) (a:=(x j).fresh ((x j).d.step (x j).tr)) (by rw[hs];rfl) (by rw[hs];exact⟨rfl,rfl,rfl⟩) rfl (Int.le_refl _) (.inl ⟨rfl,rfl⟩) rfl (.inl ⟨rfl,rfl⟩);exact c.iw e sG sG
end
end AG
namespace AG
def MW:∀s:Fin 32,∀k:Fin 5,¬((s.val:Int) / 2 ^ k.val%2=1)->(s.val:Int)+2 ^ k.val<=31/\∀i:Fin 5,(((s.val:Int)+2 ^ k.val) / 2 ^ i.val%2=1↔(s.val:Int) / 2 ^ i.val%2=1∨i=k):=dG
def MX{S k:Int}(n:0<=S)(m:S<=31)(l:0<=k)(k1:k<5)(f:¬bit S k):S+2 ^ k.toNat<=31/\∀i,0<=i->i<5->(bit (S+2 ^ k.toNat) i↔bit S i∨i=k):=by
 have h:=MW ⟨S.toNat,oG⟩ ⟨k.toNat,oG⟩;have e:((S.toNat:Nat):Int)=S:=oG;simp only[e]at h;obtain⟨b,d⟩:=h f;refine⟨b,λi g j=>?_⟩;have c:=d ⟨i.toNat,oG⟩;unfold bit;rw[c];constructor
 ·rintro(a|a);·exact .inl a
  ·have:=congrArg Fin.val a;simp only at this;exact .inr oG
 ·rintro(a|a);·exact .inl a
  ·exact .inr (by apply Fin.ext;simp only;omega)
section
variable {n nb:Int} {x:Int->Nd} {sn:Ms->Prop} {g:Gh} {u:Gv} {j:Int}
def vC{y:Nd}{r:Bool}(h:y.jl r=0):y.5=false/\y.act=true/\r=true/\y.d.last≠1000000000000/\y.ph=0/\y.on<=0:=by
 unfold Nd.jl at h;split at h;·omega
 next c0=>
 split at h;·omega
 next c1=>
 split at h;·omega
 next c2=>
 split at h;·omega
 next c3=>
 refine⟨by simpa using c0,by simpa using c1,by cases r;exact absurd (.inl rfl) c2;rfl,λa=>c2 (.inr a),Classical.byContradiction λa=>c3 (.inl a),?_⟩;apply Classical.byContradiction;intro a;exact c3 (.inr oG)
def Inv.admi(h:Inv n nb x sn g u)(l:0<=j)(o:j<n)(node:Int)(ok:Bool)(hE:(x j).d.ep<1000000000000):Call n nb x sn u j ((x j).admi node ok).1 ((x j).admi node ok).2.1 u.wr:=by
 have q:=h.own l o;unfold Nd.admi;split;·exact Call.none h
 next c0=>
 obtain⟨N,p,c,c6,c7,c8⟩:=vC (Classical.byContradiction λy=>c0 y);obtain⟨c3,c4,z⟩:0<=node/\node<(x j).2/\¬bit ((x j).d.rc (x j).d.ep).S node:=by unfold Nd.adm eU at c;simp only[Bool.and_eq_true,decide_eq_true_eq,Bool.not_eq_true',beq_eq_false_iff_ne]at c;exact⟨c.1.1,c.1.2,c.2⟩
 have t:=q.t1 p;have C:=q.rr q.i0.2.2.2.2 (Int.le_refl _);rw[C]at z;have X:0<(x j).d.ep:=(h.t2 t.1).1;have kn:=(h.known l o (e:=(x j).d.ep - 1) oG oG).1;rw[show(x j).d.ep - 1+1=(x j).d.ep by omega]at kn;obtain⟨_,_,_,k4,M,k6,L,H,_⟩:=kn;have hn:=h.nn;have E:=q.i0.2.2.1;obtain⟨F,B⟩:=MX (k:=node) oG L c3 oG z;have w:∀i:Nat,i<(x j).fq.zs.length->jT u i ((x j).fq.zs.getD i 0):=by have:=h.pg l o p 0;exact λi hi=>(this.s7 (.inr rfl)).2.2.2 rfl i hi
 dsimp only;split
 ·have r:=h.raise (j:=j) l o (m:={(x j).fq with q:=(x j).d.last+1}) (.inr rfl) t.1 t.2.1 t.2.2.1 rfl (.inl p) (W:=u.wr) id (λb=>by simp[Nd.fq]at b) (λ_=>w) (A:=True) (a:={(x j).save {(x j).fq with q:=(x j).d.last+1} true with ph:=1,jo:=node,gP:=((x j).d.rc (x j).d.ep).P,gS:=((x j).d.rc (x j).d.ep).S+2 ^ node.toNat,ba:=0,rf:=0,fo:=.nil,an:=[]}) rfl ⟨rfl,rfl,rfl⟩ (λ_=>⟨p,rfl⟩) (λb=>by dsimp only[Nd.save]at b;omega) (.inl (Int.le_refl _)) (.inr rfl) (λ_=>.inl rfl) (λ_=>.inl rfl) (λ_=>⟨rfl,?_,.inr (.inr trivial)⟩) N (λ_=>⟨p,λi O V s=>by dsimp only at s;rw[C]at s;exact(B i O V).1 s⟩) (λb=>by simp[Nd.fq]at b)
  ·obtain⟨K,f,v⟩:=h.kn;refine Inv.call v f (u':={u with mx:=eH u.4 (x j).d.ep ((x j).d.last+1),wr:=u.wr,ad:=λe=>u.ad e∨(True/\e=(x j).d.ep)}) ⟨λ_ _=>rfl,id,.inl,λ{e} _=>?_,id⟩ r (kJ λi=>?_) (kJ λi Q=>by simp[Nd.fq]at Q)
   ·show u.4 e<=eH u.4 (x j).d.ep ((x j).d.last+1) e;unfold eH;split;·next y=>subst y;omega
    ·exact Int.le_refl _
   ·refine⟨λb=>?_,λb=>?_,λb=>?_,λb=>?_,λ_=>⟨t.1,?_,λb=>?_,λ_=>w⟩,λb=>?_⟩;·simp[Nd.fq]at b
    ·simp[Nd.fq]at b
    ·simp[Nd.fq]at b
    ·simp[Nd.fq]at b
    ·show(x j).d.last+1<=eH u.4 (x j).d.ep ((x j).d.last+1) (x j).d.ep;simp[eH]
    ·simp[Nd.fq]at b
    ·simp[Nd.fq]at b
  ·show Fol (u.R (x j).d.ep) ((x j).d.ep+1) ((x j).d.rc (x j).d.ep).P (((x j).d.rc (x j).d.ep).S+2 ^ node.toNat);rw[C];have rE:=h.qa l o q.i0.2.2.2.2 (Int.le_refl _);have D:(0:Int)<2 ^ node.toNat:=Int.pow_pos oG;refine⟨oG,oG,oG,k4,M,oG,F,(B _ oG oG).2 (.inl H),.inr ⟨rfl,node,c3,oG,z,B⟩⟩
 ·obtain⟨K,v,f,U,r⟩:=h.rise l o (m:={(x j).fq with q:=(x j).d.last+1}) (.inr rfl) p rfl rfl (W:=u.wr) id (λb=>by simp[Nd.fq]at b) (λ_=>w);exact Inv.call (u':={u with mx:=eH u.4 (x j).d.ep ((x j).d.last+1),wr:=u.wr}) v f U r sG sG
def Inv.operate(h:Inv n nb x sn g u)(r:0<=j)(z:j<n)(bl v:Int)(ok:Bool){W:Int->Int->Prop}(s:∀{i v},u.wr i v->W i v)(w:v=0∨W bl v)(o:(x j).jl ((x j).blk bl)=0):Call n nb x sn u j ((x j).operate bl v ok).1 ((x j).operate bl v ok).2.1 W:=by
 have q:=h.own r z;unfold Nd.operate;rw[if_neg (by simp[o])];obtain⟨F,f,l,L,y,H⟩:=vC o;obtain⟨c3,M⟩:0<=bl/\bl<(x j).nb:=by unfold Nd.blk at l;simpa using l
 have t:=q.t1 f;dsimp only;split
 ·have p:=h.raise (j:=j) r z (m:={Ms.nil with k:=7,e:=(x j).d.ep,q:=(x j).d.last+1,bl:=bl,v:=v}) (.inl rfl) t.1 t.2.1 t.2.2.1 rfl (.inl f) (W:=W) s (λ_=>w) (λb=>by simp at b) (A:=False) (a:={(x j).save {Ms.nil with k:=7,e:=(x j).d.ep,q:=(x j).d.last+1,bl:=bl,v:=v} true with ops:=(x j).ops+1,on:=(x j).ops+1,ow:={Ms.nil with k:=7,e:=(x j).d.ep,q:=(x j).d.last+1,bl:=bl,v:=v},oa:=[]}) rfl ⟨rfl,rfl,rfl⟩ (λ_=>⟨f,rfl⟩) (λ_=>⟨f,rfl,rfl,rfl⟩) (.inr ⟨y,by simp[Nd.vo,Nd.save,Du.step,Du.ep]⟩) (.inl y) (λb=>b.elim) (λb=>absurd y (q.ap f b)) (λb=>by dsimp only[Nd.save]at b;omega) F (λb=>by dsimp only[Nd.save]at b;omega) (λ_=>c3);have C:=p.finish (j:=j);rw[upd_self,qG]at C;obtain⟨K,c,B⟩:=h.kn;refine Inv.call B c (u':={u with mx:=eH u.4 (x j).d.ep ((x j).d.last+1),wr:=W,ad:=λe=>u.ad e∨(False/\e=(x j).d.ep)}) ⟨λ_ _=>rfl,id,.inl,λ{e} _=>?_,s⟩ C (kJ λi=>?_) (kJ λi D=>by simp at D)
  ·show u.4 e<=eH u.4 (x j).d.ep ((x j).d.last+1) e;unfold eH;split;·next o=>subst o;omega
   ·exact Int.le_refl _
  ·refine⟨λb=>?_,λb=>?_,λb=>?_,λb=>?_,λ_=>⟨t.1,?_,λ_=>⟨c3,w⟩,λb=>?_⟩,λb=>?_⟩;·simp at b
   ·simp at b
   ·simp at b
   ·simp at b
   ·show(x j).d.last+1<=eH u.4 (x j).d.ep ((x j).d.last+1) (x j).d.ep;simp[eH]
   ·simp at b
   ·simp at b
 ·obtain⟨K,B,c,E,p⟩:=h.rise r z (m:={Ms.nil with k:=7,e:=(x j).d.ep,q:=(x j).d.last+1,bl:=bl,v:=v}) (.inl rfl) f rfl rfl (W:=W) s (λ_=>w) (λb=>by simp at b);exact Inv.call B c E p sG sG
end
end AG
namespace AG
def Du.first(id n:Int):Du:={id:=id,recs:=[⟨0,0,2 ^ n.toNat - 1⟩],kv:=[],bk:=λ_=>0,seen:=0,last:=0}
def Nd.first(id n nb:Int):Nd:={id:=id,nodes:=n,nb:=nb,d:=Du.first id n,down:=false,act:=false,ph:=0,gP:=0,gS:=0,jo:=0,ba:=0,rf:=0,fo:=.nil,an:=[],on:=0,ow:=.nil,oa:=[],ops:=0,res:=[],tr:=.nil}
def Gh.none:Gh:={acc:=λ_ _ _ _=>False,jr:=λ_ _ _=>False,jh:=λ_ _ _ _ _=>False}
def Gv.none(n:Int):Gv:={R:=λ_=>⟨0,0,2 ^ n.toNat - 1⟩,tk:=λ_=>False,ad:=λ_=>False,mx:=λ_=>0,wr:=λ_ _=>False}
def Inv.first{n nb:Int}(a:2<=n/\n<=5):Inv n nb (λj=>Nd.first j n nb) (λ_=>False) Gh.none (Gv.none n):=by
 refine⟨a,?_,λ{j} h0 h1=>?_,rfl,λh=>h.elim,λh=>h.elim,λh=>h.elim,λh=>h.elim⟩
 ·refine{a1:=λh=>h.elim,a2:=λh=>h.elim,a3:=λh=>h.elim,a4:=λh=>h.elim,a5:=λh=>h.elim,a6:=λh=>h.elim,n1:=λh=>h.elim,n2:=λ_ _ _ h=>?_,lw:=λ_ _ _=>?_,n3:=λh=>h.elim,n4:=λh=>h.elim,n5:=λ_ _ h=>?_,n6:=λ_ _ _ _ h=>h,n7:=λ_ _ h=>?_,n8:=λ_ _ h=>?_,r1:=λh=>h.elim,r2:=λh=>h.elim};·simp[Nd.vo,Nd.first,Du.first,dJ]at h
  ·simp[Nd.vo,Nd.first,Du.first,dJ]
  ·simp[Nd.vo,Nd.first]at h
  ·simp[Nd.vo,Nd.first]at h
  ·simp[Nd.vo,Nd.first]at h
 ·refine⟨⟨rfl,rfl,rfl,rfl,by simp[Nd.first,Du.first,Du.ep]⟩,λh=>?_,λh=>?_,λ{i} q0 q1=>?_,λ{e} q0 q1=>?_,λh=>absurd rfl h,λh=>?_,λh=>?_,.inl ⟨rfl,rfl⟩,λ_ _=>.inl rfl,λh=>?_,λh=>?_,λh=>?_,λh=>?_,λh=>?_⟩;·simp[Nd.first]at h
  ·simp[Nd.first]at h
  ·have:i=0:=by simp[Nd.first,Du.first,Du.ep]at q1;omega
   subst this;rfl
  ·simp[Nd.first,Du.first,Du.ep]at q1;omega
  ·simp[Nd.first]at h
  ·simp[Nd.first]at h
  ·simp[Nd.first]at h
  ·simp[Nd.first]at h
  ·simp[Nd.first]at h
  ·simp[Nd.first]at h
  ·simp[Nd.first]at h
section
variable {n nb:Int} {x:Int->Nd} {sn:Ms->Prop} {g:Gh} {u:Gv} {j:Int}
def Inv.shrinks(h:Inv n nb x sn g u){i:Int}(b:0<=i)(j:i<n){e:Int}(a:0<=e):∀(k:Nat),e+k<=(x i).d.ep->(∀f,e<=f->f<e+k->¬u.ad f)->sub (u.R (e+k)).S (u.R e).S
 |0,_,_=>by rw[show e+((0:Nat):Int)=e by omega];exact λ_ _ _ o=>o
 |k+1,hk,ha=>by have q:=h.shrinks b j a k oG (λf p s=>ha f p oG);have m:=(h.known b j (e:=e+k) oG oG).2.resolve_right (λr=>ha _ oG oG r.1);rw[show e+((k+1:Nat):Int)=e+k+1 by omega];exact λy l c hy=>q y l c (m y l c hy)
def Inv.behind(h:Inv n nb x sn g u)(b:0<=j)(l:j<n)(s:(x j).act=true)(o:(x j).ph=0):∀(k:Nat) {e:Int},u.tk e->e<=(x j).d.ep+k->(x j).d.ep<e->∃y m,0<=y/\y<n/\y≠j/\bit (u.R (x j).d.ep).S y/\u.tk m/\(x j).d.ep<m/\(u.R m).P=y+1
 |0,e,_,h3,h4=>by omega
 |k+1,e,ht,h3,h4=>by
  by_cases t:∃f,(x j).d.ep<f/\f<e/\u.tk f;·obtain⟨f,r,B,A⟩:=t;exact h.behind b l s o k A oG r
  ·obtain⟨_,y,a,c,v,F,E⟩:=h.t2 ht;have w:=(h.own b l).i0.2.2.2.2;have hs:=h.shrinks a c w (e - (x j).d.ep).toNat oG (λf r B p=>?_);·rw[show(x j).d.ep+(((e - (x j).d.ep).toNat:Nat):Int)=e by omega]at hs;have kn:=(h.known a c (e:=e - 1) oG oG).1;rw[show e - 1+1=e by omega,v]at kn;obtain⟨_,_,_,K,H,C,D,q,_⟩:=kn;refine⟨y,e,a,c,λz=>?_,hs y a (by have:=h.nn;omega) (by rw[show y+1 - 1=y by omega]at q;exact q),ht,h4,v⟩;subst z;omega
   ·by_cases i:f=(x j).d.ep;·subst i;exact(h.own b l).ap s p o
    ·exact t ⟨f,oG,oG,h.at_ p⟩
end
end AG
namespace AG
structure Opk(y a:Nd):Prop where
  ops:a.ops=y.ops
  res:a.res=y.res
  on:a.on=0∨(a.on=y.on/\a.ow=y.ow)
  ep:a.d.ep=y.d.ep∨(a.d.ep=y.d.ep+1/\a.on=0)
def Opk.refl(y:Nd):Opk y y:=⟨rfl,rfl,.inr ⟨rfl,rfl⟩,.inl rfl⟩
def Opk.trans{x y z:Nd}(h:Opk x y)(h':Opk y z)(c:y.d.ep=x.d.ep):Opk x z:=by
 refine⟨h'.ops.trans h.ops,h'.res.trans h.res,?_,by rw[←c];exact h'.ep⟩;rcases h'.on with a|⟨a,e⟩;·exact .inl a
 ·rcases h.on with b|⟨b,f⟩;·exact .inl (a.trans b)
  ·exact .inr ⟨a.trans b,e.trans f⟩
def Opk.fall(y:Nd)(m:Ms):Opk y (y.fall m):=⟨rfl,rfl,.inl rfl,.inl rfl⟩
def step_ep(d:Du){m:Ms}(a:m.k≠6):(d.step m).ep=d.ep:=by
 unfold Du.step;split;·rfl
 ·split;·rfl
  ·split<;>rfl
def Opk.save(y:Nd){m:Ms}(a:m.k≠6):Opk y (y.save m true):=⟨rfl,rfl,.inr ⟨rfl,rfl⟩,.inl (step_ep y.d a)⟩
def Opk.iy(y:Nd){m:Ms}(a:m.k=1∨m.k=3)(ok:Bool):Opk y (y.iy m ok).1:=by
 unfold Nd.iy;split;·exact .refl y
 split;·exact .refl y
 dsimp only;split;·exact .refl y
 split;·exact .save y oG
 ·exact .fall y m
def Opk.decided(y:Nd){m:Ms}(a:m.k=6)(ok:Bool):Opk y (y.decided m ok).1:=by
 unfold Nd.decided;split
 ·split;·refine⟨rfl,rfl,.inl rfl,.inr ⟨?_,rfl⟩⟩;show(y.d.step m).ep=y.d.ep+1;simp[Du.step,a,Du.learn,Du.ep]
  ·exact .fall y m
 ·exact .refl y
def Opk.update(y:Nd){m:Ms}(a:m.k=7∨m.k=9)(ok:Bool):Opk y (y.update m ok).1:=by
 unfold Nd.update;split;·exact .refl y
 split;·exact .refl y
 dsimp only;split;·exact .refl y
 split
 ·dsimp only;split;·exact .save y oG
  ·exact⟨rfl,rfl,.inl rfl,.inl (step_ep y.d oG)⟩
 ·exact .fall y m
def Opk.ko(y:Nd){a:Nd}(h:a={y with ph:=a.ph,gP:=a.gP,gS:=a.gS,jo:=a.jo,ba:=a.ba,rf:=a.rf,fo:=a.fo,an:=a.an}):Opk y a:=by rw[h];exact⟨rfl,rfl,.inr ⟨rfl,rfl⟩,.inl rfl⟩
def D7(y:Nd){m:Ms}(a:m.k=1∨m.k=3)(ok:Bool):(y.iy m ok).1.d.ep=y.d.ep:=by
 have h:=(Opk.iy y a ok).ep;rcases h with h|⟨h,_⟩;·exact h
 ·exfalso;unfold Nd.iy at h;split at h;·simp at h;omega
  split at h;·simp at h;omega
  dsimp only at h;split at h;·simp at h;omega
  split at h;·have:=step_ep y.d (m:=m) oG;simp only[Nd.save]at h;omega
  ·simp[Nd.fall,Nd.stand]at h;omega
def Opk.fu(y:Nd)(ok:Bool):Opk y (y.fu ok).1:=by
 unfold Nd.fu;dsimp only;split;·exact .refl y
 have h:=Opk.iy y (m:={Ms.nil with k:=1,e:=y.d.ep,b:=y.fe y.rf}) (.inl rfl) ok;split;·exact h
 ·exact h.trans (.ko _ rfl) (D7 y (.inl rfl) ok)
def Opk.gy(y:Nd)(ok:Bool):Opk y (y.gy ok).1:=by
 unfold Nd.gy;dsimp only;have c:Opk y (if 0<y.fo.wa then{y with gP:=y.fo.p,gS:=y.fo.s} else y):=by
  split;·exact .ko y rfl
  ·exact .refl y
 have a:(if 0<y.fo.wa then{y with gP:=y.fo.p,gS:=y.fo.s} else y).d=y.d:=by split<;>rfl
 generalize (if 0<y.fo.wa then{y with gP:=y.fo.p,gS:=y.fo.s} else y)=z at*;have h:=Opk.iy z (m:={Ms.nil with k:=3,e:=z.d.ep,b:=z.ba,p:=z.gP,s:=z.gS}) (.inr rfl) ok;split;·exact c.trans h (by rw[a])
 ·exact c.trans (h.trans (.ko _ rfl) (D7 z (.inr rfl) ok)) (by rw[a])
def Opk.conclude(y:Nd)(ok:Bool):Opk y (y.conclude ok).1:=by unfold Nd.conclude;exact(Opk.ko y (a:={y with ph:=0,gP:=0,gS:=0,jo:=0,ba:=0,rf:=0,fo:=.nil,an:=[]}) rfl).trans (.decided _ rfl ok) rfl
def Opk.promised(y:Nd)(m:Ms)(ok:Bool):Opk y (y.promised m ok).1:=by
 unfold Nd.promised;split
 ·dsimp only;split;·exact(Opk.ko y rfl).trans (.gy _ ok) rfl
  ·exact .ko y rfl
 ·exact .refl y
def Opk.accepted(y:Nd)(m:Ms)(ok:Bool):Opk y (y.accepted m ok).1:=by
 unfold Nd.accepted;split
 ·dsimp only;split;·exact(Opk.ko y rfl).trans (.conclude _ ok) rfl
  ·exact .ko y rfl
 ·exact .refl y
def Opk.refused(y:Nd)(m:Ms):Opk y (y.refused m):=by
 unfold Nd.refused;split;·exact .ko y rfl
 ·exact .refl y
def Opk.copied(y:Nd)(m:Ms)(ok:Bool):Opk y (y.copied m ok).1:=by
 unfold Nd.copied;split;·exact(Opk.ko y rfl).trans (.fu _ ok) rfl
 ·exact .refl y
def Opk.eu(y:Nd)(set:Int)(ok:Bool):Opk y (y.eu set ok).1:=by
 unfold Nd.eu;split;·exact .refl y
 split;·exact .refl y
 split;·exact .refl y
 exact(Opk.ko y rfl).trans (.fu _ ok) rfl
def Opk.gq(y:Nd)(ok:Bool):Opk y (y.gq ok).1:=by
 unfold Nd.gq;split;·exact .refl y
 unfold Nd.ic;dsimp only;split;·exact .refl y
 split;·exact .refl y
 ·exact .fu y ok
def Opk.admi(y:Nd)(node:Int)(ok:Bool):Opk y (y.admi node ok).1:=by
 unfold Nd.admi;split;·exact .refl y
 dsimp only;split;·exact(Opk.save y (m:={y.fq with q:=y.d.last+1}) (by simp[Nd.fq])).trans (.ko _ rfl) (step_ep y.d (by simp[Nd.fq]))
 ·exact .fall y _
def MY(y:Nd)(m:Ms)(hS:0<=(y.d.rc y.d.ep).S/\(y.d.rc y.d.ep).S<=31)(k:0<=y.id/\y.id<5)(h:0<=y.2/\y.2<=5):Opk y (y.wrote m)∨(0<y.on/\m.e=y.ow.e/\m.q=y.ow.q/\(y.wrote m).ops=y.ops/\(y.wrote m).d=y.d/\(y.wrote m).on=0/\(y.wrote m).res=y.res++[⟨y.on,y.ow.bl,y.ow.v,y.ow.e,y.ow.q⟩]/\∀i,0<=i->i<5->bit (y.d.rc y.d.ep).S i->i≠y.id->i<y.2/\((8,y.ow.e,max 0 y.ow.q,i)∈y.oa∨i=m.f))∨(0<y.on/\(y.wrote m).on=y.on/\(y.wrote m).ow=y.ow/\(y.wrote m).ops=y.ops/\(y.wrote m).res=y.res/\(y.wrote m).d=y.d):=by
 have a:y.wrote m=(if 0<y.on/\m.e=y.ow.e/\m.q=y.ow.q then({y with oa:=if(8,m.e,max 0 m.q,m.f)∈y.oa then y.oa else y.oa++[(8,m.e,max 0 m.q,m.f)]}:Nd).finish else y):=rfl;by_cases c:0<y.on/\m.e=y.ow.e/\m.q=y.ow.q
 ·rw[if_pos c]at a;obtain⟨o,p⟩:∃o,o=(if(8,m.e,max 0 m.q,m.f)∈y.oa then y.oa else y.oa++[(8,m.e,max 0 m.q,m.f)]):=⟨_,rfl⟩;rw[←p]at a;unfold Nd.finish at a;by_cases j:gW (({y with oa:=o}:Nd).d.rc ({y with oa:=o}:Nd).d.ep).S ({y with oa:=o}:Nd).id ({y with oa:=o}:Nd).ow.e ({y with oa:=o}:Nd).ow.q ({y with oa:=o}:Nd).oa ({y with oa:=o}:Nd).2.toNat=0
  ·rw[if_pos j]at a;rw[a];refine .inr (.inl ⟨c.1,c.2.1,c.2.2,rfl,rfl,rfl,rfl,λi r s u t=>?_⟩);have l:=(C4 (n:={y with oa:=o}) hS k h j) i r s u t;refine⟨l.1,?_⟩;have b:(8,y.ow.e,max 0 y.ow.q,i)∈o:=l.2;rw[p]at b;split at b;·exact .inl b
   ·rcases List.mem_append.1 b with g|g;·exact .inl g
    ·simp at g;exact .inr g.2.2
  ·rw[if_neg j]at a;rw[a];exact .inr (.inr ⟨c.1,rfl,rfl,rfl,rfl,rfl⟩)
 ·rw[if_neg c]at a;rw[a];exact .inl (.refl y)
end AG
namespace AG
structure As where
  nd:Int
  lf:Int
  op:Int
  bl:Int
  v:Int
  rd:Bool
  dn:Bool
  e:Int
  q:Int
def tY(e s f t:Int):Prop:=f<e∨f=e/\t<s
def qP(n:Int)(x:Int->Nd)(sn:Ms->Prop)(u:Gv)(j:Int):Prop:=∃y e',0<=y/\y<n/\y≠j/\bit (u.R (x j).d.ep).S y/\u.tk e'/\(x j).d.ep<e'/\(u.R e').P=y+1/\∀m,sn m->m.k=8->m.f=y->¬(m.e=(x j).ow.e/\m.q=(x j).ow.q)
def GF(n:Int)(x:Int->Nd)(sn:Ms->Prop)(u:Gv)(lv:Int->Int)(ops:List As)(j:Int):Prop:=
  0<(x j).on->∃o∈ops,o.nd=j/\o.lf=lv j/\o.op=(x j).on/\o.dn=false/\o.bl=(x j).ow.bl/\(o.rd=false->o.v=(x j).ow.v)/\(tY (x j).ow.e (x j).ow.q o.e o.q∨qP n x sn u j)
structure CI(n nb:Int)(x:Int->Nd)(sn:Ms->Prop)(g:Gh)(u:Gv)(lv:Int->Int)(ops:List As)(rs:List Rs)(hi:List Rc)(k:Int)(pend:List Rs):Prop where
  inv:Inv n nb x sn g u
  num:∀o∈ops,0<=o.op/\o.lf<=lv o.nd/\(o.lf=lv o.nd->o.op<=(x o.nd).ops)
  oh:∀{j},0<=j->j<n->0<=(x j).ops/\(x j).on<=(x j).ops
  unq:ops.Pairwise (λa b=>¬(a.nd=b.nd/\a.lf=b.lf/\a.op=b.op/\0<a.op))
  lnk:∀{j},0<=j->j<n->GF n x sn u lv ops j
  og:∀r∈rs,u.tk r.e/\r.q<=u.4 r.e
  qb:∀{i v},u.wr i v->∃o∈ops,o.rd=false/\o.bl=i/\o.v=v
  res:∀{j},0<=j->j<n->(x j).res=if j=k then pend else[]
  pen:pend=[]∨∃r,pend=[r]/\0<r.op/\(∃o∈ops,o.nd=k/\o.lf=lv k/\o.op=r.op/\o.dn=false/\o.bl=r.bl/\(o.rd=false->o.v=r.v)/\tY r.e r.q o.e o.q)/\jT u r.bl r.v/\u.tk r.e/\r.q<=u.4 r.e/\r.op<=(x k).ops/\(x k).on=0
  hi0:0<hi.length
  hik:∀i (h:i<hi.length),hi[i]=u.R i/\∃y,0<=y/\y<n/\(i:Int)<=(x y).d.ep
  hiu:∀{j},0<=j->j<n->(x j).d.ep<hi.length∨(j=k/\(x j).d.ep=hi.length)
section
variable {n nb:Int} {x:Int->Nd} {sn:Ms->Prop} {g:Gh} {u:Gv} {j:Int} {lv:Int->Int} {ops:List As} {rs:List Rs} {hi:List Rc}
def qP.on{a:Nd}{sn':Ms->Prop}{N:Gh}{u':Gv}{K i:Int}(h:Inv n nb x sn g u)(h':Inv n nb (upd x j a) sn' N u')(t:Kn n x K)(c:Grv K u u')(W:∀m,sn' m->m.k=8->sn m∨(m.f=j/\m.e=a.d.seen))(o:0<=i)(r:i<n)(U:0<(upd x j a i).on)(b:(upd x j a i).d.ep=(x i).d.ep)(l:(upd x j a i).ow=(x i).ow)(A:qP n x sn u i):qP n (upd x j a) sn' u' i:=by
 obtain⟨y,L,y0,D,y2,F,p,O,v,C⟩:=A;have Q:=(h.own o r).i0.2.2.2.2;obtain⟨_,z,X,H,z2,z3,z4⟩:=h.t2 p;have hz:=t z X H;have hi:=t i o r;refine⟨y,L,y0,D,y2,by rw[b,c.R Q hi];exact F,c.tk p,by rw[b];exact O,by rw[c.R oG oG];exact v,λm hm s S=>?_⟩;rw[l];rcases W m hm s with w|⟨h8,w⟩;·exact C m w s S
 ·have B:y=j:=oG;obtain⟨_,q,q0,q1,q2,M,q4⟩:=h'.t2 (c.tk p);rw[c.R oG oG,v]at q2;have E:q=j:=oG;rw[E,upd_self]at M;have V:=((h'.own o r).o1 U).2.2.1;rw[l,b]at V;rintro⟨h6,_⟩;omega
def CI.call{a:Nd}{out:List (Int×Ms)}(c:CI n nb x sn g u lv ops rs hi j [])(h0:0<=j)(h1:j<n)(B:(x j).d.ep<hi.length){W:Int->Int->Prop}(hc:Call n nb x sn u j a out W)(hw:∀{i v},W i v->∃o∈ops,o.rd=false/\o.bl=i/\o.v=v)(E:a.ops=(x j).ops)(w:a.on=0∨(a.on=(x j).on/\a.ow=(x j).ow))(s:a.d.ep=(x j).d.ep∨(a.d.ep=(x j).d.ep+1/\a.on=0)){pend:List Rs}(t:a.res=pend)(D:pend=[]∨∃r,pend=[r]/\0<r.op/\(∃o∈ops,o.nd=j/\o.lf=lv j/\o.op=r.op/\o.dn=false/\o.bl=r.bl/\(o.rd=false->o.v=r.v)/\tY r.e r.q o.e o.q)/\jT u r.bl r.v/\u.tk r.e/\r.q<=u.4 r.e/\r.op<=(x j).ops/\a.on=0):∃A u',CI n nb (upd x j a) (λy=>sn y∨∃z∈out,y=z.2) A u' lv ops rs hi j pend/\Nx n nb x sn u j a out u':=by
 obtain⟨A,u',K,C,a0,p,hW,h',h8⟩:=hc;have hn:∀m,(sn m∨∃z∈out,m=z.2)->m.k=8->sn m∨(m.f=j/\m.e=a.d.seen):=by
  rintro m (hm|⟨z,hz,rfl⟩) hk;·exact .inl hm
  ·exact .inr (h8 z hz hk)
 have l:∀i,(upd x j a i).ops=(x i).ops:=by
  intro i;by_cases hi:i=j;·subst hi;rw[upd_self];exact E
  ·rw[upd_ne hi]
 have F:∀i,(x i).d.ep<=(upd x j a i).d.ep:=by
  intro i;by_cases hi:i=j;·subst hi;rw[upd_self];rcases s with h|h<;>omega
  ·rw[upd_ne hi];exact Int.le_refl _
 refine⟨A,u',⟨?_,⟨A,K,C,p,h'⟩⟩⟩;refine⟨h',λo oo=>by rw[l];exact c.num o oo,λ{i} i0 i1=>?_,c.unq,λ{i} i0 i1 hon=>?_,λr t=>⟨p.tk (c.og r t).1,Int.le_trans (c.og r t).2 (p.4 (c.og r t).1)⟩,λh=>hw (by rw[hW]at h;exact h),λ{i} i0 i1=>?_,?_,c.hi0,λi hi=>?_,λ{i} i0 i1=>?_⟩
 ·rw[l];refine⟨(c.oh i0 i1).1,?_⟩;by_cases hi:i=j
  ·subst hi;rw[upd_self];rcases w with h|h;·rw[h];exact(c.oh i0 i1).1
   ·rw[h.1];exact(c.oh i0 i1).2
  ·rw[upd_ne hi];exact(c.oh i0 i1).2
 ·have b:(upd x j a i).on=(x i).on/\(upd x j a i).ow=(x i).ow/\(upd x j a i).d.ep=(x i).d.ep:=by
   by_cases hi:i=j
   ·subst hi;rw[upd_self]at hon⊢;rcases w with h|h;·omega
    ·refine⟨h.1,h.2,?_⟩;rcases s with L|L;·exact L
     ·omega
   ·rw[upd_ne hi];exact⟨rfl,rfl,rfl⟩
  obtain⟨o,o1,o2,o3,o4,o5,U,o7,o8⟩:=c.lnk i0 i1 (by rw[b.1]at hon;exact hon);refine⟨o,o1,o2,o3,by rw[b.1];exact o4,o5,by rw[b.2.1];exact U,by rw[b.2.1];exact o7,?_⟩;rw[b.2.1];exact o8.imp id (λO=>O.on c.1 h' C p hn i0 i1 hon b.2.2 b.2.1)
 ·have h:=c.res i0 i1;by_cases hi:i=j;·subst hi;rw[upd_self,if_pos rfl];exact t
  ·rw[upd_ne hi,if_neg hi];rw[if_neg hi]at h;exact h
 ·rcases D with D|⟨r,p1,p2,Q,S,p5,V,X,p8⟩;·exact .inl D
  ·exact .inr ⟨r,p1,p2,Q,S.kw p,p.tk p5,Int.le_trans V (p.4 p5),by rw[l];exact X,by rw[upd_self];exact p8⟩
 ·obtain⟨q1,y,M,H,N⟩:=c.hik i hi;refine⟨?_,y,M,H,Int.le_trans N (F y)⟩;rw[p.R oG (Int.le_trans N (C y M H))];exact q1
 ·by_cases hi:i=j
  ·subst hi;rw[upd_self];rcases s with h|h;·rw[h];exact .inl B
   ·rw[h.1];omega
  ·rw[upd_ne hi];rcases c.hiu i0 i1 with h|h;·exact .inl h
   ·exact absurd h.1 hi
def CI.opk{a:Nd}{out:List (Int×Ms)}(c:CI n nb x sn g u lv ops rs hi j [])(h:0<=j)(f:j<n)(e:(x j).d.ep<hi.length)(k:Call n nb x sn u j a out u.wr)(b:Opk (x j) a):∃i u',CI n nb (upd x j a) (λy=>sn y∨∃z∈out,y=z.2) i u' lv ops rs hi j []/\Nx n nb x sn u j a out u':=c.call h f e k c.qb b.ops b.on b.ep (by rw[b.res,c.res h f,if_pos rfl]) (.inl rfl)
def CI.wrote(c:CI n nb x sn g u lv ops rs hi j [])(a:0<=j)(b:j<n)(h:(x j).d.ep<hi.length){m:Ms}(A:m.k=8)(C:sn m):∃i u' pend,CI n nb (upd x j ((x j).wrote m)) (λy=>sn y∨∃z∈([]:List (Int×Ms)),y=z.2) i u' lv ops rs hi j pend/\Nx n nb x sn u j ((x j).wrote m) [] u':=by
 have v:=c.1.wrote a b A C;have S:=c.1.nn;have r:=(c.1.own a b).i0;rcases MY (x j) m (by rw[(c.1.own a b).rr r.2.2.2.2 (Int.le_refl _)];exact c.1.mr a b r.2.2.2.2 (Int.le_refl _)) oG oG with h9|⟨w1,w2,w3,w4,w5,w6,w7,w8⟩|⟨w1,w2,w3,w4,w5,w6⟩;·obtain⟨i,u',p⟩:=c.opk a b h v h9;exact⟨i,u',[],p⟩
 ·have q:=c.1.own a b;obtain⟨L,o2,B,o4,F⟩:=q.o1 w1;have t:=q.t1 L;obtain⟨o,R,V,K,M,D,W,N,H⟩:=c.lnk a b w1;have f:=c.res a b;rw[if_pos rfl]at f;rw[f,List.nil_append]at w7;have U:=q.rr q.i0.2.2.2.2 (Int.le_refl _);have s:¬qP n x sn u j:=by
   rintro⟨y,e',Q,y1,X,E,y4,y5,y6,w⟩;have hn:=c.1.nn;obtain⟨_,l⟩:=w8 y Q oG (by rw[U];exact E) (by rw[q.i0.1];exact X);rcases l with l|l;·obtain⟨_,_,_,O,m1,m2,m3,m4,m5⟩:=F _ l;exact w O m1 m2 m3 ⟨m4,m5⟩
   ·exact w m C A l.symm ⟨w2,w3⟩
  obtain⟨i,u',p⟩:=c.call a b h v c.qb w4 (.inl w6) (.inl (by rw[w5])) w7 (.inr ⟨_,rfl,w1,⟨o,R,V,K,M,D,W,N,H.resolve_right s⟩,(q.o2 w1).2,by show u.tk (x j).ow.e;rw[B];exact t.1,by show(x j).ow.q<=u.4 (x j).ow.e;rw[B];omega,(c.oh a b).2,w6⟩);exact⟨i,u',_,p⟩
 ·obtain⟨i,u',p⟩:=c.call a b h v c.qb w4 (.inr ⟨w2,w3⟩) (.inl (by rw[w6])) (pend:=[]) (by rw[w5,c.res a b,if_pos rfl]) (.inl rfl);exact⟨i,u',[],p⟩
end
end AG
namespace AG
section
variable {n nb:Int} {x:Int->Nd} {sn:Ms->Prop} {g:Gh} {u:Gv} {j:Int} {lv:Int->Int} {ops:List As} {rs:List Rs} {hi:List Rc}
def CI.mute{pend:List Rs}{k:Int}(c:CI n nb x sn g u lv ops rs hi k pend){o:As}(t:o.op=0)(w:o.lf<=lv o.nd)(j:0<=o.nd/\o.nd<n):CI n nb x sn g u lv (ops++[o]) rs hi k pend:=by
 have f:∀{y},y∈ops->y∈ops++[o]:=λhy=>List.mem_append.2 (.inl hy);refine⟨c.1,λy hy=>?_,c.oh,?_,λl z e=>?_,c.og,λv=>?_,c.res,?_,c.hi0,c.hik,c.hiu⟩
 ·rcases List.mem_append.1 hy with hy|hy;·exact c.num y hy
  ·simp at hy;subst hy;exact⟨oG,w,λ_=>by rw[t];exact(c.oh j.1 j.2).1⟩
 ·refine List.pairwise_append.2 ⟨c.unq,sG,λa B b i A=>?_⟩;simp at i;subst i;omega
 ·obtain⟨y,h,d⟩:=c.lnk l z e;exact⟨y,f h,d⟩
 ·obtain⟨y,h,d⟩:=c.qb v;exact⟨y,f h,d⟩
 ·rcases c.pen with m|⟨r,q,p2,⟨y,p,s⟩,p5⟩;·exact .inl m
  ·exact .inr ⟨r,q,p2,⟨y,f p,s⟩,p5⟩
def CI.ny{a:Nd}(c:CI n nb x sn g u lv ops rs hi j [])(h0:0<=j)(h1:j<n)(D:(x j).d.ep<hi.length)(hc:Call n nb x sn u j a [] u.wr)(ha:a.on=0/\a.ops=0/\a.res=[])(he:a.d.ep=(x j).d.ep∨a.d.ep=(x j).d.ep+1):∃p u',CI n nb (upd x j a) (λy=>sn y∨∃z∈([]:List (Int×Ms)),y=z.2) p u' (upd lv j (lv j+1)) ops rs hi j []/\Nx n nb x sn u j a [] u':=by
 obtain⟨p,u',K,q,U,h,F,h',h8⟩:=hc;have hn:∀m,(sn m∨∃z∈([]:List (Int×Ms)),m=z.2)->m.k=8->sn m∨(m.f=j/\m.e=a.d.seen):=by
  rintro m (hm|⟨z,O,rfl⟩) hk;·exact .inl hm
  ·simp at O
 have t:∀i,(x i).d.ep<=(upd x j a i).d.ep:=by
  intro i;by_cases hi:i=j;·subst hi;rw[upd_self];omega
  ·rw[upd_ne hi];exact Int.le_refl _
 refine⟨p,u',?_,⟨p,K,q,h,h'⟩⟩;refine⟨h',λo X=>?_,λ{i} i0 i1=>?_,c.unq,λ{i} i0 i1 hon=>?_,λr s=>⟨h.tk (c.og r s).1,Int.le_trans (c.og r s).2 (h.4 (c.og r s).1)⟩,λb=>c.qb (by rw[F]at b;exact b),λ{i} i0 i1=>?_,.inl rfl,c.hi0,λi hi=>?_,λ{i} i0 i1=>?_⟩
 ·obtain⟨l,B,M⟩:=c.num o X;by_cases hi:o.nd=j;·rw[hi]at B⊢;rw[upd_self];exact⟨l,oG,λb=>oG⟩
  ·rw[upd_ne hi,upd_ne hi];exact⟨l,B,M⟩
 ·by_cases hi:i=j;·subst hi;rw[upd_self];omega
  ·rw[upd_ne hi];exact c.oh i0 i1
 ·by_cases hi:i=j;·subst hi;rw[upd_self]at hon;omega
  ·have e:upd x j a i=x i:=upd_ne hi;obtain⟨o,S,N,V,W,H,E,L,Q⟩:=c.lnk i0 i1 (by rw[e]at hon;exact hon);refine⟨o,S,N,by rw[upd_ne hi];exact V,by rw[e];exact W,H,by rw[e];exact E,by rw[e];exact L,?_⟩;rw[e];exact Q.imp id (λC=>C.on c.1 h' q h hn i0 i1 hon (by rw[e]) (by rw[e]))
 ·have b:=c.res i0 i1;by_cases hi:i=j;·subst hi;rw[upd_self,if_pos rfl];exact ha.2.2
  ·rw[upd_ne hi];exact b
 ·obtain⟨l,y,w,v,A⟩:=c.hik i hi;refine⟨?_,y,w,v,Int.le_trans A (t y)⟩;rw[h.R oG (Int.le_trans A (q y w v))];exact l
 ·by_cases hi:i=j;·subst hi;rw[upd_self];omega
  ·rw[upd_ne hi];rcases c.hiu i0 i1 with b|b;·exact .inl b
   ·exact absurd b.1 hi
def CI.begin(c:CI n nb x sn g u lv ops rs hi j [])(Q:0<=j)(U:j<n)(ac:(x j).d.ep<hi.length)(bl v:Int)(rd:Bool){D q0:Int}(a5:(D = -1/\q0=0)∨∃r∈rs,r.e=D/\r.q=q0)(a3:rd=true->v=(x j).d.bk bl)(hh:(x j).jl ((x j).blk bl)=0):∃g' u' pend,CI n nb (upd x j ((x j).operate bl v true).1) (λy=>sn y∨∃z∈((x j).operate bl v true).2.1,y=z.2) g' u' lv (ops++[⟨j,lv j,(x j).ops+1,bl,v,rd,false,D,q0⟩]) rs hi j pend/\Nx n nb x sn u j ((x j).operate bl v true).1 ((x j).operate bl v true).2.1 u':=by
 have q:=c.1.own Q U;obtain⟨c1,c2,a4,c6,c7,c8⟩:=vC hh;obtain⟨c3,c4⟩:0<=bl/\bl<(x j).nb:=by unfold Nd.blk at a4;simpa using a4
 have t:=q.t1 c2;have hR:=q.rr q.i0.2.2.2.2 (Int.le_refl _);have ad:=c.1.nn;have ae:=q.i0.2.2.2.1;have hc:=c.1.operate Q U bl v true (W:=λi w=>u.wr i w∨(rd=false/\i=bl/\w=v)) .inl (by
  cases rd;·exact .inr (.inr ⟨rfl,rfl,rfl⟩)
  ·rw[a3 rfl];exact(q.bv c3 oG).imp id .inl) hh
 have O:tY (x j).d.ep ((x j).d.last+1) D q0∨(∃y F,0<=y/\y<n/\y≠j/\bit (u.R (x j).d.ep).S y/\u.tk F/\(x j).d.ep<F/\(u.R F).P=y+1):=by
  rcases a5 with l|⟨r,hr,r1,r2⟩;·exact .inl (.inl (by have:=q.i0.2.2.2.2;omega))
  ·obtain⟨k1,k2⟩:=c.og r hr;rw[r1]at k1 k2;by_cases hx:(x j).d.ep<D;·exact .inr (c.1.behind Q U c2 c7 (D - (x j).d.ep).toNat k1 oG hx)
   ·refine .inl ?_;by_cases hy:D=(x j).d.ep;·exact .inr ⟨hy,by rw[hy]at k2;omega⟩
    ·exact .inl oG
 have M:∀m,sn m->m.k=8->¬(m.e=(x j).d.ep/\m.q=(x j).d.last+1):=by rintro m H hk ⟨m1,m2⟩;have:=((c.1.ms H).s8 (.inl hk)).2.1;rw[m1]at this;omega
 obtain⟨A,hA⟩:∃A,A=((x j).operate bl v true).1:=⟨_,rfl⟩;obtain⟨out,N⟩:∃o,o=((x j).operate bl v true).2.1:=⟨_,rfl⟩;have hY:∃y:Nd,A=y.finish/\y.on=(x j).ops+1/\y.ops=(x j).ops+1/\y.res=(x j).res/\y.ow={Ms.nil with k:=7,e:=(x j).d.ep,q:=(x j).d.last+1,bl:=bl,v:=v}/\y.oa=[]/\y.d.ep=(x j).d.ep/\y.d.rc y.d.ep=(x j).d.rc (x j).d.ep/\y.id=(x j).id/\y.2=(x j).2/\∀z∈out,z.2.k=7:=by
  rw[hA,N];unfold Nd.operate;rw[if_neg (by simp[hh])];refine⟨_,rfl,rfl,rfl,rfl,rfl,rfl,?_,?_,rfl,rfl,kJ λi=>rfl⟩;·simp[Nd.save,Du.step,Du.ep]
  ·simp[Nd.save,Du.step,Du.ep,Du.rc]
 rw[←hA,←N]at hc⊢;obtain⟨y,y1,y2,y3,y4,y5,y6,y7,y8,y9,a6,a7⟩:=hY;obtain⟨g',u',K,hK,ab,E,hW,h',h8⟩:=hc;have B:=c.res Q U;rw[if_pos rfl]at B;have a1:A.d.ep=(x j).d.ep:=by rw[y1];unfold Nd.finish;split<;>exact y7
 have h:A.ops=(x j).ops+1:=by rw[y1];unfold Nd.finish;split<;>exact y3
 have hn:∀m,(sn m∨∃z∈out,m=z.2)->m.k=8->sn m∨(m.f=j/\m.e=A.d.seen):=by
  rintro m (H|⟨z,hz,rfl⟩) hk;·exact .inl H
  ·exact .inr (h8 z hz hk)
 have a9:∀m,(sn m∨∃z∈out,m=z.2)->m.k=8->¬(m.e=(x j).d.ep/\m.q=(x j).d.last+1):=by
  rintro m (H|⟨z,hz,rfl⟩) hk;·exact M m H hk
  ·have:=a7 z hz;omega
 have L:∀i,(upd x j A i).d.ep=(x i).d.ep:=by
  intro i;by_cases hi:i=j;·subst hi;rw[upd_self];exact a1
  ·rw[upd_ne hi]
 have H:∀{z},z∈ops->z∈ops++[(⟨j,lv j,(x j).ops+1,bl,v,rd,false,D,q0⟩:As)]:=λhy=>List.mem_append.2 (.inl hy);have X:(⟨j,lv j,(x j).ops+1,bl,v,rd,false,D,q0⟩:As)∈ops++[(⟨j,lv j,(x j).ops+1,bl,v,rd,false,D,q0⟩:As)]:=sG;have aa:=(c.oh Q U).1;have a8:(∃pend,A.res=pend/\(0<A.on->A.on=(x j).ops+1/\A.ow=y.ow)/\(pend=[]/\A.on=(x j).ops+1∨(pend=[⟨(x j).ops+1,bl,v,(x j).d.ep,(x j).d.last+1⟩]/\A.on=0/\y.all))):=by
  rw[y1];unfold Nd.finish;split
  ·next hall=>
   refine⟨_,rfl,λl=>by simp at l,.inr ⟨?_,rfl,C4 (by rw[y8,hR];exact c.1.mr Q U q.i0.2.2.2.2 (Int.le_refl _)) (by rw[y9,q.i0.1];omega) (by rw[a6,q.i0.2.2.1];omega) hall⟩⟩;simp only[y4,B,List.nil_append,y2,y5]
  ·exact⟨[],by rw[y4,B],λ_=>⟨y2,rfl⟩,.inl ⟨rfl,y2⟩⟩
 obtain⟨pend,f1,f2,V⟩:=a8;have a0:(∃y F,0<=y/\y<n/\y≠j/\bit (u.R (x j).d.ep).S y/\u.tk F/\(x j).d.ep<F/\(u.R F).P=y+1)->0<A.on->qP n (upd x j A) (λy=>sn y∨∃z∈out,y=z.2) u' j:=by rintro⟨z,F,z0,z1,z2,z3,z4,z5,z6⟩ s;obtain⟨_,p,p0,p1,_,_,p4⟩:=c.1.t2 z4;have:=hK p p0 p1;refine⟨z,F,z0,z1,z2,by rw[L,E.R q.i0.2.2.2.2 (hK j Q U)];exact z3,E.tk z4,by rw[L];exact z5,by rw[E.R (by have:=q.i0.2.2.2.2;omega) oG];exact z6,λm H hk _=>?_⟩;rw[upd_self,(f2 s).2,y5];exact a9 m H hk
 refine⟨g',u',pend,?_,⟨g',K,hK,E,h'⟩⟩;refine⟨h',λo oo=>?_,λ{i} i0 i1=>?_,?_,λ{i} i0 i1 s=>?_,λr hr=>⟨E.tk (c.og r hr).1,Int.le_trans (c.og r hr).2 (E.mx (c.og r hr).1)⟩,λ{i w} l=>?_,λ{i} i0 i1=>?_,?_,c.hi0,λi hi=>?_,λ{i} i0 i1=>?_⟩
 ·rcases List.mem_append.1 oo with oo|oo
  ·obtain⟨r1,r2,r3⟩:=c.num o oo;refine⟨r1,r2,λl=>?_⟩;have:=r3 l;by_cases hi:o.nd=j;·rw[hi]at this⊢;rw[upd_self,h];omega
   ·rw[upd_ne hi];exact this
  ·simp at oo;subst oo;exact⟨by show 0<=(x j).ops+1;omega,Int.le_refl _,λ_=>by rw[upd_self,h];exact Int.le_refl _⟩
 ·by_cases hi:i=j;·subst hi;rw[upd_self,h];refine⟨oG,?_⟩;rcases V with V|V<;>omega
  ·rw[upd_ne hi];exact c.oh i0 i1
 ·refine List.pairwise_append.2 ⟨c.unq,sG,λa ha b hb hh=>?_⟩;simp at hb;subst hb;have r3:=(c.num a ha).2.2;obtain⟨k1,k2,k3,_⟩:=hh;dsimp only at k1 k2 k3;have:=r3 (by rw[k1,k2]);rw[k1]at this;omega
 ·by_cases hi:i=j;·subst hi;have C:=s;rw[upd_self]at C;obtain⟨k1,k2⟩:=f2 C;refine⟨_,X,rfl,rfl,by rw[upd_self,k1],rfl,by rw[upd_self,k2,y5],λ_=>by rw[upd_self,k2,y5],?_⟩;rw[upd_self,k2,y5];exact O.imp id (λhd=>a0 hd C)
  ·have e:upd x j A i=x i:=upd_ne hi;obtain⟨o,o1,o2,o3,o4,o5,o6,o7,o8⟩:=c.lnk i0 i1 (by rw[e]at s;exact s);refine⟨o,H o1,o2,o3,by rw[e];exact o4,o5,by rw[e];exact o6,by rw[e];exact o7,?_⟩;rw[e];exact o8.imp id (λhd=>hd.on c.1 h' hK E hn i0 i1 s (by rw[e]) (by rw[e]))
 ·rw[hW]at l;rcases l with l|⟨l,rfl,rfl⟩;·obtain⟨o,o1,o2⟩:=c.qb l;exact⟨o,H o1,o2⟩
  ·exact⟨_,X,l,rfl,rfl⟩
 ·by_cases hi:i=j;·subst hi;rw[upd_self,if_pos rfl];exact f1
  ·rw[upd_ne hi,if_neg hi];have:=c.res i0 i1;rw[if_neg hi]at this;exact this
 ·rcases V with⟨V,_⟩|⟨V,f4,f5⟩;·exact .inl V
  ·refine .inr ⟨_,V,by show 0<(x j).ops+1;omega,⟨_,X,rfl,rfl,rfl,rfl,rfl,λ_=>rfl,O.resolve_right ?_⟩,?_,E.tk t.1,?_,by rw[upd_self,h];exact Int.le_refl _,by rw[upd_self];exact f4⟩;·rintro⟨z,F,z0,z1,z2,z3,_⟩;have:=(f5 z z0 oG (by rw[y8,hR];exact z3) (by rw[y9,q.i0.1];exact z2)).2;rw[y6]at this;simp at this
   ·show jT u' bl v;cases rd;·right;rw[hW];exact .inr ⟨rfl,rfl,rfl⟩
    ·rw[a3 rfl];exact(q.bv c3 oG).kw E
   ·show(x j).d.last+1<=u'.4 (x j).d.ep;have t':=(h'.own Q U).t3;rw[upd_self]at t';have a2:A.d.seen=(x j).d.ep/\A.d.last=(x j).d.last+1:=by rw[hA];unfold Nd.operate;rw[if_neg (by simp[hh])];dsimp only;rw[if_pos rfl];unfold Nd.finish;split<;>simp[Nd.save,Du.step]
    rw[a2.1,a2.2]at t';rcases t' with t'|t';·have:=(c.1.t2 t.1).1;omega
    ·exact t'.2
 ·obtain⟨q1,z,z0,z1,z2⟩:=c.hik i hi;refine⟨?_,z,z0,z1,by rw[L];exact z2⟩;rw[E.R oG (Int.le_trans z2 (hK z z0 z1))];exact q1
 ·rw[L];rcases c.hiu i0 i1 with l|l;·exact .inl l
  ·exact .inr l
end
end AG
namespace AG
section
variable {n nb:Int} {x:Int->Nd} {sn:Ms->Prop} {g:Gh} {u:Gv} {k:Int} {lv:Int->Int} {ops:List As} {rs:List Rs} {hi:List Rc}
def CI.told{r:Rs}(c:CI n nb x sn g u lv ops rs hi k [r])(h0:0<=k)(h1:k<n){p:Nat}(M:p<ops.length)(s:ops[p].nd=k/\ops[p].lf=lv k/\ops[p].op=r.op):(ops[p].dn=false/\ops[p].bl=r.bl/\(ops[p].rd=false->ops[p].v=r.v)/\tY r.e r.q ops[p].e ops[p].q/\(r.v=0∨∃o∈ops,o.rd=false/\o.bl=r.bl/\o.v=r.v))/\CI n nb (upd x k {x k with res:=[]}) sn g u lv (ops.set p {ops[p] with dn:=true}) (rs++[r]) hi k []:=by
 rcases c.pen with H|⟨R,p1,p2,⟨o,o1,o2,o3,X,o5,o6,o7,o8⟩,p4,p5,p6,p7,p8⟩;·simp at H
 obtain rfl:r=R:=by simpa using p1
 have b:ops[p]=o:=by
  obtain⟨i,hi,h⟩:=List.mem_iff_getElem.1 o1;have j:=List.pairwise_iff_getElem.1 c.unq;rcases Nat.lt_trichotomy p i with B|B|B;·exact absurd ⟨by rw[s.1,h,o2],by rw[s.2.1,h,o3],by rw[s.2.2,h,X],by rw[s.2.2];exact p2⟩ (j p i M hi B)
  ·subst B;exact h
  ·exact absurd ⟨by rw[s.1,h,o2],by rw[s.2.1,h,o3],by rw[s.2.2,h,X],by rw[h,X];exact p2⟩ (j i p hi M B)
 refine⟨⟨by rw[b];exact o5,by rw[b];exact o6,by rw[b];exact o7,by rw[b];exact o8,p4.imp id c.qb⟩,?_⟩;have hI:Inv n nb (upd x k {x k with res:=[]}) sn g u:=c.1.oper rfl (λB=>by dsimp only at B;omega) (λ_=>p8);have f:∀i,(upd x k {x k with res:=[]} i).ops=(x i).ops/\(upd x k {x k with res:=[]} i).on=(x i).on/\(upd x k {x k with res:=[]} i).ow=(x i).ow/\(upd x k {x k with res:=[]} i).d=(x i).d:=by
  intro i;by_cases hi:i=k;·subst hi;rw[upd_self];exact⟨rfl,rfl,rfl,rfl⟩
  ·rw[upd_ne hi];exact⟨rfl,rfl,rfl,rfl⟩
 have W:∀z∈ops.set p {ops[p] with dn:=true},∃y∈ops,z.nd=y.nd/\z.lf=y.lf/\z.op=y.op:=by
  intro z a;rcases List.mem_or_eq_of_mem_set a with a|a;·exact⟨z,a,rfl,rfl,rfl⟩
  ·exact⟨ops[p],List.getElem_mem M,by rw[a],by rw[a],by rw[a]⟩
 have t:∀z∈ops,z∈ops.set p {ops[p] with dn:=true}∨z=ops[p]:=by
  intro z a;obtain⟨i,hi,h⟩:=List.mem_iff_getElem.1 a;by_cases E:i=p;·subst E;exact .inr h.symm
  ·refine .inl (List.mem_iff_getElem.2 ⟨i,by simpa using hi,?_⟩);rw[List.getElem_set_ne (Ne.symm E)];exact h
 refine⟨hI,λz a=>?_,λw A=>?_,?_,λ{i} w A hon=>?_,λR D=>?_,λhw=>?_,λ{i} w A=>?_,.inl rfl,c.hi0,λi hi=>?_,λw A=>?_⟩;·obtain⟨y,S,y2,y3,y4⟩:=W z a;rw[y2,y3,y4,(f _).1];exact c.num y S
 ·rw[(f _).1,(f _).2.1];exact c.oh w A
 ·have j:=List.pairwise_iff_getElem.1 c.unq;refine List.pairwise_iff_getElem.2 λi O hi l Q=>?_;have e:∀m (N:m<(ops.set p {ops[p] with dn:=true}).length),(ops.set p {ops[p] with dn:=true})[m].nd=(ops[m]'(by simpa using N)).nd/\(ops.set p {ops[p] with dn:=true})[m].lf=(ops[m]'(by simpa using N)).lf/\(ops.set p {ops[p] with dn:=true})[m].op=(ops[m]'(by simpa using N)).op:=by
   intro m N;by_cases L:m=p;·subst L;simp
   ·rw[List.getElem_set_ne (Ne.symm L)];exact⟨rfl,rfl,rfl⟩
  rw[(e i hi).1,(e i hi).2.1,(e i hi).2.2,(e O l).1,(e O l).2.1,(e O l).2.2];exact j i O (by simpa using hi) (by simpa using l) Q
 ·rw[(f i).2.1]at hon;obtain⟨z,U,C,K,F,z5,z6,z7,z8⟩:=c.lnk w A hon;have V:i≠k:=by intro H;rw[H,p8]at hon;omega
  have a:z∈ops.set p {ops[p] with dn:=true}:=(t z U).resolve_right (λH=>V (by rw[←C,H,s.1]));refine⟨z,a,C,K,by rw[(f i).2.1];exact F,z5,by rw[(f i).2.2.1];exact z6,by rw[(f i).2.2.1];exact z7,?_⟩;rw[(f i).2.2.1];refine z8.imp id (λ⟨y,e',d⟩=>⟨y,e',?_⟩);rw[(f i).2.2.1,(f i).2.2.2];exact d
 ·rcases List.mem_append.1 D with D|D;·exact c.og R D
  ·simp at D;subst D;exact⟨p5,p6⟩
 ·obtain⟨z,U,C,K,F⟩:=c.qb hw;rcases t z U with a|a;·exact⟨z,a,C,K,F⟩
  ·exact⟨_,List.mem_set M _,by rw[a]at C;exact C,by rw[a]at K;exact K,by rw[a]at F;exact F⟩
 ·by_cases hi:i=k;·subst hi;rw[upd_self];simp
  ·rw[upd_ne hi,c.res w A,if_neg hi,if_neg hi]
 ·obtain⟨q1,y,y0,S,y2⟩:=c.hik i hi;exact⟨q1,y,y0,S,by rw[(f y).2.2.2];exact y2⟩
 ·rw[(f _).2.2.2];exact c.hiu w A
def CI.seen{pend:List Rs}(c:CI n nb x sn g u lv ops rs hi k pend)(f:0<=k)(e:k<n)(m:(x k).d.ep=hi.length):CI n nb x sn g u lv ops rs (hi++[(x k).d.rc hi.length]) k pend:=by
 have q:=c.1.own f e;refine⟨c.1,c.num,c.oh,c.unq,c.lnk,c.og,c.qb,c.res,c.pen,sG,λi a=>?_,λh j=>?_⟩
 ·by_cases b:i<hi.length;·rw[List.getElem_append_left b];exact c.hik i b
  ·have:i=hi.length:=by simp at a;omega
   subst this;refine⟨?_,k,f,e,oG⟩;rw[List.getElem_append_right r_];simp only[Nat.sub_self,List.getElem_singleton];exact q.rr oG oG
 ·simp only[List.length_append,List.length_singleton];rcases c.hiu h j with l|l;·exact .inl oG
  ·exact .inl oG
def CI.same{pend:List Rs}(c:CI n nb x sn g u lv ops rs hi k pend){j:Int}(f:0<=j)(e:j<n){i:Nat}(a:i<hi.length)(b:(i:Int)<=(x j).d.ep):(x j).d.rc i=hi[i]:=by rw[(c.1.own f e).rr oG b];exact(c.hik i a).1.symm
def CI.follow{pend:List Rs}(c:CI n nb x sn g u lv ops rs hi k pend){j:Int}(h:0<=j)(f:j<n){e:Int}(a:0<=e)(b:e<(x j).d.ep):Fol ((x j).d.rc e) (e+1) ((x j).d.rc (e+1)).P ((x j).d.rc (e+1)).S/\((x j).d.rc (e+1)).E=e+1:=by have q:=c.1.own h f;rw[q.rr a oG,q.rr (i:=e+1) oG oG];exact⟨(c.1.known h f a b).1,(q.rf a b).1⟩
def CI.first(b:2<=n/\n<=5):CI n nb (λj=>Nd.first j n nb) (λ_=>False) Gh.none (Gv.none n) (λ_=>0) [] [] [⟨0,0,2 ^ n.toNat - 1⟩] 0 []:=by
 refine⟨Inv.first b,sG,λ_ _=>⟨Int.le_refl _,Int.le_refl _⟩,sG,λ_ _ h=>?_,sG,λh=>h.elim,λ_ _=>by simp[Nd.first],.inl rfl,sG,λi a=>?_,λ_ _=>.inl (by simp[Nd.first,Du.first,Du.ep])⟩;·simp[Nd.first]at h
 ·have:i=0:=by simp at a;omega
  subst this;exact⟨rfl,0,oG,oG,by simp[Nd.first,Du.first,Du.ep]⟩
end
end AG
namespace AG
section
variable {n nb:Int} {x:Int->Nd} {sn:Ms->Prop} {g:Gh} {u:Gv} {j:Int} {lv:Int->Int} {ops:List As} {rs:List Rs} {hi:List Rc} {k:Int} {pend:List Rs}
def Nd.swp(y:Nd)(l:List (Int×PV)):Nd:={y with d:={y.d with kv:=l}}
def vD{l:List (Int×PV)}(i:Int):∃a,(upd x j ((x j).swp l)) i=(x i).swp a/\((∀e,dJ l e=dJ (x j).d.3 e)->∀e,dJ a e=dJ (x i).d.3 e):=by
 by_cases h:i=j;·subst h;rw[upd_self];exact⟨l,rfl,id⟩
 ·rw[upd_ne h];exact⟨(x i).d.3,rfl,λ_ _=>rfl⟩
def Inv.swap(h:Inv n nb x sn g u){l:List (Int×PV)}(o:∀e,dJ l e=dJ (x j).d.3 e):Inv n nb (upd x j ((x j).swp l)) sn g u:=by
 have a:∀i,(upd x j ((x j).swp l) i).d.ep=(x i).d.ep/\(upd x j ((x j).swp l) i).d.seen=(x i).d.seen/\(upd x j ((x j).swp l) i).d.last=(x i).d.last:=by intro i;obtain⟨s,f,r⟩:=vD (x:=x) (j:=j) (l:=l) i;rw[f];exact⟨rfl,rfl,rfl⟩
 refine⟨h.nn,?_,λ{i} h0 f=>?_,h.r0,λt=>?_,h.at_,λy=>?_,λA=>?_⟩
 ·have e:(λi=>(upd x j ((x j).swp l) i).vo)=(λi=>(x i).vo):=by funext i;obtain⟨s,f,r⟩:=vD (x:=x) (j:=j) (l:=l) i;rw[f];have z:=r o;simp only[Nd.vo,Nd.swp,Du.ep,z]
  rw[e];exact h.vx
 ·obtain⟨s,C,D⟩:=vD (x:=x) (j:=j) (l:=l) i;rw[C];have q:=h.own h0 f;have o:=D o;refine⟨q.i0,q.k2,q.k3,q.rr,q.rf,q.gc,q.ap,q.t1,q.t3,q.bv,q.dn,q.o1,λv=>?_,q.p1,q.o2⟩;have:=q.pd v;unfold En at this⊢;simp only[Nd.swp,o];exact this
 ·obtain⟨a1,⟨i,c,k,b⟩,m⟩:=h.gr t;exact⟨a1,⟨i,c,k,by rw[(a i).1];exact b⟩,m⟩
 ·obtain⟨a1,i,c,k,b,m,p⟩:=h.t2 y;exact⟨a1,i,c,k,b,by rw[(a i).2.1];exact m,by rw[(a i).1];exact p⟩
 ·have q:=h.ms A;refine⟨q.s2,q.s3,q.s4,λB=>?_,q.s7,λw=>?_⟩;·obtain⟨a1,c,k,i,b,m,p⟩:=q.s6 B;exact⟨a1,c,k,i,b,m,by rw[(a i).1];exact p⟩
  ·have:=q.s8 w;rw[(a _).2.1,(a _).2.2];exact this
def CI.swap(c:CI n nb x sn g u lv ops rs hi k pend){l:List (Int×PV)}(p:∀e,dJ l e=dJ (x j).d.3 e):CI n nb (upd x j ((x j).swp l)) sn g u lv ops rs hi k pend:=by
 have a:∀i,(upd x j ((x j).swp l) i).d.ep=(x i).d.ep/\(upd x j ((x j).swp l) i).ops=(x i).ops/\(upd x j ((x j).swp l) i).on=(x i).on/\(upd x j ((x j).swp l) i).ow=(x i).ow/\(upd x j ((x j).swp l) i).res=(x i).res:=by intro i;obtain⟨t,b,s⟩:=vD (x:=x) (j:=j) (l:=l) i;rw[b];exact⟨rfl,rfl,rfl,rfl,rfl⟩
 refine⟨c.1.swap p,?_,λ{i} h0 b=>?_,c.unq,λ{i} h0 b=>?_,c.og,c.qb,λ{i} h0 b=>?_,?_,c.hi0,?_,λ{i} h0 b=>?_⟩;·intro o m;have:=c.num o m;rw[(a _).2.1];exact this
 ·rw[(a _).2.1,(a _).2.2.1];exact c.oh h0 b
 ·have:=c.lnk h0 b;unfold GF qP at this⊢;rw[(a _).2.2.1,(a _).2.2.2.1,(a _).1];exact this
 ·rw[(a _).2.2.2.2];exact c.res h0 b
 ·have:=c.pen;rw[(a _).2.1,(a _).2.2.1];exact this
 ·intro i f;obtain⟨a1,y,q,r,h⟩:=c.hik i f;exact⟨a1,y,q,r,by rw[(a _).1];exact h⟩
 ·rw[(a _).1];exact c.hiu h0 b
end
end AG
end Go.Proofs.YtdcainmlcpafbaaGreatDoor
