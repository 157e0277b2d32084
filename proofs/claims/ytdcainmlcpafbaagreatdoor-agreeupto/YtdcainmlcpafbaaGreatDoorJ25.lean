import Derived.Test.YtdcainmlcpafbaaGreatDoorJ24
set_option linter.all false
set_option maxRecDepth 20000
namespace Go.Proofs.YtdcainmlcpafbaaGreatDoor
namespace AG
abbrev Nd.qh (n:Nd) (m:Ms):Prop:=m.e=n.d.ep/\m.b=n.ba/\0<m.b
def Nd.promised(n:Nd)(m:Ms)(ok:Bool):Nd×List (Int×Ms):=
  if n.ph=2/\n.qh m/\(2,m.e,m.b,m.f)∉n.an then
    let n1:Nd:={n with fo:=if n.fo.wa<m.wa then m else n.fo,an:=n.an++[(2,m.e,m.b,m.f)]}
    if n.nodes<2*(n1.an.length:Int) then n1.gy ok else(n1,[])
  else(n,[])
def Nd.accepted(n:Nd)(m:Ms)(ok:Bool):Nd×List (Int×Ms):=
  if n.ph=3/\n.qh m/\(4,m.e,m.b,m.f)∉n.an then
    let n1:Nd:={n with an:=n.an++[(4,m.e,m.b,m.f)]}
    if n.nodes<2*(n1.an.length:Int) then n1.conclude ok else(n1,[])
  else(n,[])
def Nd.refused(n:Nd)(m:Ms):Nd:=
  if n.qh m then{n with rf:=max n.rf m.wa} else n
def Nd.all(n:Nd):Prop:=∀i,0<=i->i<5->bit (n.d.rc n.d.ep).S i->i≠n.id->i<n.nodes/\(8,n.ow.e,max 0 n.ow.q,i)∈n.oa
theorem P8:∀s:Fin 32,∀t:Fin 5,0<=bits BinOp.andNot IntKind.i64 (s.val:Int) (2 ^ t.val)/\bits BinOp.andNot IntKind.i64 (s.val:Int) (2 ^ t.val)<=31/\∀i:Fin 5,(bits BinOp.andNot IntKind.i64 (s.val:Int) (2 ^ t.val) / 2 ^ i.val%2=1↔(s.val:Int) / 2 ^ i.val%2=1/\i≠t):=by decide +kernel
theorem DY{s:Int}{t:Nat}(hs:0<=s/\s<=31)(e:t<5):(0<=bits BinOp.andNot IntKind.i64 s (2 ^ t)/\bits BinOp.andNot IntKind.i64 s (2 ^ t)<=31)/\∀i,0<=i->i<5->(bit (bits BinOp.andNot IntKind.i64 s (2 ^ t)) i↔bit s i/\i≠(t:Int)):=by
 have h:=P8 ⟨s.toNat,by omega⟩ ⟨t,e⟩;simp only[show((s.toNat:Nat):Int)=s by omega]at h;refine⟨⟨h.1,h.2.1⟩,fun i f g=>?_⟩;have d:=h.2.2 ⟨i.toNat,by omega⟩;unfold bit;rw[d];constructor;·rintro⟨a,b⟩;exact⟨a,fun c=>b (Fin.ext (by simp only;omega))⟩
 ·rintro⟨a,b⟩;exact⟨a,fun c=>b (by have:=congrArg Fin.val c;simp only at this;omega)⟩
theorem AR{S id e q:Int}{lo:List Ky}(hS:0<=S/\S<=31)(l:0<=id/\id<5):∀t:Nat,t<=5->(0<=gY S id e q lo t/\gY S id e q lo t<=31)/\∀i,0<=i->i<5->(bit (gY S id e q lo t) i↔bit S i/\i≠id/\¬(i<t/\((8:Int),e,max 0 q,i)∈lo))
 |0,_=>by
  have h:=DY hS (t:=id.toNat) (by omega);refine⟨h.1,fun i g j=>?_⟩;have m:=h.2 i g j;show bit (bits BinOp.andNot IntKind.i64 S (2 ^ id.toNat)) i↔_;rw[m];constructor;·rintro⟨a,b⟩;exact⟨a,by omega,fun f=>by omega⟩
  ·rintro⟨a,b,_⟩;exact⟨a,by omega⟩
 |t+1,ht=>by
  have ih:=AR hS l (e:=e) (q:=q) (lo:=lo) t (by omega);unfold gY;by_cases k:((8:Int),e,max 0 q,(t:Int))∈lo
  ·simp only[k,decide_true,cond_true];have h:=DY ih.1 (t:=t) (by omega);refine⟨h.1,fun i g j=>?_⟩;rw[h.2 i g j,ih.2 i g j];constructor;·rintro⟨⟨a,b,c⟩,d⟩;exact⟨a,b,fun f=>c ⟨by omega,f.2⟩⟩
   ·rintro⟨a,b,c⟩;exact⟨⟨a,b,fun f=>c ⟨by omega,f.2⟩⟩,fun f=>c ⟨by omega,by rw[f];exact k⟩⟩
  ·simp only[k,decide_false,cond_false];refine⟨ih.1,fun i g j=>?_⟩;rw[ih.2 i g j];constructor
   ·rintro⟨a,b,c⟩;refine⟨a,b,fun f=>?_⟩;by_cases hi:i=t;·rw[hi]at f;exact k f.2
    ·exact c ⟨by omega,f.2⟩
   ·rintro⟨a,b,c⟩;exact⟨a,b,fun f=>c ⟨by omega,f.2⟩⟩
theorem AS{n:Nd}(hS:0<=(n.d.rc n.d.ep).S/\(n.d.rc n.d.ep).S<=31)(a:0<=n.id/\n.id<5)(o:0<=n.nodes/\n.nodes<=5)(h:gY (n.d.rc n.d.ep).S n.id n.ow.e n.ow.q n.oa n.nodes.toNat=0):n.all:=by
 intro i c f m k;have b:=((AR hS a (e:=n.ow.e) (q:=n.ow.q) (lo:=n.oa) n.nodes.toNat (by omega)).2 i c f).2;rw[h]at b;have j:¬bit 0 i:=by unfold bit;simp
 apply Classical.byContradiction;intro l;exact j (b ⟨m,k,fun g=>l ⟨by omega,g.2⟩⟩)
def Nd.finish(n:Nd):Nd:=
  if gY (n.d.rc n.d.ep).S n.id n.ow.e n.ow.q n.oa n.nodes.toNat=0 then{n with res:=n.res++[⟨n.on,n.ow.bl,n.ow.v,n.ow.e,n.ow.q⟩],on:=0,ow:=.nil,oa:=[]} else n
def Nd.wrote(n:Nd)(m:Ms):Nd:=
  if 0<n.on/\m.e=n.ow.e/\m.q=n.ow.q then({n with oa:=if(8,m.e,max 0 m.q,m.f)∈n.oa then n.oa else n.oa++[(8,m.e,max 0 m.q,m.f)]}:Nd).finish else n
def Nd.copied(n:Nd)(m:Ms)(ok:Bool):Nd×List (Int×Ms):=
  if n.ph=1/\m.f=n.jo/\m.e=n.d.ep/\m.q=n.d.last then({n with ph:=2}:Nd).prepare ok else(n,[])
section
variable {n nb:Int} {x:Int->Nd} {sn:Ms->Prop} {g:Gh} {u:Gv} {j:Int}
theorem Inv.promised(h:Inv n nb x sn g u)(d:0<=j)(a:j<n){m:Ms}(r:m.k=2)(s:sn m)(ok:Bool):Call n nb x sn u j ((x j).promised m ok).1 ((x j).promised m ok).2 u.wr:=by
 have q:=h.own d a;unfold Nd.promised;split
 ·next c=>
  obtain⟨o,⟨p,c3,v⟩,t⟩:=c;have i:=h.count d a ((h.ms s).s2 r) p c3 v o t rfl;dsimp only;split
  ·next hq=>
   refine Call.trans (a1:={x j with fo:=if(x j).fo.wa<m.wa then m else(x j).fo,an:=(x j).an++[(2,m.e,m.b,m.f)]}) (Int.le_refl _) ?_;have l:=i.qf d a (by rw[upd_self];exact o) (by rw[upd_self];show 0<(x j).ba;omega) (by rw[upd_self];rw[q.i0.2.2.1]at hq;exact hq) ok;rw[upd_self]at l;exact l
  ·exact h.gu i (by simp) (by simp)
 ·exact Call.none h
theorem Inv.accepted(h:Inv n nb x sn g u)(d:0<=j)(a:j<n){m:Ms}(r:m.k=4)(s:sn m)(ok:Bool):Call n nb x sn u j ((x j).accepted m ok).1 ((x j).accepted m ok).2 u.wr:=by
 have q:=h.own d a;unfold Nd.accepted;split
 ·next c=>
  obtain⟨o,⟨p,c3,y⟩,w⟩:=c;obtain⟨v,t⟩:=(h.ms s).s4 r;have i:=h.tally d a t p c3 y o w rfl;dsimp only;split
  ·next hq=>
   refine Call.trans (a1:={x j with an:=(x j).an++[(4,m.e,m.b,m.f)]}) (Int.le_refl _) ?_;have l:=i.conclude d a (by rw[upd_self];exact o) (by rw[upd_self];show 0<(x j).ba;omega) (by rw[upd_self];rw[q.i0.2.2.1]at hq;exact hq) ok;rw[upd_self]at l;exact l
  ·exact h.gu i (by simp) (by simp)
 ·exact Call.none h
theorem Inv.note(h:Inv n nb x sn g u)(r:Int):Inv n nb (upd x j {x j with rf:=r}) sn g u:=by refine h.vol rfl (by rw[show({x j with rf:=r}:Nd).vo=(x j).vo from rfl,lC (fun i=>(x i).vo) j];exact h.vx) (fun b a=>?_);have q:=h.own b a;exact⟨q.i0,q.k2,q.k3,q.rr,q.rf,q.gc,q.ap,q.t1,q.t3,q.bv,q.dn,q.o1,q.pd,q.p1,q.o2⟩
theorem Inv.refused(h:Inv n nb x sn g u){m:Ms}:Call n nb x sn u j ((x j).refused m) [] u.wr:=by
 unfold Nd.refused;split;·exact h.gu (h.note _) (by simp) (by simp)
 ·exact Call.none h
theorem Inv.finish(h:Inv n nb x sn g u):Inv n nb (upd x j (x j).finish) sn g u:=by
 unfold Nd.finish;split;·exact h.oper rfl (fun a=>by simp at a) (fun _=>rfl)
 ·exact h.same
theorem Inv.wrote(h:Inv n nb x sn g u)(r:0<=j)(p:j<n){m:Ms}(i:m.k=8)(d:sn m):Call n nb x sn u j ((x j).wrote m) [] u.wr:=by
 unfold Nd.wrote;split
 ·next c=>
  have o:=h.oper (j:=j) (a:={x j with oa:=if(8,m.e,max 0 m.q,m.f)∈(x j).oa then(x j).oa else(x j).oa++[(8,m.e,max 0 m.q,m.f)]}) rfl (fun _=>⟨c.1,rfl,fun y hy=>?_⟩) (fun l=>by have:=((h.own r p).dn l).2.2;omega);·have b:=o.finish (j:=j);rw[upd_self,pY]at b;exact h.gu b (by simp) (by simp)
  ·dsimp only at hy;split at hy;·exact .inl hy
   ·rcases List.mem_append.1 hy with hy|hy;·exact .inl hy
    ·simp at hy;subst hy;exact .inr ⟨rfl,c.2.1,congrArg (max 0) c.2.2,m,d,i,rfl,c.2.1,c.2.2⟩
 ·exact Call.none h
theorem Inv.copied(h:Inv n nb x sn g u)(f:0<=j)(e:j<n){m:Ms}(ok:Bool):Call n nb x sn u j ((x j).copied m ok).1 ((x j).copied m ok).2 u.wr:=by
 have q:=h.own f e;unfold Nd.copied;split
 ·next c=>
  have a:=qB q c.1;have i:=q.p1 c.1;have b:=q.gc (by omega);refine h.prepare f e a (y:={x j with ph:=2}) ⟨rfl,rfl,rfl,rfl,rfl,rfl,rfl,rfl,rfl⟩ b ok (fun _=>?_);refine h.vol rfl (h.vx.idle rfl rfl rfl rfl i.1) (fun _ _=>?_);exact q.mr rfl ⟨rfl,rfl,rfl,rfl⟩ ⟨rfl,rfl,rfl⟩ rfl ⟨rfl,rfl,rfl⟩ a (fun _ d=>by dsimp only at d;omega) (fun d=>by simp at d) (fun _=>b) (fun _ _=>by simp) (by simp)
 ·exact Call.none h
end
def Nd.receive(n:Nd)(m:Ms)(ok:Bool):Nd×List (Int×Ms):=
  if n.down=true∨m.f=n.id∨n.nodes<=m.f then(n,[])
  else if m.k=1∨m.k=3 then n.rep m.f (n.jc m ok)
  else if m.k=2 then n.promised m ok
  else if m.k=4 then n.accepted m ok
  else if m.k=5 then(n.refused m,[])
  else if m.k=6 then((n.decided m ok).1,[])
  else if m.k=7∨m.k=9 then n.rep m.f (n.update m ok)
  else if m.k=8 then(n.wrote m,[])
  else if m.k=10 then n.copied m ok
  else(n,[])
section
variable {n nb:Int} {x:Int->Nd} {sn:Ms->Prop} {g:Gh} {u:Gv} {j:Int}
theorem Inv.receive(h:Inv n nb x sn g u)(c:0<=j)(a:j<n){m:Ms}(d:sn m)(f:0<=m.e)(ok:Bool):Call n nb x sn u j ((x j).receive m ok).1 ((x j).receive m ok).2 u.wr:=by
 unfold Nd.receive;split;·exact Call.none h
 next c0=>
 have b:(x j).down=false:=by
  cases hd:(x j).down;·rfl
  ·exact absurd (.inl hd) c0
 split;·next hk=>exact h.jc c a b hk d f ok
 split;·next hk=>exact h.promised c a hk d ok
 split;·next hk=>exact h.accepted c a hk d ok
 split;·exact h.refused
 split;·next hk=>exact h.decided c a b hk d ok
 split;·next hk=>exact h.update c a b hk d f ok
 split;·next hk=>exact h.wrote c a hk d
 split;·exact h.copied c a ok
 ·exact Call.none h
end
end AG
namespace AG
def Nd.dm(n:Nd)(set:Int)(ok:Bool):Nd×List (Int×Ms)×Int:=
  if n.down=true then(n,[],3)
  else if bits .andNot .i64 set (n.d.rc n.d.ep).S≠0∨folB (n.d.rc n.d.ep) (n.d.ep+1) (n.id+1) set=false∨1000000000000<n.dw 0 then(n,[],1)
  else if n.ph≠0 then(n,[],4)
  else
    let r:=({n with ph:=2,gP:=n.id+1,gS:=set,jo:=0,ba:=0,rf:=0,fo:=.nil,an:=[]}:Nd).prepare ok
    (r.1,r.2,if r.1.down=true then 3 else 0)
theorem KG:∀s:Fin 32,∀o:Fin 32,bits BinOp.andNot IntKind.i64 (s.val:Int) (o.val:Int)=0->∀i:Fin 5,(s.val:Int) / 2 ^ i.val%2=1->(o.val:Int) / 2 ^ i.val%2=1:=by decide +kernel
theorem GL{s o:Int}(hs:0<=s/\s<=31)(d:0<=o/\o<=31)(h:bits BinOp.andNot IntKind.i64 s o=0):sub s o:=by have a:=KG ⟨s.toNat,by omega⟩ ⟨o.toNat,by omega⟩;simp only[show((s.toNat:Nat):Int)=s by omega,show((o.toNat:Nat):Int)=o by omega]at a;exact fun i b c hi=>a h ⟨i.toNat,by omega⟩ hi
def Nd.missing(n:Nd):List Int:=
  ((List.range n.nodes.toNat).map Int.ofNat).filter (fun i=>fH (gY (n.d.rc n.d.ep).S n.id n.ow.e n.ow.q n.oa n.nodes.toNat) i.toNat)
def Nd.eu(n:Nd):Ms:={Ms.nil with k:=9,e:=n.d.ep,q:=n.d.last,zs:=(List.range n.nb.toNat).map (fun i:Nat=>n.d.bk i)}
def Nd.iw(n:Nd)(ok:Bool):Nd×List (Int×Ms):=
  if n.ph=0 then(n,n.tell {Ms.nil with k:=1,e:=n.d.ep} n.others)
  else if n.ph=1 then(n,n.tell n.eu [n.jo])
  else n.prepare ok
def Nd.iq(n:Nd)(ok:Bool):Nd×List (Int×Ms):=
  if n.down=true then(n,[])
  else((n.iw ok).1,(n.iw ok).2++if 0<(n.iw ok).1.on then(n.iw ok).1.tell (n.iw ok).1.ow (n.iw ok).1.missing else[])
def Nd.jv(n:Nd)(right:Bool):Int:=
  if n.down=true then 3 else if n.act=false then 5 else if right=false∨n.d.last=1000000000000 then 1 else if n.ph≠0∨0<n.on then 4 else 0
def Nd.adm(n:Nd)(node:Int):Bool:=decide (0<=node/\node<n.nodes)&&!fH (n.d.rc n.d.ep).S node.toNat
def Nd.admi(n:Nd)(node:Int)(ok:Bool):Nd×List (Int×Ms)×Int:=
  if n.jv (n.adm node)≠0 then(n,[],n.jv (n.adm node))
  else
    let m:Ms:={n.eu with q:=n.d.last+1}
    if ok=true then({n.save m true with ph:=1,jo:=node,gP:=(n.d.rc n.d.ep).P,gS:=(n.d.rc n.d.ep).S+2 ^ node.toNat,ba:=0,rf:=0,fo:=.nil,an:=[]},n.tell m [node],0)
    else(n.fall m,[],3)
def Nd.blk(n:Nd)(bl:Int):Bool:=decide (0<=bl)&&decide (bl<n.nb)
def Nd.operate(n:Nd)(bl v:Int)(ok:Bool):Nd×List (Int×Ms)×Int:=
  if n.jv (n.blk bl)≠0 then(n,[],n.jv (n.blk bl))
  else
    let m:Ms:={Ms.nil with k:=7,e:=n.d.ep,q:=n.d.last+1,bl:=bl,v:=v}
    if ok=true then
      let y:Nd:={n.save m true with ops:=n.ops+1,on:=n.ops+1,ow:=m,oa:=[]}
      (y.finish,y.tell m y.missing,0)
    else(n.fall m,[],3)
def Nd.fresh(n:Nd)(d:Du):Nd:={n.stand with d:=d,down:=false,ops:=0,res:=[],tr:=.nil}
section
variable {n nb:Int} {x:Int->Nd} {sn:Ms->Prop} {g:Gh} {u:Gv} {j:Int}
theorem Inv.dm(h:Inv n nb x sn g u)(e:0<=j)(c:j<n)(set:Int)(ok:Bool):Call n nb x sn u j ((x j).dm set ok).1 ((x j).dm set ok).2.1 u.wr:=by
 have q:=h.own e c;unfold Nd.dm;split;·exact Call.none h
 next c0=>
 split;·exact Call.none h
 next c1=>
 split;·exact Call.none h
 next c2=>
 have a:(x j).down=false:=by simpa using c0
 have i:=q.rr q.i0.2.2.2.2 (Int.le_refl _);have k:folB ((x j).d.rc (x j).d.ep) ((x j).d.ep+1) ((x j).id+1) set=true:=by
  cases hf:folB ((x j).d.rc (x j).d.ep) ((x j).d.ep+1) ((x j).id+1) set;·exact absurd (.inr (.inl hf)) c1
  ·rfl
 have f:Fol (u.R (x j).d.ep) ((x j).d.ep+1) ((x j).id+1) set:=by rw[←i];exact AQ k
 have m:sub set (u.R (x j).d.ep).S:=by
  obtain⟨_,_,_,_,_,s0,s1,_⟩:=f;have b:bits .andNot .i64 set (u.R (x j).d.ep).S=0:=by rw[←i];exact Classical.byContradiction fun l=>c1 (.inl l)
  exact GL ⟨by omega,s1⟩ (h.qp e c q.i0.2.2.2.2 (Int.le_refl _)) b
 refine h.prepare e c a (y:={x j with ph:=2,gP:=(x j).id+1,gS:=set,jo:=0,ba:=0,rf:=0,fo:=.nil,an:=[]}) ⟨rfl,rfl,rfl,rfl,rfl,rfl,rfl,rfl,rfl⟩ ⟨f,.inl m⟩ ok (fun b=>?_);exact absurd (.inr (.inr b)) c1
theorem Call.more{a:Nd}{out c:List (Int×Ms)}{W:Int->Int->Prop}(t:Call n nb x sn u j a out W)(q:∀{sn' e u'},Inv n nb (upd x j a) sn' e u'->∀z∈c,kM n (upd x j a) e u' z.2)(i:∀z∈c,z.2.k≠8):Call n nb x sn u j a (out++c) W:=by
 obtain⟨e,u',K,s,o,m,r,h,l⟩:=t;refine⟨e,u',K,s,o,m,r,?_,fun z b f=>(List.mem_append.1 b).elim (fun b=>l z b f) (fun b=>absurd f (i z b))⟩;have d:=h.says (q h);refine⟨d.nn,d.vx,fun g p=>(d.own g p).jy (fun hy=>?_) (.refl _) (.refl _ u') (Int.le_refl _) (fun _=>id) (fun _=>rfl),d.r0,d.gr,d.at_,d.t2,fun hy=>d.ms ?_⟩
 ·rcases hy with(hy|⟨z,b,hy⟩)|⟨z,b,hy⟩;·exact .inl hy
  ·exact .inr ⟨z,List.mem_append.2 (.inl b),hy⟩
  ·exact .inr ⟨z,List.mem_append.2 (.inr b),hy⟩
 ·rcases hy with hy|⟨z,b,hy⟩;·exact .inl (.inl hy)
  ·rcases List.mem_append.1 b with b|b;·exact .inl (.inr ⟨z,b,hy⟩)
   ·exact .inr ⟨z,b,hy⟩
theorem Inv.opmsg(h:Inv n nb x sn g u)(e:0<=j)(d:j<n)(b:0<(x j).on)(f:Int):kM n x g u {(x j).ow with f:=f}:=by
 have q:=h.own e d;obtain⟨i,m,c,l,_⟩:=q.o1 b;have t:=q.t1 i;have k:=q.o2 b;refine⟨fun a=>?_,fun a=>?_,fun a=>?_,fun a=>?_,fun _=>?_,fun a=>?_⟩;·dsimp only at a;omega
 ·dsimp only at a;omega
 ·dsimp only at a;omega
 ·dsimp only at a;omega
 ·dsimp only;rw[c];exact⟨t.1,by omega,fun _=>k,fun a=>by omega⟩
 ·dsimp only at a;omega
theorem Inv.pz(h:Inv n nb x sn g u)(k:0<=j)(e:j<n)(c:(x j).act=true)(f:Int):kM n x g u {(x j).eu with f:=f}:=by
 have q:=h.own k e;have t:=q.t1 c;refine⟨fun a=>?_,fun a=>?_,fun a=>?_,fun a=>?_,fun _=>⟨t.1,by show(x j).d.last<=u.mx (x j).d.ep;omega,fun a=>?_,fun _ i hi=>?_⟩,fun a=>?_⟩;·simp[Nd.eu]at a
 ·simp[Nd.eu]at a
 ·simp[Nd.eu]at a
 ·simp[Nd.eu]at a
 ·simp[Nd.eu]at a
 ·have b:i<(x j).nb.toNat:=by simpa[Nd.eu] using hi
  have l:({(x j).eu with f:=f}:Ms).zs.getD i 0=(x j).d.bk i:=by simp only[Nd.eu];rw[List.getD_eq_getElem?_getD,List.getElem?_map,List.getElem?_range b];rfl
  rw[l];exact q.bv (by omega) (by have:=q.i0.2.2.2.1;omega)
 ·simp[Nd.eu]at a
theorem Inv.iq(h:Inv n nb x sn g u)(c:0<=j)(b:j<n)(ok:Bool):Call n nb x sn u j ((x j).iq ok).1 ((x j).iq ok).2 u.wr:=by
 have q:=h.own c b;unfold Nd.iq;split;·exact Call.none h
 next c0=>
 have d:(x j).down=false:=by simpa using c0
 have f:Call n nb x sn u j ((x j).iw ok).1 ((x j).iw ok).2 u.wr:=by
  unfold Nd.iw;split;·exact h.gu h.same (jT fun i=>u4 (.inl rfl)) (jT fun i a=>by simp at a)
  next c1=>
  split
  ·next c2=>
   exact h.gu h.same (jT fun i=>by rw[lC];exact h.pz c b (q.p1 c2).2 _) (jT fun i a=>by simp[Nd.eu]at a)
  ·exact h.prepare c b d ⟨rfl,rfl,rfl,rfl,rfl,rfl,rfl,rfl,rfl⟩ (q.gc c1) ok (fun _=>h.same)
 refine f.more (fun{sn' k u'} e=>?_) ?_
 ·split;·next ho=>exact jT fun i=>by have:=e.opmsg c b (by rw[upd_self];exact ho) ((x j).iw ok).1.id;rw[upd_self]at this;exact this
  ·simp
 ·split
  ·next ho=>
   refine jT fun i a=>?_;obtain⟨k,u',K,_,_,_,_,e,_⟩:=f;have:=((e.own c b).o1 (by rw[upd_self];exact ho)).2.1;rw[upd_self]at this;dsimp only at a;omega
  ·simp
theorem Inv.rise(h:Inv n nb x sn g u)(B:0<=j)(L:j<n){m:Ms}(D:m.k=7∨m.k=9)(H:(x j).act=true)(p:m.e=(x j).d.ep)(Q:m.q=(x j).d.last+1){W:Int->Int->Prop}(s:∀{i v},u.wr i v->W i v)(M:m.k=7->m.v=0∨W m.bl m.v)(E:m.k=9->∀i:Nat,i<m.zs.length->m.zs.getD i 0=0∨W i (m.zs.getD i 0)):∃K,Kn n x K/\0<=K/\Grv K u {u with mx:=eC u.mx m.e m.q,wr:=W}/\Inv n nb (upd x j ((x j).fall m)) sn g {u with mx:=eC u.mx m.e m.q,wr:=W}:=by
 obtain⟨K,b,w⟩:=h.kn;have q:=h.own B L;have t:=q.t1 H;have o:Grv K u {u with mx:=eC u.mx m.e m.q,wr:=W}:=by
  refine⟨fun _ _=>rfl,id,id,fun{e} _=>?_,s⟩;show u.mx e<=eC u.mx m.e m.q e;unfold eC;split;·next l=>subst l;rw[p];omega
  ·exact Int.le_refl _
 have O:eC u.mx m.e m.q m.e=m.q:=by simp[eC]
 refine⟨K,w,b,o,h.go (.refl g) o w (Int.le_refl _) (.inr ⟨rfl,Int.le_refl _⟩) (h.vx.idle rfl rfl rfl rfl (Int.le_refl _)) id .inl (fun _ _=>?_) .inl .inl h.at_ (fun i y C N A=>⟨id,?_⟩) b⟩
 ·refine⟨q.i0,fun a=>?_,fun a=>?_,q.rr,q.rf,fun a=>absurd rfl a,fun a=>?_,fun a=>?_,?_,fun F z=>(q.bv F z).imp id s,fun _=>⟨rfl,rfl,rfl⟩,fun a=>?_,fun _=>?_,fun a=>?_,fun a=>?_⟩;·simp[Nd.fall,Nd.stand]at a
  ·simp[Nd.fall,Nd.stand]at a
  ·simp[Nd.fall,Nd.stand]at a
  ·simp[Nd.fall,Nd.stand]at a
  ·rcases q.t3 with c|c;·exact .inl c
   ·exact .inr ⟨c.1,Int.le_trans c.2 (o.mx c.1)⟩
  ·simp[Nd.fall,Nd.stand]at a
  ·refine .inr (.inr (.inr ⟨D,by show u.tk m.e;rw[p];exact t.1,?_,M,E,.inr ⟨?_,?_⟩⟩));·show m.q<=eC u.mx m.e m.q m.e;omega
   ·show(x j).d.seen=m.e;omega
   ·show(x j).d.last<=m.q;omega
  ·simp[Nd.fall,Nd.stand]at a
  ·simp[Nd.fall,Nd.stand]at a
 ·have r:=(h.own y C).t1 A;have f:(x i).d.ep≠m.e:=by intro l;rw[l,p,t.2.1]at r;omega
  show eC _ _ _ _=_;simp[eC,f]
theorem Inv.qm(h:Inv n nb x sn g u):Inv n nb (upd x j ((x j).fresh (x j).d)) sn g u:=h.idle rfl ⟨rfl,rfl,rfl⟩ rfl rfl rfl rfl (by simp[Nd.fresh])
theorem Inv.crash1(h:Inv n nb x sn g u)(l:0<=j)(m:j<n)(p:(x j).down=true):Call n nb x sn u j ((x j).fresh ((x j).d.step (x j).tr)) [] u.wr:=by
 have q:=(h.own l m).pd p;have c:=h.qm (j:=j);have hs:upd x j ((x j).fresh (x j).d) j=(x j).fresh (x j).d:=upd_self _ _ _;have t:∀{W},Call n nb (upd x j ((x j).fresh (x j).d)) sn u j ((x j).fresh ((x j).d.step (x j).tr)) [] W->Call n nb x sn u j ((x j).fresh ((x j).d.step (x j).tr)) [] W:=fun A=>Call.trans (a1:=(x j).fresh (x j).d) (Int.le_refl _) A;apply t;rcases q with⟨k,f,i⟩|⟨k,f,i,o⟩|⟨k,f,b,i⟩|⟨k,f,i,o,y,r⟩;·have e:=c.promise l m (by rw[hs];rfl) k (by rw[hs];exact f) (by rw[hs];exact i);rw[hs]at e;exact c.gu e (by simp) (by simp)
 ·have e:=c.accept l m (by rw[hs];rfl) k (by rw[hs];exact f) (by rw[hs];exact i) o;rw[hs]at e;exact c.gu e (by simp) (by simp)
 ·obtain⟨u',K,z,C,B,s,E,w,D⟩:=c.learn l m k (by rw[hs];exact f) i (a:=(x j).fresh ((x j).d.step (x j).tr)) (by rw[hs];rfl) (by rw[hs];exact⟨rfl,rfl,rfl⟩) (by intro v;simp[Nd.fresh,Nd.stand]at v) rfl rfl rfl rfl;rw[←w];exact Inv.call C B s z (by simp) (by simp)
 ·have e:=c.write l m k f i o y (by rw[hs];exact r) (a:=(x j).fresh ((x j).d.step (x j).tr)) (by rw[hs];rfl) (by rw[hs];exact⟨rfl,rfl,rfl⟩) rfl (Int.le_refl _) (.inl ⟨rfl,rfl⟩) rfl (.inl ⟨rfl,rfl⟩);exact c.gu e (by simp) (by simp)
end
end AG
namespace AG
theorem KH:∀s:Fin 32,∀k:Fin 5,¬((s.val:Int) / 2 ^ k.val%2=1)->(s.val:Int)+2 ^ k.val<=31/\∀i:Fin 5,(((s.val:Int)+2 ^ k.val) / 2 ^ i.val%2=1↔(s.val:Int) / 2 ^ i.val%2=1∨i=k):=by decide
theorem KI{S k:Int}(n:0<=S)(m:S<=31)(l:0<=k)(k1:k<5)(f:¬bit S k):S+2 ^ k.toNat<=31/\∀i,0<=i->i<5->(bit (S+2 ^ k.toNat) i↔bit S i∨i=k):=by
 have h:=KH ⟨S.toNat,by omega⟩ ⟨k.toNat,by omega⟩;have e:((S.toNat:Nat):Int)=S:=by omega
 simp only[e]at h;obtain⟨b,d⟩:=h f;refine⟨b,fun i g j=>?_⟩;have c:=d ⟨i.toNat,by omega⟩;unfold bit;rw[c];constructor
 ·rintro(a|a);·exact .inl a
  ·have:=congrArg Fin.val a;simp only at this;exact .inr (by omega)
 ·rintro(a|a);·exact .inl a
  ·exact .inr (by apply Fin.ext;simp only;omega)
section
variable {n nb:Int} {x:Int->Nd} {sn:Ms->Prop} {g:Gh} {u:Gv} {j:Int}
theorem wN{y:Nd}{r:Bool}(h:y.jv r=0):y.down=false/\y.act=true/\r=true/\y.d.last≠1000000000000/\y.ph=0/\y.on<=0:=by
 unfold Nd.jv at h;split at h;·omega
 next c0=>
 split at h;·omega
 next c1=>
 split at h;·omega
 next c2=>
 split at h;·omega
 next c3=>
 refine⟨by simpa using c0,by simpa using c1,by cases r;exact absurd (.inl rfl) c2;rfl,fun a=>c2 (.inr a),Classical.byContradiction fun a=>c3 (.inl a),?_⟩;apply Classical.byContradiction;intro a;exact c3 (.inr (by omega))
theorem Inv.admi(h:Inv n nb x sn g u)(l:0<=j)(o:j<n)(node:Int)(ok:Bool)(hE:(x j).d.ep<1000000000000):Call n nb x sn u j ((x j).admi node ok).1 ((x j).admi node ok).2.1 u.wr:=by
 have q:=h.own l o;unfold Nd.admi;split;·exact Call.none h
 next c0=>
 obtain⟨M,p,c,c6,c7,X⟩:=wN (Classical.byContradiction fun w=>c0 w);obtain⟨c3,c4,y⟩:0<=node/\node<(x j).nodes/\¬bit ((x j).d.rc (x j).d.ep).S node:=by unfold Nd.adm fH at c;simp only[Bool.and_eq_true,decide_eq_true_eq,Bool.not_eq_true',beq_eq_false_iff_ne]at c;exact⟨c.1.1,c.1.2,c.2⟩
 have t:=q.t1 p;have C:=q.rr q.i0.2.2.2.2 (Int.le_refl _);rw[C]at y;have Q:0<(x j).d.ep:=(h.t2 t.1).1;have kn:=(h.known l o (e:=(x j).d.ep - 1) (by omega) (by omega)).1;rw[show(x j).d.ep - 1+1=(x j).d.ep by omega]at kn;obtain⟨_,_,_,U,L,k6,H,F,_⟩:=kn;have hn:=h.nn;have D:=q.i0.2.2.1;obtain⟨E,B⟩:=KI (k:=node) (by omega) H c3 (by omega) y;have v:∀i:Nat,i<(x j).eu.zs.length->jF u i ((x j).eu.zs.getD i 0):=by have:=h.pz l o p 0;exact fun i hi=>(this.s7 (.inr rfl)).2.2.2 rfl i hi
 dsimp only;split
 ·have r:=h.raise (j:=j) l o (m:={(x j).eu with q:=(x j).d.last+1}) (.inr rfl) t.1 t.2.1 t.2.2.1 rfl (.inl p) (W:=u.wr) id (fun b=>by simp[Nd.eu]at b) (fun _=>v) (A:=True) (a:={(x j).save {(x j).eu with q:=(x j).d.last+1} true with ph:=1,jo:=node,gP:=((x j).d.rc (x j).d.ep).P,gS:=((x j).d.rc (x j).d.ep).S+2 ^ node.toNat,ba:=0,rf:=0,fo:=.nil,an:=[]}) rfl ⟨rfl,rfl,rfl⟩ (fun _=>⟨p,rfl⟩) (fun b=>by dsimp only[Nd.save]at b;omega) (.inl (Int.le_refl _)) (.inr rfl) (fun _=>.inl rfl) (fun _=>.inl rfl) (fun _=>⟨rfl,?_,.inr (.inr trivial)⟩) M (fun _=>p) (fun b=>by simp[Nd.eu]at b)
  ·obtain⟨K,f,s⟩:=h.kn;refine Inv.call s f (u':={u with mx:=eC u.mx (x j).d.ep ((x j).d.last+1),wr:=u.wr,ad:=fun e=>u.ad e∨(True/\e=(x j).d.ep)}) ⟨fun _ _=>rfl,id,.inl,fun{e} _=>?_,id⟩ r (jT fun i=>?_) (jT fun i N=>by simp[Nd.eu]at N)
   ·show u.mx e<=eC u.mx (x j).d.ep ((x j).d.last+1) e;unfold eC;split;·next w=>subst w;omega
    ·exact Int.le_refl _
   ·refine⟨fun b=>?_,fun b=>?_,fun b=>?_,fun b=>?_,fun _=>⟨t.1,?_,fun b=>?_,fun _=>v⟩,fun b=>?_⟩;·simp[Nd.eu]at b
    ·simp[Nd.eu]at b
    ·simp[Nd.eu]at b
    ·simp[Nd.eu]at b
    ·show(x j).d.last+1<=eC u.mx (x j).d.ep ((x j).d.last+1) (x j).d.ep;simp[eC]
    ·simp[Nd.eu]at b
    ·simp[Nd.eu]at b
  ·show Fol (u.R (x j).d.ep) ((x j).d.ep+1) ((x j).d.rc (x j).d.ep).P (((x j).d.rc (x j).d.ep).S+2 ^ node.toNat);rw[C];have V:=h.recE l o q.i0.2.2.2.2 (Int.le_refl _);have z:(0:Int)<2 ^ node.toNat:=Int.pow_pos (by omega);refine⟨by omega,by omega,by omega,U,L,by omega,E,(B _ (by omega) (by omega)).2 (.inl F),.inr ⟨rfl,node,c3,by omega,y,B⟩⟩
 ·obtain⟨K,s,f,O,r⟩:=h.rise l o (m:={(x j).eu with q:=(x j).d.last+1}) (.inr rfl) p rfl rfl (W:=u.wr) id (fun b=>by simp[Nd.eu]at b) (fun _=>v);exact Inv.call (u':={u with mx:=eC u.mx (x j).d.ep ((x j).d.last+1),wr:=u.wr}) s f O r (by simp) (by simp)
theorem Inv.operate(h:Inv n nb x sn g u)(r:0<=j)(z:j<n)(bl v:Int)(ok:Bool){W:Int->Int->Prop}(s:∀{i v},u.wr i v->W i v)(w:v=0∨W bl v)(o:(x j).jv ((x j).blk bl)=0):Call n nb x sn u j ((x j).operate bl v ok).1 ((x j).operate bl v ok).2.1 W:=by
 have q:=h.own r z;unfold Nd.operate;rw[if_neg (by simp[o])];obtain⟨F,c,l,L,y,H⟩:=wN o;obtain⟨c3,M⟩:0<=bl/\bl<(x j).nb:=by unfold Nd.blk at l;simpa using l
 have t:=q.t1 c;dsimp only;split
 ·have p:=h.raise (j:=j) r z (m:={Ms.nil with k:=7,e:=(x j).d.ep,q:=(x j).d.last+1,bl:=bl,v:=v}) (.inl rfl) t.1 t.2.1 t.2.2.1 rfl (.inl c) (W:=W) s (fun _=>w) (fun b=>by simp at b) (A:=False) (a:={(x j).save {Ms.nil with k:=7,e:=(x j).d.ep,q:=(x j).d.last+1,bl:=bl,v:=v} true with ops:=(x j).ops+1,on:=(x j).ops+1,ow:={Ms.nil with k:=7,e:=(x j).d.ep,q:=(x j).d.last+1,bl:=bl,v:=v},oa:=[]}) rfl ⟨rfl,rfl,rfl⟩ (fun _=>⟨c,rfl⟩) (fun _=>⟨c,rfl,rfl,rfl⟩) (.inr ⟨y,by simp[Nd.vo,Nd.save,Du.step,Du.ep]⟩) (.inl y) (fun b=>b.elim) (fun b=>absurd y (q.ap c b)) (fun b=>by dsimp only[Nd.save]at b;omega) F (fun _=>c) (fun _=>c3);have C:=p.finish (j:=j);rw[upd_self,pY]at C;obtain⟨K,f,B⟩:=h.kn;refine Inv.call B f (u':={u with mx:=eC u.mx (x j).d.ep ((x j).d.last+1),wr:=W,ad:=fun e=>u.ad e∨(False/\e=(x j).d.ep)}) ⟨fun _ _=>rfl,id,.inl,fun{e} _=>?_,s⟩ C (jT fun i=>?_) (jT fun i D=>by simp at D)
  ·show u.mx e<=eC u.mx (x j).d.ep ((x j).d.last+1) e;unfold eC;split;·next o=>subst o;omega
   ·exact Int.le_refl _
  ·refine⟨fun b=>?_,fun b=>?_,fun b=>?_,fun b=>?_,fun _=>⟨t.1,?_,fun _=>⟨c3,w⟩,fun b=>?_⟩,fun b=>?_⟩;·simp at b
   ·simp at b
   ·simp at b
   ·simp at b
   ·show(x j).d.last+1<=eC u.mx (x j).d.ep ((x j).d.last+1) (x j).d.ep;simp[eC]
   ·simp at b
   ·simp at b
 ·obtain⟨K,B,f,E,p⟩:=h.rise r z (m:={Ms.nil with k:=7,e:=(x j).d.ep,q:=(x j).d.last+1,bl:=bl,v:=v}) (.inl rfl) c rfl rfl (W:=W) s (fun _=>w) (fun b=>by simp at b);exact Inv.call B f E p (by simp) (by simp)
end
end AG
namespace AG
def Du.first(id n:Int):Du:={id:=id,recs:=[⟨0,0,2 ^ n.toNat - 1⟩],di:=[],bk:=fun _=>0,seen:=0,last:=0}
def Nd.first(id n nb:Int):Nd:={id:=id,nodes:=n,nb:=nb,d:=Du.first id n,down:=false,act:=false,ph:=0,gP:=0,gS:=0,jo:=0,ba:=0,rf:=0,fo:=.nil,an:=[],on:=0,ow:=.nil,oa:=[],ops:=0,res:=[],tr:=.nil}
def Gh.none:Gh:={acc:=fun _ _ _ _=>False,jl:=fun _ _ _=>False,jg:=fun _ _ _ _ _=>False}
def Gv.none(n:Int):Gv:={R:=fun _=>⟨0,0,2 ^ n.toNat - 1⟩,tk:=fun _=>False,ad:=fun _=>False,mx:=fun _=>0,wr:=fun _ _=>False}
theorem Inv.first{n nb:Int}(a:2<=n/\n<=5):Inv n nb (fun j=>Nd.first j n nb) (fun _=>False) Gh.none (Gv.none n):=by
 refine⟨a,?_,fun{j} h0 h1=>?_,rfl,fun h=>h.elim,fun h=>h.elim,fun h=>h.elim,fun h=>h.elim⟩
 ·refine{a1:=fun h=>h.elim,a2:=fun h=>h.elim,a3:=fun h=>h.elim,a4:=fun h=>h.elim,a5:=fun h=>h.elim,a6:=fun h=>h.elim,n1:=fun h=>h.elim,n2:=fun _ _ _ h=>?_,lm:=fun _ _ _=>?_,n3:=fun h=>h.elim,n4:=fun h=>h.elim,n5:=fun _ _ h=>?_,n6:=fun _ _ _ _ h=>h,n7:=fun _ _ h=>?_,n8:=fun _ _ h=>?_,r1:=fun h=>h.elim,r2:=fun h=>h.elim};·simp[Nd.vo,Nd.first,Du.first,dG]at h
  ·simp[Nd.vo,Nd.first,Du.first,dG]
  ·simp[Nd.vo,Nd.first]at h
  ·simp[Nd.vo,Nd.first]at h
  ·simp[Nd.vo,Nd.first]at h
 ·refine⟨⟨rfl,rfl,rfl,rfl,by simp[Nd.first,Du.first,Du.ep]⟩,fun h=>?_,fun h=>?_,fun{i} q0 q1=>?_,fun{e} q0 q1=>?_,fun h=>absurd rfl h,fun h=>?_,fun h=>?_,.inl ⟨rfl,rfl⟩,fun _ _=>.inl rfl,fun h=>?_,fun h=>?_,fun h=>?_,fun h=>?_,fun h=>?_⟩;·simp[Nd.first]at h
  ·simp[Nd.first]at h
  ·have:i=0:=by simp[Nd.first,Du.first,Du.ep]at q1;omega
   subst this;rfl
  ·simp[Nd.first,Du.first,Du.ep]at q1;omega
  ·simp[Nd.first]at h
  ·simp[Nd.first]at h
  ·simp[Nd.first]at h
  ·simp[Nd.first]at h
  ·simp[Nd.first]at h
  ·simp[Nd.first]at h
  ·simp[Nd.first]at h
section
variable {n nb:Int} {x:Int->Nd} {sn:Ms->Prop} {g:Gh} {u:Gv} {j:Int}
theorem Inv.shrinks(h:Inv n nb x sn g u){i:Int}(b:0<=i)(j:i<n){e:Int}(a:0<=e):∀(k:Nat),e+k<=(x i).d.ep->(∀f,e<=f->f<e+k->¬u.ad f)->sub (u.R (e+k)).S (u.R e).S
 |0,_,_=>by rw[show e+((0:Nat):Int)=e by omega];exact fun _ _ _ o=>o
 |k+1,hk,ha=>by have q:=h.shrinks b j a k (by omega) (fun f p r=>ha f p (by omega));have m:=(h.known b j (e:=e+k) (by omega) (by omega)).2.resolve_right (ha _ (by omega) (by omega));rw[show e+((k+1:Nat):Int)=e+k+1 by omega];exact fun y l c hy=>q y l c (m y l c hy)
theorem Inv.behind(h:Inv n nb x sn g u)(b:0<=j)(l:j<n)(s:(x j).act=true)(o:(x j).ph=0):∀(k:Nat) {e:Int},u.tk e->e<=(x j).d.ep+k->(x j).d.ep<e->∃y m,0<=y/\y<n/\y≠j/\bit (u.R (x j).d.ep).S y/\u.tk m/\(x j).d.ep<m/\(u.R m).P=y+1
 |0,e,_,h3,h4=>by omega
 |k+1,e,ht,h3,h4=>by
  by_cases t:∃f,(x j).d.ep<f/\f<e/\u.tk f;·obtain⟨f,r,B,A⟩:=t;exact h.behind b l s o k A (by omega) r
  ·obtain⟨_,y,a,c,v,F,E⟩:=h.t2 ht;have w:=(h.own b l).i0.2.2.2.2;have hs:=h.shrinks a c w (e - (x j).d.ep).toNat (by omega) (fun f r B p=>?_);·rw[show(x j).d.ep+(((e - (x j).d.ep).toNat:Nat):Int)=e by omega]at hs;have kn:=(h.known a c (e:=e - 1) (by omega) (by omega)).1;rw[show e - 1+1=e by omega,v]at kn;obtain⟨_,_,_,K,H,C,D,q,_⟩:=kn;refine⟨y,e,a,c,fun z=>?_,hs y a (by have:=h.nn;omega) (by rw[show y+1 - 1=y by omega]at q;exact q),ht,h4,v⟩;subst z;omega
   ·by_cases i:f=(x j).d.ep;·subst i;exact(h.own b l).ap s p o
    ·exact t ⟨f,by omega,by omega,h.at_ p⟩
end
end AG
namespace AG
structure Opk(y a:Nd):Prop where
  ops:a.ops=y.ops
  res:a.res=y.res
  on:a.on=0∨(a.on=y.on/\a.ow=y.ow)
  ep:a.d.ep=y.d.ep∨(a.d.ep=y.d.ep+1/\a.on=0)
theorem Opk.refl(y:Nd):Opk y y:=⟨rfl,rfl,.inr ⟨rfl,rfl⟩,.inl rfl⟩
theorem Opk.trans{x y z:Nd}(h:Opk x y)(h':Opk y z)(c:y.d.ep=x.d.ep):Opk x z:=by
 refine⟨h'.ops.trans h.ops,h'.res.trans h.res,?_,by rw[←c];exact h'.ep⟩;rcases h'.on with a|⟨a,e⟩;·exact .inl a
 ·rcases h.on with b|⟨b,f⟩;·exact .inl (a.trans b)
  ·exact .inr ⟨a.trans b,e.trans f⟩
theorem Opk.fall(y:Nd)(m:Ms):Opk y (y.fall m):=⟨rfl,rfl,.inl rfl,.inl rfl⟩
theorem step_ep(d:Du){m:Ms}(a:m.k≠6):(d.step m).ep=d.ep:=by
 unfold Du.step;split;·rfl
 ·split;·rfl
  ·split<;>rfl
theorem Opk.save(y:Nd){m:Ms}(a:m.k≠6):Opk y (y.save m true):=⟨rfl,rfl,.inr ⟨rfl,rfl⟩,.inl (step_ep y.d a)⟩
theorem Opk.jc(y:Nd){m:Ms}(a:m.k=1∨m.k=3)(ok:Bool):Opk y (y.jc m ok).1:=by
 unfold Nd.jc;split;·exact .refl y
 split;·exact .refl y
 dsimp only;split;·exact .refl y
 split;·exact .save y (by omega)
 ·exact .fall y m
theorem Opk.decided(y:Nd){m:Ms}(a:m.k=6)(ok:Bool):Opk y (y.decided m ok).1:=by
 unfold Nd.decided;split
 ·split;·refine⟨rfl,rfl,.inl rfl,.inr ⟨?_,rfl⟩⟩;show(y.d.step m).ep=y.d.ep+1;simp[Du.step,a,Du.learn,Du.ep]
  ·exact .fall y m
 ·exact .refl y
theorem Opk.update(y:Nd){m:Ms}(a:m.k=7∨m.k=9)(ok:Bool):Opk y (y.update m ok).1:=by
 unfold Nd.update;split;·exact .refl y
 split;·exact .refl y
 dsimp only;split;·exact .refl y
 split
 ·dsimp only;split;·exact .save y (by omega)
  ·exact⟨rfl,rfl,.inl rfl,.inl (step_ep y.d (by omega))⟩
 ·exact .fall y m
theorem Opk.mr(y:Nd){a:Nd}(h:a={y with ph:=a.ph,gP:=a.gP,gS:=a.gS,jo:=a.jo,ba:=a.ba,rf:=a.rf,fo:=a.fo,an:=a.an}):Opk y a:=by rw[h];exact⟨rfl,rfl,.inr ⟨rfl,rfl⟩,.inl rfl⟩
theorem BW(y:Nd){m:Ms}(a:m.k=1∨m.k=3)(ok:Bool):(y.jc m ok).1.d.ep=y.d.ep:=by
 have h:=(Opk.jc y a ok).ep;rcases h with h|⟨h,_⟩;·exact h
 ·exfalso;unfold Nd.jc at h;split at h;·simp at h;omega
  split at h;·simp at h;omega
  dsimp only at h;split at h;·simp at h;omega
  split at h;·have:=step_ep y.d (m:=m) (by omega);simp only[Nd.save]at h;omega
  ·simp[Nd.fall,Nd.stand]at h;omega
theorem Opk.prepare(y:Nd)(ok:Bool):Opk y (y.prepare ok).1:=by
 unfold Nd.prepare;dsimp only;split;·exact .refl y
 have h:=Opk.jc y (m:={Ms.nil with k:=1,e:=y.d.ep,b:=y.dw y.rf}) (.inl rfl) ok;split;·exact h
 ·exact h.trans (.mr _ rfl) (BW y (.inl rfl) ok)
theorem Opk.gy(y:Nd)(ok:Bool):Opk y (y.gy ok).1:=by
 unfold Nd.gy;dsimp only;have c:Opk y (if 0<y.fo.wa then{y with gP:=y.fo.p,gS:=y.fo.s} else y):=by
  split;·exact .mr y rfl
  ·exact .refl y
 have a:(if 0<y.fo.wa then{y with gP:=y.fo.p,gS:=y.fo.s} else y).d=y.d:=by split<;>rfl
 generalize (if 0<y.fo.wa then{y with gP:=y.fo.p,gS:=y.fo.s} else y)=z at*;have h:=Opk.jc z (m:={Ms.nil with k:=3,e:=z.d.ep,b:=z.ba,p:=z.gP,s:=z.gS}) (.inr rfl) ok;split;·exact c.trans h (by rw[a])
 ·exact c.trans (h.trans (.mr _ rfl) (BW z (.inr rfl) ok)) (by rw[a])
theorem Opk.conclude(y:Nd)(ok:Bool):Opk y (y.conclude ok).1:=by unfold Nd.conclude;exact(Opk.mr y (a:={y with ph:=0,gP:=0,gS:=0,jo:=0,ba:=0,rf:=0,fo:=.nil,an:=[]}) rfl).trans (.decided _ rfl ok) rfl
theorem Opk.promised(y:Nd)(m:Ms)(ok:Bool):Opk y (y.promised m ok).1:=by
 unfold Nd.promised;split
 ·dsimp only;split;·exact(Opk.mr y rfl).trans (.gy _ ok) rfl
  ·exact .mr y rfl
 ·exact .refl y
theorem Opk.accepted(y:Nd)(m:Ms)(ok:Bool):Opk y (y.accepted m ok).1:=by
 unfold Nd.accepted;split
 ·dsimp only;split;·exact(Opk.mr y rfl).trans (.conclude _ ok) rfl
  ·exact .mr y rfl
 ·exact .refl y
theorem Opk.refused(y:Nd)(m:Ms):Opk y (y.refused m):=by
 unfold Nd.refused;split;·exact .mr y rfl
 ·exact .refl y
theorem Opk.copied(y:Nd)(m:Ms)(ok:Bool):Opk y (y.copied m ok).1:=by
 unfold Nd.copied;split;·exact(Opk.mr y rfl).trans (.prepare _ ok) rfl
 ·exact .refl y
theorem Opk.dm(y:Nd)(set:Int)(ok:Bool):Opk y (y.dm set ok).1:=by
 unfold Nd.dm;split;·exact .refl y
 split;·exact .refl y
 split;·exact .refl y
 exact(Opk.mr y rfl).trans (.prepare _ ok) rfl
theorem Opk.iq(y:Nd)(ok:Bool):Opk y (y.iq ok).1:=by
 unfold Nd.iq;split;·exact .refl y
 unfold Nd.iw;dsimp only;split;·exact .refl y
 split;·exact .refl y
 ·exact .prepare y ok
theorem Opk.admi(y:Nd)(node:Int)(ok:Bool):Opk y (y.admi node ok).1:=by
 unfold Nd.admi;split;·exact .refl y
 dsimp only;split;·exact(Opk.save y (m:={y.eu with q:=y.d.last+1}) (by simp[Nd.eu])).trans (.mr _ rfl) (step_ep y.d (by simp[Nd.eu]))
 ·exact .fall y _
theorem KJ(y:Nd)(m:Ms)(hS:0<=(y.d.rc y.d.ep).S/\(y.d.rc y.d.ep).S<=31)(k:0<=y.id/\y.id<5)(h:0<=y.nodes/\y.nodes<=5):Opk y (y.wrote m)∨(0<y.on/\m.e=y.ow.e/\m.q=y.ow.q/\(y.wrote m).ops=y.ops/\(y.wrote m).d=y.d/\(y.wrote m).on=0/\(y.wrote m).res=y.res++[⟨y.on,y.ow.bl,y.ow.v,y.ow.e,y.ow.q⟩]/\∀i,0<=i->i<5->bit (y.d.rc y.d.ep).S i->i≠y.id->i<y.nodes/\((8,y.ow.e,max 0 y.ow.q,i)∈y.oa∨i=m.f))∨(0<y.on/\(y.wrote m).on=y.on/\(y.wrote m).ow=y.ow/\(y.wrote m).ops=y.ops/\(y.wrote m).res=y.res/\(y.wrote m).d=y.d):=by
 have a:y.wrote m=(if 0<y.on/\m.e=y.ow.e/\m.q=y.ow.q then({y with oa:=if(8,m.e,max 0 m.q,m.f)∈y.oa then y.oa else y.oa++[(8,m.e,max 0 m.q,m.f)]}:Nd).finish else y):=rfl;by_cases c:0<y.on/\m.e=y.ow.e/\m.q=y.ow.q
 ·rw[if_pos c]at a;obtain⟨o,p⟩:∃o,o=(if(8,m.e,max 0 m.q,m.f)∈y.oa then y.oa else y.oa++[(8,m.e,max 0 m.q,m.f)]):=⟨_,rfl⟩;rw[←p]at a;unfold Nd.finish at a;by_cases j:gY (({y with oa:=o}:Nd).d.rc ({y with oa:=o}:Nd).d.ep).S ({y with oa:=o}:Nd).id ({y with oa:=o}:Nd).ow.e ({y with oa:=o}:Nd).ow.q ({y with oa:=o}:Nd).oa ({y with oa:=o}:Nd).nodes.toNat=0
  ·rw[if_pos j]at a;rw[a];refine .inr (.inl ⟨c.1,c.2.1,c.2.2,rfl,rfl,rfl,rfl,fun i r s u t=>?_⟩);have l:=(AS (n:={y with oa:=o}) hS k h j) i r s u t;refine⟨l.1,?_⟩;have b:(8,y.ow.e,max 0 y.ow.q,i)∈o:=l.2;rw[p]at b;split at b;·exact .inl b
   ·rcases List.mem_append.1 b with g|g;·exact .inl g
    ·simp at g;exact .inr g.2.2
  ·rw[if_neg j]at a;rw[a];exact .inr (.inr ⟨c.1,rfl,rfl,rfl,rfl,rfl⟩)
 ·rw[if_neg c]at a;rw[a];exact .inl (.refl y)
end AG
namespace AG
structure As where
  nd:Int
  lf:Int
  op:Int
  bl:Int
  v:Int
  rd:Bool
  dn:Bool
  e:Int
  q:Int
def sL(e s f t:Int):Prop:=f<e∨f=e/\t<s
def pH(n:Int)(x:Int->Nd)(sn:Ms->Prop)(u:Gv)(j:Int):Prop:=∃y e',0<=y/\y<n/\y≠j/\bit (u.R (x j).d.ep).S y/\u.tk e'/\(x j).d.ep<e'/\(u.R e').P=y+1/\∀m,sn m->m.k=8->m.f=y->¬(m.e=(x j).ow.e/\m.q=(x j).ow.q)
def DZ(n:Int)(x:Int->Nd)(sn:Ms->Prop)(u:Gv)(lv:Int->Int)(ops:List As)(j:Int):Prop:=
  0<(x j).on->∃o∈ops,o.nd=j/\o.lf=lv j/\o.op=(x j).on/\o.dn=false/\o.bl=(x j).ow.bl/\(o.rd=false->o.v=(x j).ow.v)/\(sL (x j).ow.e (x j).ow.q o.e o.q∨pH n x sn u j)
structure CI(n nb:Int)(x:Int->Nd)(sn:Ms->Prop)(g:Gh)(u:Gv)(lv:Int->Int)(ops:List As)(rs:List Rs)(hi:List Rc)(k:Int)(pend:List Rs):Prop where
  inv:Inv n nb x sn g u
  num:∀o∈ops,0<=o.op/\o.lf<=lv o.nd/\(o.lf=lv o.nd->o.op<=(x o.nd).ops)
  og:∀{j},0<=j->j<n->0<=(x j).ops/\(x j).on<=(x j).ops
  unq:ops.Pairwise (fun a b=>¬(a.nd=b.nd/\a.lf=b.lf/\a.op=b.op/\0<a.op))
  lnk:∀{j},0<=j->j<n->DZ n x sn u lv ops j
  ny:∀r∈rs,u.tk r.e/\r.q<=u.mx r.e
  qg:∀{i v},u.wr i v->∃o∈ops,o.rd=false/\o.bl=i/\o.v=v
  res:∀{j},0<=j->j<n->(x j).res=if j=k then pend else[]
  pen:pend=[]∨∃r,pend=[r]/\0<r.op/\(∃o∈ops,o.nd=k/\o.lf=lv k/\o.op=r.op/\o.dn=false/\o.bl=r.bl/\(o.rd=false->o.v=r.v)/\sL r.e r.q o.e o.q)/\jF u r.bl r.v/\u.tk r.e/\r.q<=u.mx r.e/\r.op<=(x k).ops/\(x k).on=0
  hi0:0<hi.length
  hik:∀i (h:i<hi.length),hi[i]=u.R i/\∃y,0<=y/\y<n/\(i:Int)<=(x y).d.ep
  hiu:∀{j},0<=j->j<n->(x j).d.ep<hi.length∨(j=k/\(x j).d.ep=hi.length)
section
variable {n nb:Int} {x:Int->Nd} {sn:Ms->Prop} {g:Gh} {u:Gv} {j:Int} {lv:Int->Int} {ops:List As} {rs:List Rs} {hi:List Rc}
theorem pH.on{a:Nd}{sn':Ms->Prop}{N:Gh}{u':Gv}{K i:Int}(h:Inv n nb x sn g u)(h':Inv n nb (upd x j a) sn' N u')(t:Kn n x K)(c:Grv K u u')(W:∀m,sn' m->m.k=8->sn m∨(m.f=j/\m.e=a.d.seen))(o:0<=i)(r:i<n)(U:0<(upd x j a i).on)(b:(upd x j a i).d.ep=(x i).d.ep)(l:(upd x j a i).ow=(x i).ow)(A:pH n x sn u i):pH n (upd x j a) sn' u' i:=by
 obtain⟨y,L,y0,D,y2,F,p,O,v,C⟩:=A;have Q:=(h.own o r).i0.2.2.2.2;obtain⟨_,z,X,H,z2,z3,z4⟩:=h.t2 p;have hz:=t z X H;have hi:=t i o r;refine⟨y,L,y0,D,y2,by rw[b,c.R Q hi];exact F,c.tk p,by rw[b];exact O,by rw[c.R (by omega) (by omega)];exact v,fun m hm s S=>?_⟩;rw[l];rcases W m hm s with w|⟨h8,w⟩;·exact C m w s S
 ·have B:y=j:=by omega
  obtain⟨_,q,q0,q1,q2,M,q4⟩:=h'.t2 (c.tk p);rw[c.R (by omega) (by omega),v]at q2;have E:q=j:=by omega
  rw[E,upd_self]at M;have V:=((h'.own o r).o1 U).2.2.1;rw[l,b]at V;rintro⟨h6,_⟩;omega
theorem CI.call{a:Nd}{out:List (Int×Ms)}(c:CI n nb x sn g u lv ops rs hi j [])(h0:0<=j)(h1:j<n)(A:(x j).d.ep<hi.length){W:Int->Int->Prop}(hc:Call n nb x sn u j a out W)(hw:∀{i v},W i v->∃o∈ops,o.rd=false/\o.bl=i/\o.v=v)(D:a.ops=(x j).ops)(w:a.on=0∨(a.on=(x j).on/\a.ow=(x j).ow))(p:a.d.ep=(x j).d.ep∨(a.d.ep=(x j).d.ep+1/\a.on=0)){pend:List Rs}(t:a.res=pend)(C:pend=[]∨∃r,pend=[r]/\0<r.op/\(∃o∈ops,o.nd=j/\o.lf=lv j/\o.op=r.op/\o.dn=false/\o.bl=r.bl/\(o.rd=false->o.v=r.v)/\sL r.e r.q o.e o.q)/\jF u r.bl r.v/\u.tk r.e/\r.q<=u.mx r.e/\r.op<=(x j).ops/\a.on=0):∃B u',CI n nb (upd x j a) (fun y=>sn y∨∃z∈out,y=z.2) B u' lv ops rs hi j pend:=by
 obtain⟨B,u',K,L,a0,s,hW,h',h8⟩:=hc;have hn:∀m,(sn m∨∃z∈out,m=z.2)->m.k=8->sn m∨(m.f=j/\m.e=a.d.seen):=by
  rintro m (hm|⟨z,hz,rfl⟩) hk;·exact .inl hm
  ·exact .inr (h8 z hz hk)
 have l:∀i,(upd x j a i).ops=(x i).ops:=by
  intro i;by_cases hi:i=j;·subst hi;rw[upd_self];exact D
  ·rw[upd_ne hi]
 have E:∀i,(x i).d.ep<=(upd x j a i).d.ep:=by
  intro i;by_cases hi:i=j;·subst hi;rw[upd_self];rcases p with h|h<;>omega
  ·rw[upd_ne hi];exact Int.le_refl _
 refine⟨B,u',⟨h',fun o oo=>by rw[l];exact c.num o oo,fun{i} i0 i1=>?_,c.unq,fun{i} i0 i1 hon=>?_,fun r t=>⟨s.tk (c.ny r t).1,Int.le_trans (c.ny r t).2 (s.mx (c.ny r t).1)⟩,fun h=>hw (by rw[hW]at h;exact h),fun{i} i0 i1=>?_,?_,c.hi0,fun i hi=>?_,fun{i} i0 i1=>?_⟩⟩
 ·rw[l];refine⟨(c.og i0 i1).1,?_⟩;by_cases hi:i=j
  ·subst hi;rw[upd_self];rcases w with h|h;·rw[h];exact(c.og i0 i1).1
   ·rw[h.1];exact(c.og i0 i1).2
  ·rw[upd_ne hi];exact(c.og i0 i1).2
 ·have b:(upd x j a i).on=(x i).on/\(upd x j a i).ow=(x i).ow/\(upd x j a i).d.ep=(x i).d.ep:=by
   by_cases hi:i=j
   ·subst hi;rw[upd_self]at hon⊢;rcases w with h|h;·omega
    ·refine⟨h.1,h.2,?_⟩;rcases p with M|M;·exact M
     ·omega
   ·rw[upd_ne hi];exact⟨rfl,rfl,rfl⟩
  obtain⟨o,o1,o2,o3,o4,o5,V,o7,o8⟩:=c.lnk i0 i1 (by rw[b.1]at hon;exact hon);refine⟨o,o1,o2,o3,by rw[b.1];exact o4,o5,by rw[b.2.1];exact V,by rw[b.2.1];exact o7,?_⟩;rw[b.2.1];exact o8.imp id (fun Q=>Q.on c.inv h' L s hn i0 i1 hon b.2.2 b.2.1)
 ·have h:=c.res i0 i1;by_cases hi:i=j;·subst hi;rw[upd_self,if_pos rfl];exact t
  ·rw[upd_ne hi,if_neg hi];rw[if_neg hi]at h;exact h
 ·rcases C with C|⟨r,p1,p2,S,U,F,X,p7,p8⟩;·exact .inl C
  ·exact .inr ⟨r,p1,p2,S,U.jy s,s.tk F,Int.le_trans X (s.mx F),by rw[l];exact p7,by rw[upd_self];exact p8⟩
 ·obtain⟨q1,y,N,H,O⟩:=c.hik i hi;refine⟨?_,y,N,H,Int.le_trans O (E y)⟩;rw[s.R (by omega) (Int.le_trans O (L y N H))];exact q1
 ·by_cases hi:i=j
  ·subst hi;rw[upd_self];rcases p with h|h;·rw[h];exact .inl A
   ·rw[h.1];omega
  ·rw[upd_ne hi];rcases c.hiu i0 i1 with h|h;·exact .inl h
   ·exact absurd h.1 hi
theorem CI.opk{a:Nd}{out:List (Int×Ms)}(c:CI n nb x sn g u lv ops rs hi j [])(h:0<=j)(f:j<n)(e:(x j).d.ep<hi.length)(k:Call n nb x sn u j a out u.wr)(b:Opk (x j) a):∃i u',CI n nb (upd x j a) (fun y=>sn y∨∃z∈out,y=z.2) i u' lv ops rs hi j []:=c.call h f e k c.qg b.ops b.on b.ep (by rw[b.res,c.res h f,if_pos rfl]) (.inl rfl)
theorem CI.wrote(c:CI n nb x sn g u lv ops rs hi j [])(a:0<=j)(b:j<n)(h:(x j).d.ep<hi.length){m:Ms}(A:m.k=8)(C:sn m):∃i u' pend,CI n nb (upd x j ((x j).wrote m)) (fun y=>sn y∨∃z∈([]:List (Int×Ms)),y=z.2) i u' lv ops rs hi j pend:=by
 have v:=c.inv.wrote a b A C;have W:=c.inv.nn;have r:=(c.inv.own a b).i0;rcases KJ (x j) m (by rw[(c.inv.own a b).rr r.2.2.2.2 (Int.le_refl _)];exact c.inv.qp a b r.2.2.2.2 (Int.le_refl _)) (by omega) (by omega) with h9|⟨w1,w2,w3,w4,w5,w6,w7,w8⟩|⟨w1,w2,w3,w4,w5,w6⟩;·obtain⟨i,u',p⟩:=c.opk a b h v h9;exact⟨i,u',[],p⟩
 ·have q:=c.inv.own a b;obtain⟨N,o2,B,o4,K⟩:=q.o1 w1;have t:=q.t1 N;obtain⟨o,V,l2,M,O,F,l6,Q,L⟩:=c.lnk a b w1;have f:=c.res a b;rw[if_pos rfl]at f;rw[f,List.nil_append]at w7;have X:=q.rr q.i0.2.2.2.2 (Int.le_refl _);have s:¬pH n x sn u j:=by
   rintro⟨y,e',U,y1,y2,H,y4,y5,y6,w⟩;have hn:=c.inv.nn;obtain⟨_,l⟩:=w8 y U (by omega) (by rw[X];exact H) (by rw[q.i0.1];exact y2);rcases l with l|l;·obtain⟨_,_,_,S,m1,D,E,m4,R⟩:=K _ l;exact w S m1 D E ⟨m4,R⟩
   ·exact w m C A l.symm ⟨w2,w3⟩
  obtain⟨i,u',p⟩:=c.call a b h v c.qg w4 (.inl w6) (.inl (by rw[w5])) w7 (.inr ⟨_,rfl,w1,⟨o,V,l2,M,O,F,l6,Q,L.resolve_right s⟩,(q.o2 w1).2,by show u.tk (x j).ow.e;rw[B];exact t.1,by show(x j).ow.q<=u.mx (x j).ow.e;rw[B];omega,(c.og a b).2,w6⟩);exact⟨i,u',_,p⟩
 ·obtain⟨i,u',p⟩:=c.call a b h v c.qg w4 (.inr ⟨w2,w3⟩) (.inl (by rw[w6])) (pend:=[]) (by rw[w5,c.res a b,if_pos rfl]) (.inl rfl);exact⟨i,u',[],p⟩
end
end AG
end Go.Proofs.YtdcainmlcpafbaaGreatDoor
