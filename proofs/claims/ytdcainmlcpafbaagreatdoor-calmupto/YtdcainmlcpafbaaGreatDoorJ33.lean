import Derived.Test.YtdcainmlcpafbaaGreatDoorJ32
import Derived.Test.YtdcainmlcpafbaaGreatDoorJ35
set_option linter.all false
set_option maxHeartbeats 4000000
set_option maxRecDepth 20000
namespace Go.Proofs.YtdcainmlcpafbaaGreatDoor
section
open Go.RowKit
def QE:∀a:Fin 32,∀b:Fin 32,(∀i:Fin 5,(b.val:Int) / 2 ^ i.val%2=1->(a.val:Int) / 2 ^ i.val%2=1)->iF (a.val:Int) (b.val:Int) 5=0:=by decide +kernel
def OQ:∀a:Fin 32,∀b:Fin 32,∀j:Fin 5,¬((a.val:Int) / 2 ^ j.val%2=1)->(∀i:Fin 5,((b.val:Int) / 2 ^ i.val%2=1↔(a.val:Int) / 2 ^ i.val%2=1∨i=j))->iF (a.val:Int) (b.val:Int) 5=1/\iF (b.val:Int) (a.val:Int) 5=0:=by decide +kernel
def OR{a:eM}{E P S:Int}(hS:0<=a.S/\a.S<=31)(h:AG.Fol a E P S):sD a ⟨E,P,S⟩=true:=by
 obtain⟨r,v,p,u,s,s0,s1,g,hs⟩:=h;have f:((S.toNat:Nat):Int)=S:=oG;have e:((a.S.toNat:Nat):Int)=a.S:=oG;have n:eU S (P - 1).toNat=true:=by unfold eU;rw[beq_iff_eq];exact g
 unfold sD;show(eU S (P - 1).toNat&&((E==a.E+1)&&((iF a.S S 5==0)||((iF a.S S 5==1)&&((iF S a.S 5==0)&&(a.P==P))))))=true;rw[n,show(E==a.E+1)=true by simpa using p,Bool.true_and,Bool.true_and];rcases hs with hs|⟨q,j,w,t,o,l⟩
 ·have d:=QE ⟨a.S.toNat,oG⟩ ⟨S.toNat,oG⟩;simp only[f,e]at d;rw[d (λi hi=>by have b:=hs (i.val:Int) oG (by have:=i.isLt;omega);unfold AG.bit at b;rw[Int.toNat_natCast]at b;exact b hi)]
  rfl
 ·have d:=OQ ⟨a.S.toNat,oG⟩ ⟨S.toNat,oG⟩ ⟨j.toNat,oG⟩;simp only[f,e]at d;obtain⟨k,m⟩:=d o (λi=>by
   have b:=l (i.val:Int) oG (by have:=i.isLt;omega);unfold AG.bit at b;rw[Int.toNat_natCast]at b;rw[b];constructor
   ·rintro(c|c);·exact .inl c
    ·exact .inr (Fin.ext (by simp only;omega))
   ·rintro(c|c);·exact .inl c
    ·have:=congrArg Fin.val c;simp only at this;exact .inr oG)
  rw[k,m,show(a.P==P)=true by simp[q]];rfl
end
namespace AG
def tell_len(n:Nd)(m:Ms)(l:List Int):(n.tell m l).length=l.length:=by unfold Nd.tell;rw[List.length_map]
def tK(n:Nd):n.others.length<=n.2.toNat:=by unfold Nd.others;refine Nat.le_trans (List.length_filter_le _ _) ?_;rw[List.length_map,List.length_range];exact Nat.le_refl _
def miss_len(n:Nd):n.missing.length<=n.2.toNat:=by unfold Nd.missing;refine Nat.le_trans (List.length_filter_le _ _) ?_;rw[List.length_map,List.length_range];exact Nat.le_refl _
def wI(n:Nd)(ok:Bool):(n.fu ok).2.length<=n.2.toNat:=by
 unfold Nd.fu;dsimp only;split;·exact Nat.zero_le _
 split;·exact Nat.zero_le _
 ·rw[tell_len];exact tK n
def IW(n:Nd)(ok:Bool):(n.gy ok).2.length<=n.2.toNat:=by
 unfold Nd.gy;dsimp only;split
 ·split;·exact Nat.zero_le _
  ·rw[tell_len];exact tK _
 ·split;·exact Nat.zero_le _
  ·rw[tell_len];exact tK _
def H9(n:Nd)(ok:Bool):(n.conclude ok).2.length<=n.2.toNat:=by
 unfold Nd.conclude;dsimp only;split;·rw[tell_len];exact tK n
 ·exact Nat.zero_le _
def EH(n:Nd)(t:Int)(r:Nd×Ms):(n.ku t r).2.length<=1:=by
 unfold Nd.ku;dsimp only;split;·exact Nat.zero_le _
 ·exact Nat.le_refl _
def receive_len(n:Nd)(m:Ms)(ok:Bool):(n.receive m ok).2.length<=n.2.toNat+1:=by
 unfold Nd.receive;split;·exact Nat.zero_le _
 split;·exact Nat.le_trans (EH _ _ _) oG
 split
 ·unfold Nd.promised;split
  ·dsimp only;split;·exact Nat.le_trans (IW _ _) (by dsimp only;omega)
   ·exact Nat.zero_le _
  ·exact Nat.zero_le _
 split
 ·unfold Nd.accepted;split
  ·dsimp only;split;·exact Nat.le_trans (H9 _ _) (by dsimp only;omega)
   ·exact Nat.zero_le _
  ·exact Nat.zero_le _
 split;·exact Nat.zero_le _
 split;·exact Nat.zero_le _
 split;·exact Nat.le_trans (EH _ _ _) oG
 split;·exact Nat.zero_le _
 split
 ·unfold Nd.copied;split;·exact Nat.le_trans (wI _ _) (by dsimp only;omega)
  ·exact Nat.zero_le _
 ·exact Nat.zero_le _
def promote_len(n:Nd)(set:Int)(ok:Bool):(n.eu set ok).2.1.length<=n.2.toNat:=by
 unfold Nd.eu;split;·exact Nat.zero_le _
 split;·exact Nat.zero_le _
 split;·exact Nat.zero_le _
 ·exact wI _ _
def admit_len(n:Nd)(k:Int)(ok:Bool):(n.admi k ok).2.1.length<=1:=by
 unfold Nd.admi;split;·exact Nat.zero_le _
 ·dsimp only;split;·dsimp only;rw[tell_len];exact Nat.le_refl _
  ·exact Nat.zero_le _
def operate_len(n:Nd)(bl v:Int)(ok:Bool):(n.operate bl v ok).2.1.length<=n.2.toNat:=by
 unfold Nd.operate;split;·exact Nat.zero_le _
 ·dsimp only;split;·dsimp only;rw[tell_len];exact Nat.le_trans (miss_len _) (by cases ok<;>exact Nat.le_refl _)
  ·exact Nat.zero_le _
def pursue_len(n:Nd)(ok:Bool):(n.ic ok).2.length<=n.2.toNat+1:=by
 unfold Nd.ic;split;·dsimp only;rw[tell_len];exact Nat.le_trans (tK n) oG
 split;·dsimp only;rw[tell_len];simp
 ·exact Nat.le_trans (wI n ok) oG
end AG
section
open Go.RowKit
def CS.xf(s:CS)(j:Int):AG.Nd:=if 0<=j then s.nd j.toNat else AG.Nd.first 0 0 0
def CS.lf(s:CS)(j:Int):Int:=if 0<=j then s.3.getD j.toNat 0 else 0
def eE(s:CS)(k:Nat):s.xf (k:Int)=s.nd k:=by unfold CS.xf;rw[if_pos (Int.natCast_nonneg k),Int.toNat_natCast]
def rM(s:CS)(k:Nat):s.lf (k:Int)=s.3.getD k 0:=by unfold CS.lf;rw[if_pos (Int.natCast_nonneg k),Int.toNat_natCast]
def pL{s s':CS}{k:Nat}{n':AG.Nd}(b:k<s.ns.length)(h:s'.ns=s.ns.set k n'):s'.xf=AG.upd s.xf (k:Int) n':=by
 funext j;by_cases a:j=(k:Int);·subst a;rw[eE,AG.upd_self];unfold CS.nd;rw[h,List.getD_eq_getElem?_getD,List.getElem?_set_self b];rfl
 ·rw[AG.upd_ne a];unfold CS.xf;split;·unfold CS.nd;rw[h,List.getD_eq_getElem?_getD,List.getElem?_set_ne oG,List.getD_eq_getElem?_getD]
  ·rfl
structure Gd(s:CS)(n:Nat)(sn:AG.Ms->Prop)(g:AG.Gh)(u:AG.Gv)(k:Nat)(pend:List dO)(N:Nat):Prop where
 ci:AG.CI (n:Int) s.nb s.xf sn g u s.lf s.ops s.rs s.hi (k:Int) pend
 ns:s.ns.length=n
 kn:∀j,j<n->s.kn.getD j 0<=((s.nd j).d.recs.length:Int)
 bd:s.ops.length<=N/\s.rs.length<=N/\s.rd.length<=N/\s.hi.length<=N/\s.4.length<=N
 nt:∀z∈s.4,sn z.2
 bi:AG.BI (n:Int) s.xf sn u.R (10*(N:Int))
def Q9{s:CS}{n:Nat}{sn:AG.Ms->Prop}{g:AG.Gh}{u:AG.Gv}{k N:Nat}{pend:List dO}(h:Gd s n sn g u k pend N)(V:k<n)(hN:N<=2000000000):pX s k:=by
 have a4:=h.bd;have c:=h.1;have j:(0:Int)<=(k:Int):=Int.natCast_nonneg k;have l:(k:Int)<(n:Int):=oG;have a:=eE s k;have w:=rM s k;have f:=c.res j l;simp only[a,if_true]at f;have a3:(s.nd k).d.ep=((s.nd k).d.recs.length:Int) - 1:=rfl;have hE:0<=(s.nd k).d.ep:=by have:=(c.1.own j l).i0.2.2.2.2;simp only[a]at this;exact this
 have D:=c.hiu j l;simp only[a]at D;have m:∀i (hi:i<(s.nd k).d.recs.length),(s.nd k).d.rc (i:Int)=(s.nd k).d.recs[i]:=by intro i hi;unfold AG.Du.rc;rw[Int.toNat_natCast,List.getD_eq_getElem?_getD,List.getElem?_eq_getElem hi];rfl
 have t:∀i (hi:i<(s.nd k).d.recs.length),(0<=(s.nd k).d.recs[i].S/\(s.nd k).d.recs[i].S<=31)/\(s.nd k).d.recs[i].E=(i:Int):=by intro i hi;have o:=(c.1.own j l).rr (i:=(i:Int)) oG (by simp only[a];omega);simp only[a]at o;rw[m i hi]at o;have v:=c.1.mr j l (e:=(i:Int)) oG (by simp only[a];omega);have F:=c.1.qa j l (e:=(i:Int)) oG (by simp only[a];omega);rw[o];exact⟨v,F⟩
 have x:∀i (hi:i+1<(s.nd k).d.recs.length),AG.Fol (s.nd k).d.recs[i] ((i:Int)+1) (s.nd k).d.recs[i+1].P (s.nd k).d.recs[i+1].S:=by intro i hi;have b:=(c.follow j l (e:=(i:Int)) oG (by simp only[a];omega)).1;simp only[a]at b;have K:=m (i+1) hi;rw[show(((i+1:Nat)):Int)=(i:Int)+1 by omega]at K;rw[m i oG,K]at b;exact b
 refine⟨?_,h.kn k V,oG,c.hi0,λi a1 a2=>?_,λa1=>?_,λi a1=>?_,oG⟩
 ·rcases c.pen with H|⟨r,H,a0,⟨o,ho,o1,X,o3,_⟩,_⟩;·exact .inl (f.trans H)
  ·right;have q:(s.ops.findIdx? (mQ k (s.3.getD k 0) r.op)).isSome=true:=by
    rw[List.findIdx?_isSome,List.any_eq_true];refine⟨o,ho,?_⟩;have C:o.lf=s.3.getD k 0:=by rw[X];exact w
    unfold mQ;rw[o1,C,o3];simp
   obtain⟨p,z⟩:=Option.isSome_iff_exists.1 q;obtain⟨A,m1,m2⟩:=List.findIdx?_eq_some_iff_getElem.1 z;subst H;unfold mQ at m1;simp only[Bool.and_eq_true,beq_iff_eq]at m1;obtain⟨⟨t1,M,O,R,t5⟩,_⟩:=c.told j l A ⟨m1.1,by rw[w];exact m1.2.1,m1.2.2⟩;refine⟨r,p,f,z,A,⟨t1,?_,M.symm,λb=>(O b).symm⟩,λ_=>t5.imp id ?_⟩
   ·rcases R with b|⟨b,B⟩;·simp[b]
    ·simp[b,B]
   ·rintro⟨W,Q,b2,U,b4⟩;exact⟨W,Q,by unfold p9;rw[b2,U,b4];simp⟩
 ·have b:=c.same j l a2 (by simp only[a];omega);simp only[a]at b;unfold AG.Du.rc at b;rw[Int.toNat_natCast,List.getD_eq_getElem?_getD,List.getElem?_eq_getElem a1]at b;exact b
 ·have hl:=c.hi0;have b:=x (s.hi.length-1) oG;have v:=t (s.hi.length-1) oG;have B:=OR v.1 b;have F:(⟨((s.hi.length-1:Nat):Int)+1,(s.nd k).d.recs[s.hi.length-1+1].P,(s.nd k).d.recs[s.hi.length-1+1].S⟩:eM)=(s.nd k).d.recs[s.hi.length]:=by have e3:=(t s.hi.length a1).2;have e4:s.hi.length-1+1=s.hi.length:=oG;simp only[e4];rw[show((s.hi.length-1:Nat):Int)+1=(s.hi.length:Int) by omega,←e3]
  rw[F]at B;exact B
 ·have v:=t i a1;refine⟨v.1,by rw[v.2];omega,λL=>?_⟩;obtain⟨i',rfl⟩:∃y,i=y+1:=⟨i-1,oG⟩;have b:=x i' a1;exact⟨b.2.2.2.1,b.2.2.2.2.1⟩
def AG.CI.free{n nb:Int}{x:Int->AG.Nd}{sn:AG.Ms->Prop}{g:AG.Gh}{u:AG.Gv}{lv:Int->Int}{ops:List AG.As}{rs:List dO}{hi:List eM}{k:Int}(c:AG.CI n nb x sn g u lv ops rs hi k [])(a:∀j,0<=j->j<n->(x j).d.ep<hi.length)(h:Int):AG.CI n nb x sn g u lv ops rs hi h []:=⟨c.1,c.num,c.oh,c.unq,c.lnk,c.og,c.qb,λe b=>by have f:=c.res e b;simp only[ite_self]at f⊢;exact f,.inl rfl,c.hi0,c.hik,λ{j} e b=>.inl (a j e b)⟩
def AG.mq{α:Type}(x:Int->α)(k:Int)(a:α)(h:a=x k):AG.upd x k a=x:=by
 funext j;by_cases b:j=k;·subst b;rw[AG.upd_self];exact h
 ·rw[AG.upd_ne b]
def tL(s:CS)(i:Nat):(s.tell i).nb=s.nb/\(s.tell i).3=s.3/\(s.tell i).4=s.4/\(s.tell i).ops.length=s.ops.length/\(s.tell i).rs.length<=s.rs.length+1/\(s.tell i).rd.length<=s.rd.length+1:=by
 unfold CS.tell;split;·exact⟨rfl,rfl,rfl,rfl,oG,oG⟩
 ·split;·exact⟨rfl,rfl,rfl,rfl,oG,oG⟩
  ·exact⟨rfl,rfl,rfl,sG,sG,sG⟩
section
variable {s:CS} {n:Nat} {sn:AG.Ms->Prop} {g:AG.Gh} {u:AG.Gv} {k N:Nat} {pend:List dO}
def OS(h:Gd s n sn g u k pend N)(E:k<n):AG.CI (n:Int) s.nb (AG.upd s.xf (k:Int) {s.nd k with res:=[]}) sn g u s.lf (s.tell k).ops (s.tell k).rs s.hi (k:Int) []:=by
 have c:=h.1;have t:(0:Int)<=(k:Int):=Int.natCast_nonneg k;have v:(k:Int)<(n:Int):=oG;have d:=eE s k;have i:=rM s k;have a:=c.res t v;simp only[d,if_true]at a;rcases c.pen with l|⟨r,l,x,⟨o,w,D,B,z,_⟩,_⟩
 ·subst l;have e:s.tell k=s:=by unfold CS.tell;rw[a]
  rw[e,AG.mq];·exact c
  ·rw[d];have q:∀y:AG.Nd,y.res=[]->({y with res:=[]}:AG.Nd)=y:=by intro y hy;cases y;dsimp only at hy;subst hy;rfl
   exact q _ a
 ·subst l;have b:(s.ops.findIdx? (mQ k (s.3.getD k 0) r.op)).isSome=true:=by
   rw[List.findIdx?_isSome,List.any_eq_true];refine⟨o,w,?_⟩;have m:o.lf=s.3.getD k 0:=by rw[B];exact i
   unfold mQ;rw[D,m,z];simp
  obtain⟨p,f⟩:=Option.isSome_iff_exists.1 b;obtain⟨j,m1,m2⟩:=List.findIdx?_eq_some_iff_getElem.1 f;unfold mQ at m1;simp only[Bool.and_eq_true,beq_iff_eq]at m1;have q:=(c.told t v j ⟨m1.1,by rw[i];exact m1.2.1,m1.2.2⟩).2;have A:(s.tell k).ops=s.ops.set p {s.ops[p] with dn:=true}:=by unfold CS.tell;rw[a];simp only[f];rw[List.getD_eq_getElem?_getD,List.getElem?_eq_getElem j];rfl
  have C:(s.tell k).rs=s.rs++[r]:=by unfold CS.tell;rw[a];simp only[f]
  rw[A,C,←d];exact q
def OT(h:Gd s n sn g u k pend N)(C:k<n)(H:Nat):Gd (s.look k) n sn g u H [] (N+1):=by
 have c:=h.1;have w:(0:Int)<=(k:Int):=Int.natCast_nonneg k;have y:(k:Int)<(n:Int):=oG;have b:=eE s k;have p:=tL s k;have i:(s.look k).xf=AG.upd s.xf (k:Int) {s.nd k with res:=[]}:=pL (by rw[h.ns];exact C) rfl;have v:(s.look k).lf=s.lf:=by funext j;unfold CS.lf;show(if 0<=j then(s.tell k).3.getD j.toNat 0 else 0)=_;rw[p.2.1]
 have L:(s.nd k).d.ep=((s.nd k).d.recs.length:Int) - 1:=rfl;have O:0<=(s.nd k).d.ep:=by have:=(c.1.own w y).i0.2.2.2.2;simp only[b]at this;exact this
 have x:=c.hiu w y;simp only[b]at x;have a:∀j,(AG.upd s.xf (k:Int) {s.nd k with res:=[]} j).d=(s.xf j).d:=by
  intro j;by_cases l:j=(k:Int);·subst l;rw[AG.upd_self,b]
  ·rw[AG.upd_ne l]
 have r:AG.CI (n:Int) s.nb (s.look k).xf sn g u s.lf (s.tell k).ops (s.tell k).rs (s.look k).hi (k:Int) []/\∀j,0<=j->j<(n:Int)->((s.look k).xf j).d.ep<((s.look k).hi.length:Int):=by
  have f:=OS h C;rw[i];have m:(s.look k).hi=s.hi++(s.nd k).d.recs.drop s.hi.length:=rfl;by_cases F:(s.nd k).d.ep=(s.hi.length:Int)
  ·have D:=f.seen w y (by rw[a,b];exact F);rw[a,b]at D;have A:(s.nd k).d.recs.drop s.hi.length=[(s.nd k).d.rc (s.hi.length:Int)]:=by have E:s.hi.length<(s.nd k).d.recs.length:=oG;rw[List.drop_eq_getElem_cons E,List.drop_of_length_le oG];unfold AG.Du.rc;rw[Int.toNat_natCast,List.getD_eq_getElem?_getD,List.getElem?_eq_getElem E];rfl
   rw[m,A];refine⟨D,λj B t=>?_⟩;rw[a,List.length_append];have q:=c.hiu B t;simp only[List.length_cons,List.length_nil];omega
  ·have A:(s.nd k).d.recs.drop s.hi.length=[]:=List.drop_of_length_le oG;rw[m,A,List.append_nil];refine⟨f,λj B t=>?_⟩;rw[a];rcases c.hiu B t with q|⟨rfl,q⟩;·exact q
   ·rw[b]at q;exact absurd q F
 refine⟨?_,?_,?_,?_,?_,?_⟩;·rw[v,show(s.look k).nb=s.nb from p.1];exact r.1.free r.2 _
 ·show(s.ns.set k _).length=n;rw[List.length_set];exact h.ns
 ·intro j l;show(s.kn.set k ((s.nd k).d.recs.length:Int)).getD j 0<=_;have e:((s.look k).nd j).d=(s.nd j).d:=by have f:=congrFun i (j:Int);rw[eE]at f;rw[f,a,eE]
  rw[e];by_cases o:j=k
  ·subst o;rw[List.getD_eq_getElem?_getD,List.getElem?_set];simp only[if_true];split;·exact Int.le_refl _
   ·exact Int.natCast_nonneg _
  ·rw[List.getD_eq_getElem?_getD,List.getElem?_set_ne (λf=>o f.symm),←List.getD_eq_getElem?_getD];exact h.kn j l
 ·have M:=h.bd;refine⟨?_,?_,?_,?_,?_⟩;·show(s.tell k).ops.length<=_;rw[p.2.2.2.1];omega
  ·show(s.tell k).rs.length<=_;omega
  ·show(s.tell k).rd.length<=_;omega
  ·show(s.hi++(s.nd k).d.recs.drop s.hi.length).length<=_;rw[List.length_append,List.length_drop];omega
  ·show(s.tell k).4.length<=_;rw[p.2.2.1];omega
 ·intro z K;exact h.nt z (by have f:z∈(s.tell k).4:=K;rw[p.2.2.1]at f;exact f)
 ·rw[i];refine(h.bi.qd λj _ _=>?_).up oG;by_cases l:j=(k:Int);·subst l;rw[AG.upd_self,b];exact⟨λ_=>rfl,rfl,rfl,rfl,rfl,rfl,rfl,rfl,rfl⟩
  ·rw[AG.upd_ne l];exact⟨λ_=>rfl,rfl,rfl,rfl,rfl,rfl,rfl,rfl,rfl⟩
end
def eX(s:CS)(n N:Nat):Prop:=∃sn g u,∀k,Gd s n sn g u k [] N
def i5(s:CS)(n k N:Nat):Prop:=∃sn g u pend,Gd s n sn g u k pend N
section
variable {s:CS} {n k N:Nat}
def eX.gp(h:eX s n N)(k:Nat):i5 s n k N:=let ⟨sn,g,u,h⟩:=h;⟨sn,g,u,[],h k⟩
def i5.look(h:i5 s n k N)(b:k<n):eX (s.look k) n (N+1):=let ⟨sn,g,u,_,h⟩:=h;⟨sn,g,u,λa=>OT h b a⟩
def i5.lk(h:i5 s n k N)(a:k<n)(b:N<=2000000000):pX s k:=let ⟨_,_,_,_,h⟩:=h;Q9 h a b
def eX.lt{sn:AG.Ms->Prop}{g:AG.Gh}{u:AG.Gv}(h:∀k,Gd s n sn g u k [] N){j:Nat}(b:j<n):(s.nd j).d.ep<s.hi.length:=by
 have a:=(h (j+1)).1.hiu (j:=(j:Int)) oG oG;rw[eE]at a;rcases a with a|⟨a,_⟩;·exact a
 ·omega
def tM{s':CS}{sn:AG.Ms->Prop}{g:AG.Gh}{u:AG.Gv}{c:List dO}(h:Gd s n sn g u k c N)(A:k<n){a:AG.Nd}{out:List (Int×AG.Ms)}(v:s'.ns=s.ns.set k a)(r:s'.4=s.4++out)(D:s'.nb=s.nb)(w:s'.rs=s.rs)(q:s'.hi=s.hi)(B:s'.kn=s.kn)(x:s'.rd=s.rd)(H:s'.ops.length<=s.ops.length+1)(p:∃o u' pend,AG.CI (n:Int) s.nb (AG.upd s.xf (k:Int) a) (λy=>sn y∨∃z∈out,y=z.2) o u' s'.lf s'.ops s.rs s.hi (k:Int) pend/\AG.BI (n:Int) (AG.upd s.xf (k:Int) a) (λy=>sn y∨∃z∈out,y=z.2) u'.R (10*(N:Int)+10))(C:(s.nd k).d.ep<=a.d.ep)(L:out.length<=12):i5 s' n k (N+12):=by
 obtain⟨o,u',pend,p,m⟩:=p;have i:k<s.ns.length:=by rw[h.ns];exact A
 have b:=pL i v;refine⟨(λy=>sn y∨∃z∈out,y=z.2),o,u',pend,?_,?_,?_,?_,?_,by rw[b];exact m.up oG⟩;·rw[b,D,w,q];exact p
 ·rw[v,List.length_set];exact h.ns
 ·intro j E;have f:=h.kn j E;rw[B];by_cases l:j=k
  ·subst l;have e:s'.nd j=a:=by rw[←eE,b,AG.upd_self]
   rw[e];have K:((s.nd j).d.recs.length:Int) - 1<=(a.d.recs.length:Int) - 1:=C;omega
  ·have e:s'.nd j=s.nd j:=by rw[←eE,b,AG.upd_ne oG,eE]
   rw[e];exact f
 ·have F:=h.bd;rw[r,w,q,x,List.length_append];omega
 ·intro z t;rw[r]at t;rcases List.mem_append.1 t with f|f;·exact .inl (h.nt z f)
  ·exact .inr ⟨z,f,rfl⟩
def yW{sn:AG.Ms->Prop}{g:AG.Gh}{u:AG.Gv}{a:List dO}(h:Gd s n sn g u k a N)(b:k<n){r:AG.Nd×List (Int×AG.Ms)}(i:∃f u' pend,AG.CI (n:Int) s.nb (AG.upd s.xf (k:Int) r.1) (λy=>sn y∨∃z∈r.2,y=z.2) f u' s.lf s.ops s.rs s.hi (k:Int) pend/\AG.BI (n:Int) (AG.upd s.xf (k:Int) r.1) (λy=>sn y∨∃z∈r.2,y=z.2) u'.R (10*(N:Int)+10))(e:(s.nd k).d.ep<=r.1.d.ep)(c:r.2.length<=12):i5 (s.put k r) n k (N+12):=tM h b (s':=s.put k r) rfl rfl rfl rfl rfl rfl rfl (Nat.le_succ _) i e c
def E8{a b:AG.Nd}(h:AG.Opk a b):a.d.ep<=b.d.ep:=by rcases h.ep with c|c<;>omega
def eX.opk(h:eX s n N)(d:k<n){r:AG.Nd×List (Int×AG.Ms)}(c:AG.Opk (s.nd k) r.1)(f:r.2.length<=12)(o:∀{sn g u B},AG.Inv (n:Int) s.nb s.xf sn g u->(∀z∈s.4,sn z.2)->AG.BI (n:Int) s.xf sn u.R B->AG.Call (n:Int) s.nb s.xf sn u (k:Int) r.1 r.2 u.wr/\AG.BK (n:Int) s.xf u (k:Int) (B+10) r.1 r.2):i5 (s.put k r) n k (N+12):=by
 obtain⟨sn,g,u,h⟩:=h;have a:=h k;refine yW a d ?_ (E8 c) f;obtain⟨l,e⟩:=o a.1.1 a.nt a.bi;have b:AG.Opk (s.xf (k:Int)) r.1:=by rw[eE];exact c
 obtain⟨m,u',j,i⟩:=a.1.opk oG oG (by rw[eE];exact eX.lt h d) l b;exact⟨m,u',[],j,a.bi.nx a.1.1 oG oG (E8 b) i e⟩
def eX.bd(h:eX s n N):s.ops.length<=N/\s.rs.length<=N/\s.rd.length<=N/\s.hi.length<=N/\s.4.length<=N:=by obtain⟨_,_,_,h⟩:=h;exact(h 0).bd
def eX.nn(h:eX s n N):(2<=n/\n<=5)/\s.ns.length=n:=by obtain⟨sn,g,u,h⟩:=h;have a:=(h 0).1.1.nn;exact⟨oG,(h 0).ns⟩
def eX.ids(h:eX s n N){k:Nat}(b:k<n):(s.nd k).id=(k:Int)/\(s.nd k).2=(n:Int)/\(s.nd k).nb=s.nb:=by obtain⟨sn,g,u,h⟩:=h;have a:=((h 0).1.1.own (j:=(k:Int)) oG oG).i0;rw[eE]at a;exact⟨a.1,a.2.2.1,a.2.2.2.1⟩
def i5.ids(h:i5 s n k N){j:Nat}(b:j<n):(s.nd j).id=(j:Int)/\(s.nd j).2=(n:Int)/\(s.nd j).nb=s.nb:=by obtain⟨sn,g,u,pend,h⟩:=h;have a:=(h.1.1.own (j:=(j:Int)) oG oG).i0;rw[eE]at a;exact⟨a.1,a.2.2.1,a.2.2.2.1⟩
def FW{N':Nat}(h:eX s n N)(c:k<n){f:Bool->AG.Nd×List (Int×AG.Ms)}(d:∀ok,∃s':CS,s'.ns=s.ns.set k (f ok).1/\s'.nb=s.nb/\i5 s' n k N')(g:∀ok,(f ok).2.length<=12):sE s k f:=by
 refine⟨λok=>?_,λok=>Nat.le_trans (g ok) oG⟩;obtain⟨s',j,i,l⟩:=d ok;have e:s'.nd k=(f ok).1:=by rw[←eE,pL (s:=s) (by rw[h.nn.2];exact c) j,AG.upd_self]
 have a:=l.ids c;have b:=h.ids c;rw[e]at a;exact⟨a.1.trans b.1.symm,a.2.1.trans b.2.1.symm,by rw[a.2.2,b.2.2,i]⟩
def eX.eu(h:eX s n N)(a:k<n)(set:Int)(ok:Bool):i5 (s.put k (((s.nd k).eu set ok).1,((s.nd k).eu set ok).2.1)) n k (N+12):=by
 have hi:=h.ids a;have f:=h.nn;refine h.opk a (AG.Opk.eu _ _ _) ?_ (λc _ e=>?_);·have:=AG.promote_len (s.nd k) set ok;rw[hi.2.1]at this;dsimp only;omega
 ·have b:=c.eu (j:=(k:Int)) oG oG set ok;have d:=e.pro c (j:=(k:Int)) oG oG set ok;rw[eE]at b d;exact⟨b,d⟩
def eX.admi(h:eX s n N)(a:k<n)(node:Int)(ok:Bool)(l:N<=2000000000):i5 (s.put k (((s.nd k).admi node ok).1,((s.nd k).admi node ok).2.1)) n k (N+12):=by
 have hi:=h.ids a;have m:=h.nn;have f:(s.nd k).d.ep<1000000000000:=by obtain⟨sn,g,u,h⟩:=h;have:=eX.lt h a;have:=(h 0).bd;omega
 refine h.opk a (AG.Opk.admi _ _ _) ?_ (λc _ i=>?_);·have:=AG.admit_len (s.nd k) node ok;dsimp only;omega
 ·have b:=c.admi (j:=(k:Int)) oG oG node ok (by rw[eE];exact f);have e:=i.adm c (j:=(k:Int)) oG oG node ok;rw[eE]at b e;exact⟨b,e⟩
def AG.kz(n:AG.Nd)(ok:Bool)(d:2<=n.2/\n.2<=5):(n.gq ok).2.length<=12:=by
 unfold AG.Nd.gq;split;·exact Nat.zero_le _
 ·dsimp only;rw[List.length_append];have c:=AG.pursue_len n ok;have e:(n.ic ok).1.2=n.2:=by
   unfold AG.Nd.ic;split;·rfl
   split;·rfl
   ·unfold AG.Nd.fu;dsimp only;split;·rfl
    ·have a:∀m,(n.iy m ok).1.2=n.2:=by
      intro m;unfold AG.Nd.iy;dsimp only;split;·rfl
      split;·rfl
      split;·rfl
      split<;>rfl
     split;·exact a _
     ·exact a _
  split;·rw[AG.tell_len];have b:=AG.miss_len (n.ic ok).1;rw[e]at b;omega
  ·simp only[List.length_nil];omega
def eX.gq(h:eX s n N)(a:k<n)(ok:Bool):i5 (s.put k ((s.nd k).gq ok)) n k (N+12):=by have hi:=h.ids a;have f:=h.nn;refine h.opk a (AG.Opk.gq _ _) (AG.kz _ _ (by rw[hi.2.1];omega)) (λc _ e=>?_);have b:=c.gq (j:=(k:Int)) oG oG ok;have d:=e.ret c (j:=(k:Int)) oG oG ok;rw[eE]at b d;exact⟨b,d⟩
end
namespace AG
def finish_d(y:Nd):y.finish.d=y.d:=by unfold Nd.finish;split<;>rfl
def wrote_d(y:Nd)(m:Ms):(y.wrote m).d=y.d:=by
 unfold Nd.wrote;by_cases h:0<y.on/\m.e=y.ow.e/\m.q=y.ow.q;·rw[if_pos h];exact finish_d _
 ·rw[if_neg h]
def Opk.receive(y:Nd)(m:Ms)(ok:Bool)(b:m.k≠8):Opk y (y.receive m ok).1:=by
 unfold Nd.receive;split;·exact Opk.refl y
 split;·rename_i a;exact Opk.iy y a ok
 split;·exact Opk.promised y m ok
 split;·exact Opk.accepted y m ok
 split;·exact Opk.refused y m
 split;·rename_i a;exact Opk.decided y a ok
 split;·rename_i a;exact Opk.update y a ok
 split;·exact Opk.copied y m ok
 ·exact Opk.refl y
def CI.rev{n nb:Int}{x:Int->Nd}{sn:Ms->Prop}{g:Gh}{u:Gv}{lv:Int->Int}{ops:List As}{rs:List Rs}{hi:List Rc}{k:Int}{pend:List Rs}{o:As}(c:CI n nb x sn g u lv (ops++[o]) rs hi k pend)(f:o.rd=true)(v:Int):CI n nb x sn g u lv (ops++[{o with v:=v}]) rs hi k pend:=by
 have up:∀{Q:As->Prop},(∀q:As,q.rd=true->Q q->Q {q with v:=v})->(∃q∈ops++[o],Q q)->∃q∈ops++[{o with v:=v}],Q q:=by
  rintro Q A ⟨q,l,d⟩;rcases List.mem_append.1 l with e|e;·exact⟨q,List.mem_append_left _ e,d⟩
  ·simp only[List.mem_singleton]at e;subst e;exact⟨_,List.mem_append_right _ (List.mem_singleton.2 rfl),A q f d⟩
 refine⟨c.1,λq l=>?_,c.oh,?_,λH z j=>?_,c.og,λD=>?_,c.res,?_,c.hi0,c.hik,c.hiu⟩
 ·rcases List.mem_append.1 l with e|e;·exact c.num q (List.mem_append_left _ e)
  ·simp only[List.mem_singleton]at e;subst e;exact c.num o (List.mem_append_right _ (List.mem_singleton.2 rfl))
 ·have d:=c.unq;rw[List.pairwise_append]at d⊢;refine⟨d.1,sG,λa K b w=>?_⟩;simp only[List.mem_singleton]at w;subst w;exact d.2.2 a K o (List.mem_singleton.2 rfl)
 ·refine up (Q:=λo=>_) (λq f h=>?_) (c.lnk H z j);obtain⟨a1,t,m,s,p,F,i⟩:=h;exact⟨a1,t,m,s,p,λd=>absurd (f.symm.trans d) sG,i⟩
 ·refine up (Q:=λo=>_) (λq f h=>?_) (c.qb D);rw[f]at h;exact absurd h.1 sG
 ·rcases c.pen with d|⟨r,C,y,E,B⟩;·exact .inl d
  ·refine .inr ⟨r,C,y,up (Q:=λo=>_) (λq f h=>?_) E,B⟩;obtain⟨a1,t,m,s,p,F,i⟩:=h;exact⟨a1,t,m,s,p,λd=>absurd (f.symm.trans d) sG,i⟩
end AG
def QF(rs:List dO):((kU rs).1 = -1/\(kU rs).2=0)∨∃r∈rs,r.e=(kU rs).1/\r.q=(kU rs).2:=by
 have b:∀(l:List dO) (p:Int×Int),l.foldl pW p=p∨∃r∈l,r.e=(l.foldl pW p).1/\r.q=(l.foldl pW p).2:=by
  intro l;induction l with
  |nil=>intro p;exact .inl rfl
  |cons r l ih=>
   intro p;rw[List.foldl_cons];rcases ih (pW p r) with a|⟨c,f,d⟩
   ·rw[a];unfold pW;cases decide (p.1<r.e)||((r.e==p.1)&&decide (p.2<r.q));·exact .inl rfl
    ·exact .inr ⟨r,List.mem_cons_self,rfl,rfl⟩
   ·exact .inr ⟨c,List.mem_cons_of_mem _ f,d⟩
 rcases b rs (-1,0) with a|a;·left;unfold kU;rw[a];exact⟨rfl,rfl⟩
 ·exact .inr a
section
variable {s:CS} {n k N:Nat}
def eX.receive(h:eX s n N)(q:k<n){j:Int}{m:AG.Ms}(x:(j,m)∈s.4)(E:0<=m.e)(ok:Bool):i5 (s.put k ((s.nd k).receive m ok)) n k (N+12):=by
 have hi:=h.ids q;have K:=h.nn;have t:((s.nd k).receive m ok).2.length<=12:=by have:=AG.receive_len (s.nd k) m ok;rw[hi.2.1]at this;omega
 have y:∀{sn g u},AG.Inv (n:Int) s.nb s.xf sn g u->(∀z∈s.4,sn z.2)->AG.Call (n:Int) s.nb s.xf sn u (k:Int) ((s.nd k).receive m ok).1 ((s.nd k).receive m ok).2 u.wr:=by intro sn g u v o;have i:=v.receive (j:=(k:Int)) oG oG (o _ x) E ok;rw[eE]at i;exact i
 have p:∀{sn g u B},AG.Inv (n:Int) s.nb s.xf sn g u->(∀z∈s.4,sn z.2)->AG.BI (n:Int) s.xf sn u.R B->AG.BK (n:Int) s.xf u (k:Int) (B+10) ((s.nd k).receive m ok).1 ((s.nd k).receive m ok).2:=by intro sn g u B v o F;have i:=F.rcv v (j:=(k:Int)) oG oG (o _ x) ok;rw[eE]at i;exact i
 by_cases w:m.k=8
 ·by_cases C:(s.nd k).5=true∨m.f=(s.nd k).id∨(s.nd k).2<=m.f;·refine h.opk q ?_ t (λa b c=>⟨y a b,p a b c⟩);unfold AG.Nd.receive;rw[if_pos C];exact AG.Opk.refl _
  ·obtain⟨sn,g,u,h⟩:=h;have l:=h k;have e:(s.nd k).receive m ok=((s.nd k).wrote m,[]):=by unfold AG.Nd.receive;rw[if_neg C,w];rfl
   have r:=p l.1.1 l.nt l.bi;rw[e]at t r⊢;refine yW l q ?_ ?_ t;·obtain⟨D,u',pend,i,A⟩:=l.1.wrote oG oG (by rw[eE];exact eX.lt h q) w (l.nt _ x);rw[eE]at i A;refine⟨D,u',pend,i,l.bi.nx l.1.1 oG oG ?_ A r⟩;have:=AG.wrote_d (s.nd k) m;rw[eE];show(s.nd k).d.ep<=((s.nd k).wrote m).d.ep;rw[this];exact Int.le_refl _
   ·have H:=l.1.1.own (j:=(k:Int)) oG oG;have i:=AG.wrote_d (s.nd k) m;show(s.nd k).d.ep<=((s.nd k).wrote m).d.ep;rw[i];exact Int.le_refl _
 ·exact h.opk q (AG.Opk.receive _ _ _ w) t (λa b c=>⟨y a b,p a b c⟩)
def eX.run(h:eX s n N)(A:k<n)(y:k<s.3.length){n':AG.Nd}(K:Cr (s.nd k) n'):i5 (s.run k n') n k (N+12):=by
 obtain⟨sn,g,u,h⟩:=h;have c:=h k;have t:(s.xf (k:Int)).d.ep<s.hi.length:=by rw[eE];exact eX.lt h A
 have w:(s.run k n').lf=AG.upd s.lf (k:Int) (s.lf (k:Int)+1):=by
  funext j;by_cases b:j=(k:Int);·subst b;rw[rM,AG.upd_self,rM];show(s.3.set k _).getD k 0=_;rw[List.getD_eq_getElem?_getD,List.getElem?_set_self y];rfl
  ·rw[AG.upd_ne b];unfold CS.lf;split;·show(s.3.set k _).getD j.toNat 0=_;rw[List.getD_eq_getElem?_getD,List.getElem?_set_ne oG,←List.getD_eq_getElem?_getD]
   ·rfl
 have o:∀(a:AG.Nd) (l:List (Int×PV)),a.on=0/\a.ops=0/\a.res=[]->(a.d.ep=(s.nd k).d.ep∨a.d.ep=(s.nd k).d.ep+1)->AG.Call (n:Int) s.nb s.xf sn u (k:Int) a [] u.wr->AG.BK (n:Int) s.xf u (k:Int) (10*(N:Int)+10) a []->(∀e,dJ l e=dJ a.d.3 e)->n'=a.swp l->i5 (s.run k n') n k (N+12):=by
  intro a l p m E v B z;obtain⟨F,u',i,r⟩:=c.1.ny oG oG t E p (by rw[eE];exact m);have f:=i.swap (j:=(k:Int)) (l:=l) (by rw[AG.upd_self];exact B);rw[AG.upd_self]at f;have q:=c.bi.nx c.1.1 oG oG (by rw[eE];omega) r v;have e:AG.upd (AG.upd s.xf (k:Int) a) (k:Int) (a.swp l)=AG.upd s.xf (k:Int) n':=by
   funext j;by_cases b:j=(k:Int);·subst b;rw[AG.upd_self,AG.upd_self,z]
   ·rw[AG.upd_ne b,AG.upd_ne b,AG.upd_ne b]
  rw[e]at f;have x:=q.qd (x':=AG.upd s.xf (k:Int) n') (λj _ _=>by
   by_cases b:j=(k:Int);·subst b;rw[AG.upd_self,AG.upd_self,z];exact⟨λe=>B e,rfl,rfl,rfl,rfl,rfl,rfl,rfl,rfl⟩
   ·rw[AG.upd_ne b,AG.upd_ne b];exact⟨λ_=>rfl,rfl,rfl,rfl,rfl,rfl,rfl,rfl,rfl⟩)
  refine tM c A (s':=s.run k n') (out:=[]) rfl (List.append_nil _).symm rfl rfl rfl rfl rfl (Nat.le_succ _) ⟨F,u',[],by rw[w];exact⟨f,x⟩⟩ ?_ sG;have C:n'.d.ep=a.d.ep:=by rw[z];rfl
  omega
 rcases K with⟨l,p,m⟩|⟨q,l,p,m⟩;·have f:=c.bi.cr0 (j:=(k:Int)) oG oG;rw[eE]at f;refine o ((s.nd k).fresh (s.nd k).d) l ⟨rfl,rfl,rfl⟩ (.inl rfl) ?_ f m p;have i:=c.1.1.ng (j:=(k:Int));rw[eE]at i;refine⟨g,u,_,λj H D=>(show(s.xf j).d.ep<=(s.hi.length:Int) from ?_),oG,AG.Grv.refl _ _,rfl,i.nil,sG⟩;rcases c.1.hiu H D with C|C<;>omega
 ·have i:=c.1.1.oz (j:=(k:Int)) oG oG (by rw[eE];exact q);have f:=c.bi.cr1 c.1.1 (j:=(k:Int)) oG oG (by rw[eE];exact q);rw[eE]at i f;refine o ((s.nd k).fresh ((s.nd k).d.step (s.nd k).tr)) l ⟨rfl,rfl,rfl⟩ ?_ i f m p;show((s.nd k).d.step (s.nd k).tr).ep=_∨((s.nd k).d.step (s.nd k).tr).ep=_;by_cases r:(s.nd k).tr.k=6;·right;unfold AG.Du.step;rw[r];show(((s.nd k).d.recs++[_]).length:Int) - 1=((s.nd k).d.recs.length:Int) - 1+1;rw[List.length_append];simp
  ·exact .inl (AG.step_ep _ r)
def eX.drop(h:eX s n N)(k:Nat):eX (s.drop k) n N:=by
 obtain⟨sn,g,u,h⟩:=h;refine⟨sn,g,u,λj=>?_⟩;have a:=h j;refine⟨a.1,a.ns,a.kn,?_,λz d=>a.nt z ?_,a.bi⟩;·have b:=a.bd;refine⟨b.1,b.2.1,b.2.2.1,b.2.2.2.1,?_⟩;show(s.4.take k++s.4.drop (k+1)).length<=N;rw[List.length_append,List.length_take,List.length_drop];omega
 ·rcases List.mem_append.1 (show z∈s.4.take k++s.4.drop (k+1) from d) with c|c;·exact List.mem_of_mem_take c
  ·exact List.mem_of_mem_drop c
def FA(s:CS)(k:Nat):s.ns.set k (s.nd k)=s.ns:=by
 by_cases h:k<s.ns.length;·rw[CS.jy h];exact List.set_getElem_self h
 ·exact List.set_eq_of_length_le oG
def eX.oper(h:eX s n N)(C:k<n)(b:Int)(rd ok:Bool)(a0:1<=s.nb):i5 (s.oper k b rd ok) n k (N+12):=by
 have hi:=h.ids C;have hn:=h.nn;have S:(s.jm k b rd ok).2.1.length<=12:=by unfold CS.jm;have:=AG.operate_len (s.nd k) (s.bl b) (bif rd then(s.nd k).d.bk (s.bl b) else 1+(s.ops.length:Int)) ok;rw[hi.2.1]at this;omega
 obtain⟨sn,g,u,h⟩:=h;have e:=h k;have o:(0:Int)<=(k:Int):=Int.natCast_nonneg k;have p:(k:Int)<(n:Int):=oG;have c:=eE s k;have B:(s.xf (k:Int)).d.ep<s.hi.length:=by rw[eE];exact eX.lt h C
 have H:0<=s.bl b/\s.bl b<s.nb:=by unfold CS.bl;exact⟨Int.emod_nonneg _ oG,Int.emod_lt_of_pos _ oG⟩
 obtain⟨V,M⟩:∃y,(bif rd then(s.nd k).d.bk (s.bl b) else 1+(s.ops.length:Int))=y:=⟨_,rfl⟩;have D:s.jm k b rd ok=(s.nd k).operate (s.bl b) V ok:=by unfold CS.jm;rw[M]
 have l:AG.CI (n:Int) s.nb s.xf sn g u s.lf (s.ops++[s.asd k b 0 rd true]) s.rs s.hi (k:Int) []:=e.1.mute rfl (by show s.3.getD k 0<=s.lf (k:Int);rw[rM];exact Int.le_refl _) ⟨o,p⟩;by_cases A:(s.nd k).jl ((s.nd k).blk (s.bl b))=0
 ·cases ok
  ·have q:∃m,(s.nd k).operate (s.bl b) V false=((s.nd k).fall m,[],3):=by unfold AG.Nd.operate;rw[if_neg (by simp[A])];exact⟨_,rfl⟩
   obtain⟨m,q⟩:=q;have r:=λ(W:Int->Int->Prop) (U:∀{i v},u.wr i v->W i v) (hv:V=0∨W (s.bl b) V)=>e.1.1.operate (j:=(k:Int)) o p (s.bl b) V false U hv (by rw[c];exact A);simp only[c,q]at r;cases rd
   ·have w:s.oper k b false false={s with ns:=s.ns.set k ((s.nd k).fall m),ops:=s.ops++[s.asd k b 0 false true]}:=by unfold CS.oper;rw[D,q];simp
    rw[w];refine tM e C (a:=(s.nd k).fall m) (out:=[]) rfl (List.append_nil _).symm rfl rfl rfl rfl rfl sG ?_ (Int.le_refl _) sG;have t:V=1+(s.ops.length:Int):=by rw[←M];rfl
    have F:=r (λi v=>u.wr i v∨(i=s.bl b/\v=V)) (λf=>.inl f) (.inr (.inr ⟨rfl,rfl⟩));obtain⟨K,u',f,E⟩:=l.call o p B F (λ{i v} O=>by
     rcases O with O|⟨rfl,rfl⟩;·exact l.qb O
     ·exact⟨_,List.mem_append_right _ (List.mem_singleton.2 rfl),rfl,rfl,t.symm⟩) (by rw[c];rfl) (.inl rfl) (.inl (by rw[c];rfl)) (pend:=[]) (by have R:=e.1.res o p;rw[c,if_pos rfl]at R;exact R) (.inl rfl)
    have x:=e.bi.ope (u:=u) o p (s.bl b) V false;rw[c,q]at x;exact⟨K,u',[],f,e.bi.nx e.1.1 o p (by rw[c];exact Int.le_refl _) E x⟩
   ·have w:s.oper k b true false=s.put k ((s.nd k).fall m,[]):=by unfold CS.oper;rw[D,q];simp[CS.put]
    rw[w];refine yW e C ?_ (Int.le_refl _) sG;have t:V=(s.nd k).d.bk (s.bl b):=by rw[←M];rfl
    have F:=r u.wr (λf=>f) (by have f:=(e.1.1.own o p).bv H.1 H.2;rw[c,←t]at f;exact f);obtain⟨K,u',f,E⟩:=e.1.opk o p B F (by rw[c];exact AG.Opk.fall _ _);have x:=e.bi.ope (u:=u) o p (s.bl b) V false;rw[c,q]at x;exact⟨K,u',[],f,e.bi.nx e.1.1 o p (by rw[c];exact Int.le_refl _) E x⟩
  ·have q:((s.nd k).operate (s.bl b) V true).2.2=0:=by unfold AG.Nd.operate;rw[if_neg (by simp[A])];rfl
   have w:s.oper k b rd true={s with ns:=s.ns.set k ((s.nd k).operate (s.bl b) V true).1,net:=s.4++((s.nd k).operate (s.bl b) V true).2.1,ops:=s.ops++[s.asd k b ((s.nd k).ops+1) rd false]}:=by unfold CS.oper;rw[D,if_pos q]
   have L:(s.nd k).d.ep<=((s.nd k).operate (s.bl b) V true).1.d.ep:=by unfold AG.Nd.operate;rw[if_neg (by simp[A])];show _<=(AG.Nd.finish _).d.ep;rw[AG.finish_d];exact Int.le_of_eq (AG.step_ep (s.nd k).d sG).symm
   rw[w];rw[D]at S;refine tM e C (a:=((s.nd k).operate (s.bl b) V true).1) (out:=((s.nd k).operate (s.bl b) V true).2.1) rfl rfl rfl rfl rfl rfl rfl sG ?_ L S;obtain⟨K,u',pend,f,E⟩:=e.1.begin o p B (s.bl b) V rd (QF s.rs) (λf=>by rw[c,←M,f];rfl) (by rw[c];exact A);have x:=e.bi.ope (u:=u) o p (s.bl b) V true;rw[c]at x E;have Q:=e.bi.nx e.1.1 o p (by rw[c];exact L) E x;rw[c,rM]at f;refine⟨K,u',pend,?_,Q⟩;cases rd
   ·have t:V=1+(s.ops.length:Int):=by rw[←M];rfl
    rw[t]at f⊢;exact f
   ·exact f.rev rfl (1+(s.ops.length:Int))
 ·have q:(s.nd k).operate (s.bl b) V ok=(s.nd k,[],(s.nd k).jl ((s.nd k).blk (s.bl b))):=by unfold AG.Nd.operate;rw[if_pos A]
  by_cases F:(s.nd k).jl ((s.nd k).blk (s.bl b))=3/\rd=false
  ·have w:s.oper k b rd ok={s with ns:=s.ns.set k (s.nd k),ops:=s.ops++[s.asd k b 0 rd true]}:=by unfold CS.oper;rw[D,q,if_neg A,if_pos F]
   rw[w];refine tM e C (a:=s.nd k) (out:=[]) rfl (List.append_nil _).symm rfl rfl rfl rfl rfl sG ⟨g,u,[],?_⟩ (Int.le_refl _) sG;rw[AG.mq _ _ _ c.symm];have X:(λy=>sn y∨∃z∈([]:List (Int×AG.Ms)),y=z.2)=sn:=by funext y;simp
   rw[X];exact⟨l,e.bi.up oG⟩
  ·have w:s.oper k b rd ok=s:=by unfold CS.oper;rw[D,q,if_neg A,if_neg F];dsimp only;rw[FA]
   rw[w];exact⟨sn,g,u,[],⟨e.1,e.ns,e.kn,by have:=e.bd;omega,e.nt,e.bi.up oG⟩⟩
def eX.come(h:eX s n N){j:Int}{m:AG.Ms}(c:(j,m)∈s.4)(b:0<=m.e)(a:k<n)(ok:Bool):eX (s.come k m ok) n (N+13):=(h.receive a c b ok).look a
def eX.up{N':Nat}(h:eX s n N)(a:N<=N'):eX s n N':=by obtain⟨sn,g,u,h⟩:=h;exact⟨sn,g,u,λk=>⟨(h k).1,(h k).ns,(h k).kn,by have:=(h k).bd;omega,(h k).nt,(h k).bi.up oG⟩⟩
end
end
section
open Go.RowKit
open Value renaming slice->J,pointer->P0
open IntKind renaming i64->T
open Option renaming none->Z,some->Y
open Obj renaming cells->G
open Value (bool)
structure Ok(s:CS)(n N:Nat):Prop where
 gs:eX s n N
 ou:eR (n:Int) s.4
 lv:∀i (h:i<s.3.length),0<=s.3[i]/\s.3[i]<=(N:Int)
def sX(s:CS)(i:Nat):(s.look i).4=s.4:=(tL s i).2.2.1
def uZ(s:CS)(i:Nat):(s.look i).3=s.3:=(tL s i).2.1
def mM{m:AG.Ms}(h:Rl m):0<=m.e:=by
 obtain⟨c,d,a⟩:=pI h.1;have b:m.k=1∨m.k=2∨m.k=3∨m.k=4∨m.k=5∨m.k=6∨m.k=7∨m.k=8∨m.k=9∨m.k=10:=oG;rcases b with b|b|b|b|b|b|b|b|b|b<;>rw[b]at a;·exact((nQ _ _ _ _ _ _ _ _ _).1 a).1.1
 ·exact((sZ _ _ _ _ _ _ _ _ _).1 a).1.1
 ·exact((nR _ _ _ _ _ _ _ _ _).1 a).1.1
 ·exact((tA _ _ _ _ _ _ _ _ _).1 a).1.1
 ·exact((tB _ _ _ _ _ _ _ _ _).1 a).1.1
 ·exact((oD _ _ _ _ _ _ _ _ _).1 a).1.1
 ·exact((oF _ _ _ _ _ _ _ _ _).1 a).1.1
 ·exact((tC _ _ _ _ _ _ _ _ _).1 a).1.1
 ·exact((oH _ _ _ _ _ _ _ _ _).1 a).1.1
 ·exact((uI _ _ _ _ _ _ _ _ _).1 a).1.1
section
variable {s:CS} {n k N:Nat}
def Ok.put{N':Nat}(h:Ok s n N)(a:k<n){r:AG.Nd×List (Int×AG.Ms)}(c:i5 (s.put k r) n k N')(b:eR (s.nd k).2 r.2)(e:N<=N'):Ok ((s.put k r).look k) n (N'+1):=by
 refine⟨c.look a,?_,?_⟩;·rw[sX];have d:=(h.gs.ids a).2.1;rw[d]at b;exact h.ou.app b
 ·rw[uZ];intro i hi;have:=h.3 i hi;exact⟨this.1,by show s.3[i]<=_;omega⟩
def Ok.again(h:Ok s n N)(a:k<n):Ok (s.look k) n (N+1):=by refine⟨(h.gs.gp k).look a,by rw[sX];exact h.ou,?_⟩;rw[uZ];intro i hi;have:=h.3 i hi;omega
def Ok.drop(h:Ok s n N)(k:Nat):Ok (s.drop k) n N:=by
 refine⟨h.gs.drop k,λz b=>h.ou z ?_,h.3⟩;rcases List.mem_append.1 (show z∈s.4.take k++s.4.drop (k+1) from b) with a|a;·exact List.mem_of_mem_take a
 ·exact List.mem_of_mem_drop a
def Ok.oper(h:Ok s n N)(a:k<n)(b:Int)(rd ok:Bool)(c:1<=s.nb)(d:eR (s.nd k).2 (s.jm k b rd ok).2.1):Ok ((s.oper k b rd ok).look k) n (N+13):=by
 refine⟨(h.gs.oper a b rd ok c).look a,?_,?_⟩
 ·rw[sX];have f:=(h.gs.ids a).2.1;rw[f]at d;unfold CS.oper;split;·exact h.ou.app d
  split;·exact h.ou
  ·exact h.ou
 ·rw[uZ];have e:(s.oper k b rd ok).3=s.3:=by unfold CS.oper;split;rfl;split<;>rfl
  rw[e];intro i hi;have:=h.3 i hi;omega
def QG(l:List Int)(k:Nat){N:Nat}(h:∀i (h:i<l.length),0<=l[i]/\l[i]<=(N:Int)):∀i (h:i<(l.set k (l.getD k 0+1)).length),0<=(l.set k (l.getD k 0+1))[i]/\(l.set k (l.getD k 0+1))[i]<=(N:Int)+1:=by
 intro i hi;have a:i<l.length:=by simpa using hi
 have c:=h i a;by_cases b:k=i;·subst b;rw[List.getElem_set_self,List.getD_eq_getElem?_getD,List.getElem?_eq_getElem a];simp only[Option.getD_some];omega
 ·rw[List.getElem_set_ne b];omega
def Ok.run(h:Ok s n N)(b:k<n)(a:k<s.3.length){n':AG.Nd}(d:Cr (s.nd k) n'):Ok ((s.run k n').look k) n (N+13):=by refine⟨(h.gs.run b a d).look b,by rw[sX];exact h.ou,?_⟩;rw[uZ];intro i hi;have c:=QG s.3 k h.3 i hi;exact⟨c.1,Int.le_trans c.2 oG⟩
def Ok.up{N':Nat}(h:Ok s n N)(a:N<=N'):Ok s n N':=⟨h.gs.up a,h.ou,λi hi=>by have:=h.3 i hi;omega⟩
def Ok.stO(h:Ok s n N)(b:k<n){f:Bool->AG.Nd×List (Int×AG.Ms)}(a:∀ok,i5 (s.put k (f ok)) n k (N+12))(c:∀ok,(f ok).2.length<=12):sE s k f:=FW h.gs b (λok=>⟨s.put k (f ok),rfl,rfl,a ok⟩) c
def Ok.stR(h:Ok s n N)(a:k<n){j:Int}{m:AG.Ms}(c:(j,m)∈s.4)(b:0<=m.e):sE s k (λok=>(s.nd k).receive m ok):=by have hi:=h.gs.ids a;have d:=h.gs.nn;exact h.stO a (λok=>h.gs.receive a c b ok) (λok=>by have:=AG.receive_len (s.nd k) m ok;rw[hi.2.1]at this;omega)
def Ok.stOp(h:Ok s n N)(a:k<n)(b:Int)(rd:Bool)(c:1<=s.nb):sE s k (λok=>((s.jm k b rd ok).1,(s.jm k b rd ok).2.1)):=by
 have hi:=h.gs.ids a;have e:=h.gs.nn;refine FW h.gs a (λok=>⟨s.oper k b rd ok,?_,?_,h.gs.oper a b rd ok c⟩) (λok=>?_);·unfold CS.oper;split;rfl;split<;>rfl
 ·unfold CS.oper;split;rfl;split<;>rfl
 ·have:=AG.operate_len (s.nd k) (s.bl b) (bif rd then(s.nd k).d.bk (s.bl b) else 1+(s.ops.length:Int)) ok;rw[hi.2.1]at this;show(CS.jm s k b rd ok).2.1.length<=12;unfold CS.jm;omega
end
end
end Go.Proofs.YtdcainmlcpafbaaGreatDoor
