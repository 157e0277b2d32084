import Derived.Test.YtdcainmlcpafbaaGreatDoorJ35
set_option linter.all false
set_option maxHeartbeats 4000000
set_option maxRecDepth 20000
namespace Go.Proofs.YtdcainmlcpafbaaGreatDoor
open Go.RowKit
open Value renaming slice->J,pointer->P0
open IntKind renaming i64->T
open Option renaming none->Z,some->Y
open Obj renaming cells->G
open Value (bool)
structure Ok(s:CS)(n N:Nat):Prop where
 gs:fP s n N
 ou:eM (n:Int) s.net
 lv:∀i (h:i<s.lv.length),0<=s.lv[i]/\s.lv[i]<=(N:Int)
def sD(s:CS)(i:Nat):(s.look i).net=s.net:=(yA s i).2.2.1
def sT(s:CS)(i:Nat):(s.look i).lv=s.lv:=(yA s i).2.1
def oI{m:AG.Ms}(h:Rl m):0<=m.e:=by
 obtain⟨c,d,a⟩:=oZ h.1;have b:m.k=1∨m.k=2∨m.k=3∨m.k=4∨m.k=5∨m.k=6∨m.k=7∨m.k=8∨m.k=9∨m.k=10:=oG;rcases b with b|b|b|b|b|b|b|b|b|b<;>rw[b]at a;·exact((nA _ _ _ _ _ _ _ _ _).1 a).1.1
 ·exact((sF _ _ _ _ _ _ _ _ _).1 a).1.1
 ·exact((nB _ _ _ _ _ _ _ _ _).1 a).1.1
 ·exact((sH _ _ _ _ _ _ _ _ _).1 a).1.1
 ·exact((sI _ _ _ _ _ _ _ _ _).1 a).1.1
 ·exact((nT _ _ _ _ _ _ _ _ _).1 a).1.1
 ·exact((nU _ _ _ _ _ _ _ _ _).1 a).1.1
 ·exact((sJ _ _ _ _ _ _ _ _ _).1 a).1.1
 ·exact((nV _ _ _ _ _ _ _ _ _).1 a).1.1
 ·exact((tV _ _ _ _ _ _ _ _ _).1 a).1.1
section
variable {s:CS} {n k N:Nat}
def Ok.put{N':Nat}(h:Ok s n N)(a:k<n){r:AG.Nd×List (Int×AG.Ms)}(c:jF (s.put k r) n k N')(b:eM (s.nd k).nodes r.2)(e:N<=N'):Ok ((s.put k r).look k) n (N'+1):=by
 refine⟨c.look a,?_,?_⟩;·rw[sD];have d:=(h.gs.ids a).2.1;rw[d]at b;exact h.ou.app b
 ·rw[sT];intro i hi;have:=h.lv i hi;exact⟨this.1,by show s.lv[i]<=_;omega⟩
def Ok.again(h:Ok s n N)(a:k<n):Ok (s.look k) n (N+1):=by refine⟨(h.gs.gp k).look a,by rw[sD];exact h.ou,?_⟩;rw[sT];intro i hi;have:=h.lv i hi;omega
def Ok.drop(h:Ok s n N)(k:Nat):Ok (s.drop k) n N:=by
 refine⟨h.gs.drop k,λz b=>h.ou z ?_,h.lv⟩;rcases List.mem_append.1 (show z∈s.net.take k++s.net.drop (k+1) from b) with a|a;·exact List.mem_of_mem_take a
 ·exact List.mem_of_mem_drop a
def Ok.oper(h:Ok s n N)(a:k<n)(b:Int)(rd ok:Bool)(c:1<=s.nb)(d:eM (s.nd k).nodes (s.jm k b rd ok).2.1):Ok ((s.oper k b rd ok).look k) n (N+13):=by
 refine⟨(h.gs.oper a b rd ok c).look a,?_,?_⟩
 ·rw[sD];have f:=(h.gs.ids a).2.1;rw[f]at d;unfold CS.oper;split;·exact h.ou.app d
  split;·exact h.ou
  ·exact h.ou
 ·rw[sT];have e:(s.oper k b rd ok).lv=s.lv:=by unfold CS.oper;split;rfl;split<;>rfl
  rw[e];intro i hi;have:=h.lv i hi;omega
def OL(l:List Int)(k:Nat){N:Nat}(h:∀i (h:i<l.length),0<=l[i]/\l[i]<=(N:Int)):∀i (h:i<(l.set k (l.getD k 0+1)).length),0<=(l.set k (l.getD k 0+1))[i]/\(l.set k (l.getD k 0+1))[i]<=(N:Int)+1:=by
 intro i hi;have a:i<l.length:=by simpa using hi
 have c:=h i a;by_cases b:k=i;·subst b;rw[List.getElem_set_self,List.getD_eq_getElem?_getD,List.getElem?_eq_getElem a];simp only[Option.getD_some];omega
 ·rw[List.getElem_set_ne b];omega
def Ok.run(h:Ok s n N)(b:k<n)(a:k<s.lv.length){n':AG.Nd}(d:Cr (s.nd k) n'):Ok ((s.run k n').look k) n (N+13):=by refine⟨(h.gs.run b a d).look b,by rw[sD];exact h.ou,?_⟩;rw[sT];intro i hi;have c:=OL s.lv k h.lv i hi;exact⟨c.1,Int.le_trans c.2 oG⟩
def Ok.up{N':Nat}(h:Ok s n N)(a:N<=N'):Ok s n N':=⟨h.gs.up a,h.ou,λi hi=>by have:=h.lv i hi;omega⟩
def Ok.stO(h:Ok s n N)(b:k<n){f:Bool->AG.Nd×List (Int×AG.Ms)}(a:∀ok,jF (s.put k (f ok)) n k (N+12))(c:∀ok,(f ok).2.length<=12):qF s k f:=EM h.gs b (λok=>⟨s.put k (f ok),rfl,rfl,a ok⟩) c
def Ok.stR(h:Ok s n N)(a:k<n){j:Int}{m:AG.Ms}(c:(j,m)∈s.net)(b:0<=m.e):qF s k (λok=>(s.nd k).receive m ok):=by have hi:=h.gs.ids a;have d:=h.gs.nn;exact h.stO a (λok=>h.gs.receive a c b ok) (λok=>by have:=AG.receive_len (s.nd k) m ok;rw[hi.2.1]at this;omega)
def Ok.stOp(h:Ok s n N)(a:k<n)(b:Int)(rd:Bool)(c:1<=s.nb):qF s k (λok=>((s.jm k b rd ok).1,(s.jm k b rd ok).2.1)):=by
 have hi:=h.gs.ids a;have e:=h.gs.nn;refine EM h.gs a (λok=>⟨s.oper k b rd ok,?_,?_,h.gs.oper a b rd ok c⟩) (λok=>?_);·unfold CS.oper;split;rfl;split<;>rfl
 ·unfold CS.oper;split;rfl;split<;>rfl
 ·have:=AG.operate_len (s.nd k) (s.bl b) (bif rd then(s.nd k).d.bk (s.bl b) else 1+(s.ops.length:Int)) ok;rw[hi.2.1]at this;show(CS.jm s k b rd ok).2.1.length<=12;unfold CS.jm;omega
end
end Go.Proofs.YtdcainmlcpafbaaGreatDoor
