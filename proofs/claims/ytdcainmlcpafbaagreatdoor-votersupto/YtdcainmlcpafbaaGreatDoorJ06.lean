import Derived.Test.YtdcainmlcpafbaaGreatDoorJ05
import Derived.Laws.AppendOwnNone
import Derived.OneCell
set_option linter.all false
set_option maxHeartbeats 8000000
set_option maxRecDepth 20000
namespace Go.Proofs.YtdcainmlcpafbaaGreatDoor
open Go.RowKit
open Value renaming int->I,slice->J,pointer->P0
open Tryz renaming prog->pG
open IntKind renaming i64->T
open Option renaming none->Z,some->Y
open Obj renaming cells->G
open Value (bool)
structure aS where
 ep:Int
 pr:Int
 wa:Int
 pm:Int
 st:Int
def aS.cells(v:aS):List Value:=[I T v.ep,I T v.pr,I T v.wa,I T v.pm,I T v.st]
structure K6 where
 ph:Int
 pm:Int
 st:Int
 ba:Int
 wa:Int
 rf:Int
 nd:Int
 sq:Int
 fr:List Int
structure KD where
 nu:Int
 bl:Int
 va:Int
 lf:Int
structure KE where
 op:Int
 bl:Int
 va:Int
 ep:Int
 sq:Int
structure RN where
 id:Int
 nodes:Int
 recs:List aM
 votes:List aS
 blocks:List Int
 seen:Int
 last:Int
 act:Bool
 cs:List K6
 os:List KD
 ops:Int
 res:List KE
def aP(w:World)(v:Value)(n:Nat)(cs:List Value):Prop:=
 (v=J Z 0 0/\n=0/\cs=[])∨∃g cap,v=J (Y ⟨g,0,Z⟩) n cap/\g<w.heap.size/\∀j u,cs[j]?=Y u->w.cell? ⟨g,j,Z⟩=Y u
theorem aP.shape{w:World}{v:Value}{n:Nat}{cs:List Value}(h:aP w v n cs):∃a c,v=J a n c:=by
 rcases h with⟨rfl,rfl,_⟩|⟨g,c,rfl,_⟩
 ·exact⟨_,_,rfl⟩
 ·exact⟨_,_,rfl⟩
theorem aP.later{w w':World}{v:Value}{n:Nat}{cs:List Value}(h:aP w v n cs)(hb:Below w.heap.size w w'):aP w' v n cs:=by
 rcases h with h|⟨g,c,h1,h2,h3⟩
 ·exact .inl h
 ·exact .inr ⟨g,c,h1,Nat.lt_of_lt_of_le h2 hb.size,fun j u hj=>(hb.cell (p:=⟨g,j,Z⟩) h2).trans (h3 j u hj)⟩
theorem aP.of_owns{w:World}{base:Nat}{e:TypeId}{size n:Nat}{v:Value}{cs:List Value}(h:w.ownsRow base e size v n cs):aP w v n cs:=by
 rcases h.2 with⟨rfl,rfl⟩|⟨g,cap,cur,rfl,hb,hg,_⟩
 ·exact .inl ⟨rfl,rfl,List.eq_nil_of_length_eq_zero (by simpa using h.1)⟩
 ·refine .inr ⟨g,cap,rfl,(h.lt g rfl).2,fun j u hj=>?_⟩;have:=h.cells (g:=g) rfl j u hj;rw[Go.WideShapes.add_plain]at this
  simpa using this
theorem aP.at{w:World}{v:Value}{n:Nat}{cs:List Value}(h:aP w v n cs)(hn:0<n):∃g cap,v=J (Y ⟨g,0,Z⟩) n cap/\g<w.heap.size/\∀j u,cs[j]?=Y u->w.cell? ⟨g,j,Z⟩=Y u:=by
 rcases h with⟨_,h0,_⟩|h
 ·omega
 ·exact h
theorem cM{w:World}{base base':Nat}{e:TypeId}{size n:Nat}{v:Value}{xs:List Value}(h:w.ownsRow base e size v n xs)(hb:base'<=base):w.ownsRow base' e size v n xs:=by
 refine⟨h.1,?_⟩;rcases h.2 with h0|⟨g,cap,cur,hv,h1,h3⟩
 ·exact .inl h0
 ·exact .inr ⟨g,cap,cur,hv,Nat.le_trans hb h1,h3⟩
theorem iY{P:Program}{w:World}{ops:Array Oper}{rest:List Oper}{o:Oper}{a:Act}{Q:Exit->Act->World->Prop}(hgd:o.guard=none)(s x:Operand)(t:TypeId)(ho:o.op=.call {callee:=.builtin .append,args:=#[s,x],argTypes:=#[t,t]})(base:Nat)(e:TypeId)(i:TypeInfo)(z:Value)(size bytes:Nat)(ht:P.underlying t=Y (.slice e))(hi:P.info? e=Y i)(hz:i.zero=Y z)(hsize:i.size=size)(hby:i.bytes=bytes)(hzs:z.cells.size=size)(hsz:0<size)(v:Value)(n:Nat)(xs:List Value)(hs:a.eval s=v)(hown:w.ownsRow base e size v n xs)(y:Value)(m:Nat)(news:List Value)(hx:a.eval x=y)(hy:aP w y m news)(hl:news.length=m*size)(h1:∀u∈news,u.oneCell'=true)(h63:n+m<=maxLen)(hbytes:(n+m)*bytes<=140737488355328)(hbase:base<=w.heap.size)(h:∀v' w',w'.ownsRow base e size v' (n+m) (xs++news)->w.grownBy w' v.ownBlock->wpList P ops Q rest (a.put o.dst v') w'):wpList P ops Q (o::rest) a w:=by
 rcases hy with⟨rfl,rfl,rfl⟩|⟨g,cap,rfl,hg,hc⟩
 ·refine wpList_append_own_none hgd s x t ho base e i size ht hi v n xs hs hown hx ?_;exact h v w (by simpa using hown) ⟨rfl,rfl,rfl,Nat.le_refl _,fun _ _ _=>rfl⟩
 ·exact wpList_append_own w hgd s x t ho base e i z size bytes ht hi hz hsize hby hzs hsz v n xs hs hown ⟨g,0,Z⟩ m cap news hx hl (fun j u hj=>by rw[Go.WideShapes.add_plain];simpa using hc j u hj) h1 h63 hbytes hbase (fun v' w' r1 r2 _=>h v' w' r1 r2)
theorem oF{α:Type}(f:α->List Value)(c:Nat)(hf:∀x,(f x).length=c)(l:List α):(l.flatMap f).length=l.length*c:=by
 induction l with
 |nil=>simp
 |cons x l ih=>rw[List.flatMap_cons,List.length_append,ih,hf,List.length_cons,Nat.add_mul];omega
theorem cO{α:Type}(f:α->List Value)(c:Nat)(hf:∀x,(f x).length=c):∀(l:List α) (i:Nat) (h:i<l.length) (k:Nat) (hk:k<c),(l.flatMap f)[i*c+k]?=Y ((f l[i]).getD k undef):=by
 intro l
 induction l with
 |nil=>intro i h;simp at h
 |cons x l ih=>
  intro i h k hk;rw[List.flatMap_cons]
  match i with
  |0=>
   rw[List.getElem?_append_left (by rw[hf];omega)];simp only[Nat.zero_mul,Nat.zero_add,List.getElem_cons_zero];rw[List.getD_eq_getElem?_getD,List.getElem?_eq_getElem (by rw[hf];exact hk)];rfl
  |i+1=>
   rw[List.getElem?_append_right (by rw[hf,Nat.add_mul];omega),hf,show(i+1)*c+k - c=i*c+k by rw[Nat.add_mul];omega];exact ih i (by simpa using h) k hk
theorem eK(x:aM):(aM.cells x).length=3:=rfl
theorem gO(x:aS):(aS.cells x).length=5:=rfl
theorem tB{l:List aM}:∀u∈l.flatMap aM.cells,u.oneCell'=true:=by
 intro u hu;obtain⟨r,_,h⟩:=List.mem_flatMap.1 hu;simp[aM.cells]at h;rcases h with rfl|rfl|rfl<;>rfl
theorem DQ{l:List aS}:∀u∈l.flatMap aS.cells,u.oneCell'=true:=by
 intro u hu;obtain⟨r,_,h⟩:=List.mem_flatMap.1 hu;simp[aS.cells]at h;rcases h with rfl|rfl|rfl|rfl|rfl<;>rfl
theorem FM{l:List Int}:∀u∈l.map (Value.int .i64),u.oneCell'=true:=by
 intro u hu;obtain⟨r,_,rfl⟩:=List.mem_map.1 hu;rfl
def RN.lastR(n:RN):aM:=n.recs.getD (n.recs.length - 1) ⟨0,0,0⟩
theorem kV(n:RN)(vr vv vb vc vo vs:Value)(w:World)(hr:aP w vr n.recs.length (n.recs.flatMap aM.cells))(hne:0<n.recs.length)(hlt:n.recs.length<=4611686018427387904):
  Calls pG 163 #[.agg #[I T n.id,I T n.nodes,vr,vv,vb,I T n.seen,I T n.last,.bool n.act,vc,vo,I T n.ops,vs,.bool false,J Z 0 0]] w fun e w'=>e=.returned (.agg #[I T n.lastR.E,I T n.lastR.P,I T n.lastR.S])/\Below w.heap.size w w':=by
 have hb0:=(Below.refl w.heap.size w).alloc (Nat.le_refl _) (G #[I T n.id,I T n.nodes,vr,vv,vb,I T n.seen,I T n.last,bool n.act,vc,vo,I T n.ops,vs,bool false,J Z 0 0] 225);obtain⟨g,cap,rfl,hg,hc⟩:=hr.at hne;have hle:n.recs.length - 1<n.recs.length:=by omega
 have j0:=hc _ _ (cO aM.cells 3 eK n.recs (n.recs.length - 1) hle 0 (by omega));have j1:=hc _ _ (cO aM.cells 3 eK n.recs (n.recs.length - 1) hle 1 (by omega));have j2:=hc _ _ (cO aM.cells 3 eK n.recs (n.recs.length - 1) hle 2 (by omega));have e:n.recs[n.recs.length - 1]=n.lastR:=by unfold RN.lastR;rw[List.getD_eq_getElem?_getD,List.getElem?_eq_getElem hle];rfl
 rw[e]at j0 j1 j2;simp[aM.cells]at j0 j1 j2;have hle2:((n.recs.length:Int) - 1)<(n.recs.length:Int):=by omega
 have hle3:(0:Int)<=(n.recs.length:Int) - 1:=by omega
 have hcast:((n.recs.length:Int) - 1)=((n.recs.length - 1:Nat):Int):=by omega
 clear e hc hr;generalize n.lastR=r at*;generalize n.recs.length - 1=k at*;go_enter Tryz.func163,Tryz.ntmps163;go_wp2;exact bodyPost_ret (v:=.agg #[I T r.E,I T r.P,I T r.S]) (by simp[results,Tryz.results163,go_sem]) rfl ⟨rfl,hb0.alloc hb0.size _⟩
def aY(vs:List aS)(e:Int):aS:=(vs.find? (fun v=>v.ep==e)).getD ⟨e,0,0,0,0⟩
theorem zL{vs:List aS}{e:Int}{t:Nat}(h:t<vs.length)(h1:vs[t].ep=e)(h2:∀j (hj:j<vs.length),j<t->vs[j].ep≠e):aY vs e=vs[t]:=by
 unfold aY
 have:vs.find? (fun v=>v.ep==e)=Y vs[t]:=by
  rw[List.find?_eq_some_iff_getElem];refine⟨by simp[h1],t,h,rfl,fun j hj=>?_⟩
  simpa using h2 j (by omega) hj
 rw[this];rfl
theorem xN{vs:List aS}{e:Int}(h2:∀j (hj:j<vs.length),vs[j].ep≠e):aY vs e=⟨e,0,0,0,0⟩:=by
 unfold aY
 have:vs.find? (fun v=>v.ep==e)=none:=by
  rw[List.find?_eq_none];intro v hv;obtain⟨j,hj,rfl⟩:=List.getElem_of_mem hv
  simpa using h2 j hj
 rw[this];rfl
theorem kW(n:RN)(vr vv vb vc vo vs:Value)(ep:Int)(w:World)(hr:aP w vv n.votes.length (n.votes.flatMap aS.cells))(hlt:n.votes.length<=4611686018427387904):
  Calls pG 172 #[.agg #[I T n.id,I T n.nodes,vr,vv,vb,I T n.seen,I T n.last,.bool n.act,vc,vo,I T n.ops,vs,.bool false,J Z 0 0],I T ep] w fun e w'=>e=.returned (.agg #[I T (aY n.votes ep).ep,I T (aY n.votes ep).pr,I T (aY n.votes ep).wa,I T (aY n.votes ep).pm,I T (aY n.votes ep).st])/\Below w.heap.size w w':=by
 have hb0:=(Below.refl w.heap.size w).alloc (Nat.le_refl _) (G #[I T n.id,I T n.nodes,vr,vv,vb,I T n.seen,I T n.last,bool n.act,vc,vo,I T n.ops,vs,bool false,J Z 0 0] 225);obtain⟨av,cv,hv⟩:=hr.shape;subst hv;have HR:=aA hr;clear hr;go_enter Tryz.func172,Tryz.ntmps172;go_wp2
 go_loop [5] (fun ix=>∃t:Nat,t<=n.votes.length/\ix=I T t/\∀j (hj:j<n.votes.length),j<t->n.votes[j].ep≠ep) (fun ix=>n.votes.length - (intOf ix).toNat)
 case atStart=>exact⟨0,by omega,rfl,fun j hj h0=>by omega⟩
 case round=>
  obtain⟨t,ht,rfl,hno⟩:=hrel;have HNo:Hid _:=hno;clear hno
  by_cases htl:t<n.votes.length
  ·obtain⟨g,cap,he,hg,hcc⟩:=aP.at HR.out (by omega);cases he;have j0:=hcc _ _ (cO aS.cells 5 gO n.votes t htl 0 (by omega));have j1:=hcc _ _ (cO aS.cells 5 gO n.votes t htl 1 (by omega));have j2:=hcc _ _ (cO aS.cells 5 gO n.votes t htl 2 (by omega));have j3:=hcc _ _ (cO aS.cells 5 gO n.votes t htl 3 (by omega));have j4:=hcc _ _ (cO aS.cells 5 gO n.votes t htl 4 (by omega));simp[aS.cells]at j0 j1 j2 j3 j4;have htl2:(t:Int)<(n.votes.length:Int):=by omega
   clear hcc
   by_cases hq:n.votes[t].ep=ep
   ·have HF:=aA (zL htl hq HNo.out);have q0:(n.votes[t].ep==ep)=true:=by simp[hq]
    generalize n.votes[t]=V at*;clear hq;go_wp2;exact bodyPost_ret (v:=.agg #[I T V.ep,I T V.pr,I T V.wa,I T V.pm,I T V.st]) (by simp[results,Tryz.results172,go_sem]) rfl ⟨by rw[HF.out],hb0.alloc hb0.size _⟩
   ·have q0:(n.votes[t].ep==ep)=false:=by simpa using hq
    have HQ:=aA hq;clear hq;generalize n.votes[t].ep=V at j0 q0;go_wp2
    go_round
    case rel=>
     refine⟨t+1,by omega,by go_num,fun j hj hjt=>?_⟩
     by_cases he:j=t
     ·subst he;exact HQ.out
     ·exact HNo.out j hj (by omega)
    case measure=>simp[intOf];omega
  ·have HF:=aA (xN (fun j hj=>HNo.out j hj (by omega)));go_wp2;exact bodyPost_ret (v:=.agg #[I T ep,I T 0,I T 0,I T 0,I T 0]) (by simp[results,Tryz.results172,go_sem]) rfl ⟨by rw[HF.out],hb0.alloc hb0.size _⟩
theorem lP(w:World)(S:Nat)(cur:Array Value)(t:TypeId)(i:Nat)(u:Value)(h:w.heap[S]?=Y (.cells cur t (0,0))):(w.setCell ⟨S,i,Z⟩ u).heap[S]?=Y (.cells (cur.setIfInBounds i u) t (0,0)):=by
 obtain⟨hl,he⟩:=Array.getElem?_eq_some_iff.1 h;simp[World.setCell,Array.getElem_modify,he,hl]
structure bO(w:World)(low X:Nat)(n:RN)(vr vv vb vc vo vs:Value):Prop where
 blk:w.heap[X]?=Y (.cells #[I T n.id,I T n.nodes,vr,vv,vb,I T n.seen,I T n.last,bool n.act,vc,vo,I T n.ops,vs,bool false,J Z 0 0] 225 (0,0))
 lx:low<=X
 r:w.ownsRow low 66 3 vr n.recs.length (n.recs.flatMap aM.cells)
 v:w.ownsRow low 275 5 vv n.votes.length (n.votes.flatMap aS.cells)
 b:w.ownsRow low 3 1 vb n.blocks.length (n.blocks.map (Value.int .i64))
section
variable {w w' : World} {low X : Nat} {n : RN} {vr vv vb vc vo vs : Value}
theorem bO.lt(h:bO w low X n vr vv vb vc vo vs):X<w.heap.size:=(Array.getElem?_eq_some_iff.1 h.blk).1
theorem bO.cell(h:bO w low X n vr vv vb vc vo vs)(i:Nat):w.cell? ⟨X,i,Z⟩=#[I T n.id,I T n.nodes,vr,vv,vb,I T n.seen,I T n.last,bool n.act,vc,vo,I T n.ops,vs,bool false,J Z 0 0][i]?:=by simp[World.cell?,h.blk]
theorem bO.free(h:bO w low X n vr vv vb vc vo vs)(i:Nat):w.frozen? ⟨X,i,Z⟩=false:=by simp[World.frozen?,h.blk]
theorem aW{base:Nat}{e t:TypeId}{size k:Nat}{v:Value}{xs:List Value}{cs:Array Value}{fr:Nat×Nat}(h:w.ownsRow base e size v k xs)(hX:w.heap[X]?=Y (.cells cs t fr))(hne:t≠e):v.ownBlock≠some X:=by
 intro hh;rcases h.2 with⟨rfl,_⟩|⟨g,cap,cur,rfl,_,hg,_⟩
 ·simp[Value.ownBlock]at hh
 ·simp[Value.ownBlock]at hh;subst hh;rw[hX]at hg;simp at hg;exact hne hg.2.1
theorem lR{base base':Nat}{e e':TypeId}{size size' k k':Nat}{v v':Value}{xs xs':List Value}(h:w.ownsRow base e size v k xs)(h':w.ownsRow base' e' size' v' k' xs')(hne:e≠e'):∀g,v.ownBlock=Y g->v'.ownBlock≠some g:=by
 intro g hg hg';rcases h.2 with⟨rfl,_⟩|⟨g1,cap,cur,rfl,_,h1,_⟩
 ·simp[Value.ownBlock]at hg
 ·simp[Value.ownBlock]at hg;subst hg;exact aW h' h1 hne hg'
theorem bO.later(h:bO w low X n vr vv vb vc vo vs)(hb:Below w.heap.size w w'):bO w' low X n vr vv vb vc vo vs:=
 ⟨(hb.block X h.lt).trans h.blk,h.lx,aH h.r (fun g hg=>hb.block g (h.r.lt g hg).2),aH h.v (fun g hg=>hb.block g (h.v.lt g hg).2),aH h.b (fun g hg=>hb.block g (h.b.lt g hg).2)⟩
end
def dJ(vs:List aS)(e:Int):List aS:=vs.filter (fun x=>x.ep != e)
def fN(vs:List aS)(v:aS):List aS:=dJ vs v.ep++[v]
theorem zM(vs:List aS)(e:Int)(t:Nat)(h:t<vs.length):dJ (vs.take (t+1)) e=if vs[t].ep=e then dJ (vs.take t) e else dJ (vs.take t) e++[vs[t]]:=by
 unfold dJ;rw[List.take_succ_eq_append_getElem h,List.filter_append]
 by_cases hq:vs[t].ep=e<;>simp[hq]
theorem BJ(vs:List aS)(e:Int)(t:Nat):(dJ (vs.take t) e).length<=t:=Nat.le_trans (List.length_filter_le _ _) (by rw[List.length_take];omega)
theorem tC:(Tryz.prog.info? 275).map (fun i=>(i.zero,i.size,i.bytes))=Y (Y (.agg #[I T 0,I T 0,I T 0,I T 0,I T 0]),5,40):=by kernel_rfl
theorem rO(low X:Nat)(n:RN)(vr vv vb vc vo vs:Value)(nv:aS)(w:World)(h:bO w low X n vr vv vb vc vo vs)(hlt:n.votes.length<=100000000):
  Calls pG 223 #[P0 (Y ⟨X,0,Z⟩),.agg #[I T nv.ep,I T nv.pr,I T nv.wa,I T nv.pm,I T nv.st]] w fun e w'=>e=.returned (.tuple #[])/\∃vv',bO w' low X {n with votes:=fN n.votes nv} vr vv' vb vc vo vs/\w.grownBy w' (Y X):=by
 obtain⟨i0,hi0,hz0,hz1,hz2⟩:=info_parts tC;have hX:=h.lt;have hXl:=h.lx;have c3:=h.cell 3;have f3:=h.free 3;simp at c3;obtain⟨av,cv,rfl,hrow⟩:=dN h.v;have H:Hid _:=h;have HR:Hid _:=hrow;clear h hrow;have hb0:=(Below.refl w.heap.size w).alloc (Nat.le_refl _) (G #[I T nv.ep,I T nv.pr,I T nv.wa,I T nv.pm,I T nv.st] 275);have hs0:(w.alloc (G #[I T nv.ep,I T nv.pr,I T nv.wa,I T nv.pm,I T nv.st] 275)).heap.size=w.heap.size+1:=by simp
 have hc0:∀i,(w.alloc (G #[I T nv.ep,I T nv.pr,I T nv.wa,I T nv.pm,I T nv.st] 275)).cell? ⟨w.heap.size,i,Z⟩=#[I T nv.ep,I T nv.pr,I T nv.wa,I T nv.pm,I T nv.st][i]?:=fun i=>World.cell?_alloc_at _ _ _ _ rfl;go_enter Tryz.func223,Tryz.ntmps223;go_wp2;generalize (w.alloc (G #[I T nv.ep,I T nv.pr,I T nv.wa,I T nv.pm,I T nv.st] 275))=W0 at*
 go_loopw [4,5] (fun lx ix wr=>∃t:Nat,t<=n.votes.length/\ix=I T t/\wr.ownsRow W0.heap.size 275 5 lx (dJ (n.votes.take t) nv.ep).length ((dJ (n.votes.take t) nv.ep).flatMap aS.cells)/\Below W0.heap.size W0 wr) (fun _ ix _=>n.votes.length - (intOf ix).toNat)
 case atStart=>exact⟨0,by omega,rfl,World.ownsRow_nil _ _ _ _,Below.refl _ _⟩
 case round=>
  obtain⟨t,ht,rfl,ho,hb⟩:=hrel;have hbs:=hb.size;have hwr:=hb0.trans (hb.mono (by omega));have HO:Hid _:=ho;have HB:Hid _:=hwr;have hcX:=(hwr.cell (p:=⟨X,3,Z⟩) hX).trans c3;have hcV:∀i,wr.cell? ⟨w.heap.size,i,Z⟩=_:=fun i=>(hb.cell (p:=⟨w.heap.size,i,Z⟩) (by show w.heap.size<_;omega)).trans (hc0 i);have k0:=hcV 0;have k1:=hcV 1;have k2:=hcV 2;have k3:=hcV 3;have k4:=hcV 4;simp at k0 k1 k2 k3 k4;have hkl:=BJ n.votes nv.ep t
  obtain⟨la,lc,rfl⟩:∃la lc,u4=J la (dJ (n.votes.take t) nv.ep).length lc:=by
   obtain⟨x,y,h1,_⟩:=dN ho;exact⟨x,y,h1⟩
  clear ho hcV
  by_cases htl:t<n.votes.length
  ·obtain⟨g,rfl,_,hgl,hcc⟩:=HR.out.resolve_left (by omega);have j0:=(hwr.cell (p:=⟨g,t*5+0,Z⟩) hgl).trans (hcc _ _ (cO aS.cells 5 gO n.votes t htl 0 (by omega)));have j1:=(hwr.cell (p:=⟨g,t*5+1,Z⟩) hgl).trans (hcc _ _ (cO aS.cells 5 gO n.votes t htl 1 (by omega)));have j2:=(hwr.cell (p:=⟨g,t*5+2,Z⟩) hgl).trans (hcc _ _ (cO aS.cells 5 gO n.votes t htl 2 (by omega)));have j3:=(hwr.cell (p:=⟨g,t*5+3,Z⟩) hgl).trans (hcc _ _ (cO aS.cells 5 gO n.votes t htl 3 (by omega)));have j4:=(hwr.cell (p:=⟨g,t*5+4,Z⟩) hgl).trans (hcc _ _ (cO aS.cells 5 gO n.votes t htl 4 (by omega)));simp[aS.cells]at j0 j1 j2 j3 j4;have htl2:(t:Int)<(n.votes.length:Int):=by omega
   have HK:Hid _:=zM n.votes nv.ep t htl;have HBx:Hid _:=hb;clear hcc hb hwr
   by_cases hq:n.votes[t].ep=nv.ep
   ·have q0:(n.votes[t].ep != nv.ep)=false:=by simp[hq]
    have HK2:Hid (dJ (n.votes.take (t+1)) nv.ep=dJ (n.votes.take t) nv.ep):=by unfold Hid;rw[HK.out,if_pos hq]
    generalize n.votes[t]=V at*;clear hq HK;go_wp2
    go_region
    all_goals go_wp2
    all_goals go_roundw
    case rel=>exact⟨t+1,by omega,by go_num,by rw[HK2.out];exact HO.out,HBx.out.drew⟩
    case measure=>simp[intOf];omega
   ·have q0:(n.votes[t].ep != nv.ep)=true:=by simpa using hq
    have HK2:Hid (dJ (n.votes.take (t+1)) nv.ep=dJ (n.votes.take t) nv.ep++[n.votes[t]]):=by unfold Hid;rw[HK.out,if_neg hq]
    generalize n.votes[t]=V at*;clear hq HK;go_wp2
    go_region
    go_wp2_with(at_builtin;go_loud (refine wpList_append_own _ rfl _ _ 218 rfl W0.heap.size 275 i0 (.agg #[I T 0,I T 0,I T 0,I T 0,I T 0]) 5 40 Tryz.underlying218 hi0 hz0 hz1 hz2 rfl (by decide) _ (dJ (n.votes.take t) nv.ep).length ((dJ (n.votes.take t) nv.ep).flatMap aS.cells) rfl (World.ownsRow.drew (World.ownsRow.alloc HO.out _)) ⟨wr.heap.size,0,Z⟩ 1 1 [I T V.ep,I T V.pr,I T V.wa,I T V.pm,I T V.st] rfl rfl ?c1 ?c2 ?c3 ?c4 ?c5 ?_))
    case c1=>
     intro j u hu;rw[Go.WideShapes.add_plain];refine(World.cell?_alloc_at _ _ _ _ (by rfl)).trans ?_
     simpa using hu
    case c2=>intro u hu;simp at hu;rcases hu with rfl|rfl|rfl|rfl|rfl<;>rfl
    case c3=>unfold maxLen;omega
    case c4=>omega
    case c5=>show _<=(World.alloc _ _).heap.size;simp;omega
    intro v' w9 ho' hg' _;obtain⟨xa,xc,rfl⟩:=aO ho'
    have HN:Hid (w9.ownsRow W0.heap.size 275 5 (J xa ((dJ (n.votes.take t) nv.ep).length+1) xc) (dJ (n.votes.take (t+1)) nv.ep).length ((dJ (n.votes.take (t+1)) nv.ep).flatMap aS.cells)):=by
     unfold Hid;rw[HK2.out,List.length_append,List.flatMap_append,hs0];simp only[List.length_cons,List.length_nil,List.flatMap_cons,List.flatMap_nil,List.append_nil];exact ho'
    have hb9:=(Below.alloc HBx.out hbs _).drew.grown hg' (by show _<=(World.alloc _ _).heap.size;simp;omega) (fun g hg=>(World.ownsRow.lt HO.out g hg).1);have HB9:Hid _:=hb9;clear ho' hg' hb9;go_wp2
    go_roundw
    case rel=>exact⟨t+1,by omega,by go_num,HN.out,HB9.out⟩
    case measure=>simp[intOf];omega
  ·obtain rfl:t=n.votes.length:=by omega
   have hT:n.votes.take n.votes.length=n.votes:=List.take_length;have fX:=(hwr.frozen (p:=⟨X,3,Z⟩) hX).trans f3;rw[hT]at hkl;have HO2:Hid (wr.ownsRow W0.heap.size 275 5 (J la (dJ n.votes nv.ep).length lc) (dJ n.votes nv.ep).length ((dJ n.votes nv.ep).flatMap aS.cells)):=by have:=HO.out;unfold Hid;rw[hT]at this;exact this
   rw[hT];have HBw:=aA hwr;clear HO hb hwr hT
   go_wp2_with(at_builtin;go_loud (refine wpList_append_own _ rfl _ _ 218 rfl W0.heap.size 275 i0 (.agg #[I T 0,I T 0,I T 0,I T 0,I T 0]) 5 40 Tryz.underlying218 hi0 hz0 hz1 hz2 rfl (by decide) _ (dJ n.votes nv.ep).length ((dJ n.votes nv.ep).flatMap aS.cells) rfl (World.ownsRow.alloc HO2.out _) ⟨wr.heap.size,0,Z⟩ 1 1 [I T nv.ep,I T nv.pr,I T nv.wa,I T nv.pm,I T nv.st] rfl rfl ?c1 ?c2 ?c3 ?c4 ?c5 ?_))
   case c1=>
    intro j u hu;rw[Go.WideShapes.add_plain];refine(World.cell?_alloc_at _ _ _ _ (by rfl)).trans ?_
    simpa using hu
   case c2=>intro u hu;simp at hu;rcases hu with rfl|rfl|rfl|rfl|rfl<;>rfl
   case c3=>unfold maxLen;omega
   case c4=>omega
   case c5=>simp;omega
   intro v' w9 ho' hg' _;obtain⟨xa,xc,rfl⟩:=aO ho';have hs9:=hg'.size;have hb9:=(Below.alloc HBw.out (by omega) _).grown hg' (by simp;omega) (fun g hg=>by have:=(World.ownsRow.lt HO2.out g hg).1;omega);have cX9:=(hb9.cell (p:=⟨X,3,Z⟩) hX).trans c3;have fX9:=(hb9.frozen (p:=⟨X,3,Z⟩) hX).trans f3;have HO9:Hid _:=ho';have HB9:Hid _:=hb9;clear ho' hg' hb9;go_wp2;refine bodyPost_end (v:=.tuple #[]) (by simp[results,Tryz.results223,go_sem]) rfl ⟨rfl,J xa ((dJ n.votes nv.ep).length+1) xc,?_,?_⟩
   ·have hg:=iZ w9 ⟨X,3,Z⟩ (J xa ((dJ n.votes nv.ep).length+1) xc);have h9:=H.out.later HB9.out;refine⟨?_,hXl,?_,?_,?_⟩
    ·rw[lP w9 X _ _ 3 _ h9.blk];rfl
    ·exact ownsRow_setCell_other h9.r (aW h9.r h9.blk (by decide)) _
    ·have h1:w9.ownsRow low 275 5 (J xa ((dJ n.votes nv.ep).length+1) xc) (fN n.votes nv).length ((fN n.votes nv).flatMap aS.cells):=by
      unfold fN;rw[List.length_append,List.flatMap_append];simp only[List.length_cons,List.length_nil,List.flatMap_cons,List.flatMap_nil,List.append_nil];exact cM HO9.out (by omega)
     exact ownsRow_setCell_other h1 (aW h1 h9.blk (by decide)) _
    ·exact ownsRow_setCell_other h9.b (aW h9.b h9.blk (by decide)) _
   ·have hg:=iZ w9 ⟨X,3,Z⟩ (J xa ((dJ n.votes nv.ep).length+1) xc);refine⟨hg.os.trans HB9.out.os,hg.tape.trans HB9.out.tape,hg.output.trans HB9.out.output,Nat.le_trans HB9.out.size hg.size,fun k hk hne=>(hg.block k (Nat.lt_of_lt_of_le hk HB9.out.size) hne).trans (HB9.out.block k hk)⟩
theorem bO.c14{w:World}{low X:Nat}{n:RN}{vr vv vb vc vo vs:Value}(h:bO w low X n vr vv vb vc vo vs):w.cell? ⟨X,0,Z⟩=Y (Value.int .i64 n.id)/\w.cell? ⟨X,1,Z⟩=Y (Value.int .i64 n.nodes)/\w.cell? ⟨X,2,Z⟩=Y (vr)/\w.cell? ⟨X,3,Z⟩=Y (vv)/\w.cell? ⟨X,4,Z⟩=Y (vb)/\w.cell? ⟨X,5,Z⟩=Y (Value.int .i64 n.seen)/\w.cell? ⟨X,6,Z⟩=Y (Value.int .i64 n.last)/\w.cell? ⟨X,7,Z⟩=Y (Value.bool n.act)/\w.cell? ⟨X,8,Z⟩=Y (vc)/\w.cell? ⟨X,9,Z⟩=Y (vo)/\w.cell? ⟨X,10,Z⟩=Y (Value.int .i64 n.ops)/\w.cell? ⟨X,11,Z⟩=Y (vs)/\w.cell? ⟨X,12,Z⟩=Y (Value.bool false)/\w.cell? ⟨X,13,Z⟩=Y (J Z 0 0):=⟨h.cell 0,h.cell 1,h.cell 2,h.cell 3,h.cell 4,h.cell 5,h.cell 6,h.cell 7,h.cell 8,h.cell 9,h.cell 10,h.cell 11,h.cell 12,h.cell 13⟩
def aT(k id e b wa p s q bl v:Int)(zs:List Int):List UInt8:=cH k.toNat id.toNat [0,e,b,wa,p,s,q,bl,v,(zs.length:Int)] zs
def l9(w:World)(low:Nat)(g:Nat)(dst:Int)(bs:List UInt8):Prop:=low<=g/\g<w.heap.size/\w.cell? ⟨g,0,Z⟩=Y (I T dst)/\w.cell? ⟨g,1,Z⟩=Y (.string (aC bs))
theorem kD(n:RN)(vr vv vb vc vo vs:Value)(dst k f e b wa p s q bl v:Int)(a:Option Addr)(c:Nat)(zs:List Int)(w:World)(hk1:1<=k)(hk2:k<=10)(hf0:0<=n.id)(hf:n.id<5)(hz4:zs.length<=4)(hz9:k≠9->zs=[])(hin:bG w a zs):
  Calls pG 222 #[.agg #[I T n.id,I T n.nodes,vr,vv,vb,I T n.seen,I T n.last,.bool n.act,vc,vo,I T n.ops,vs,.bool false,J Z 0 0],I T dst,.agg #[I T k,I T f,I T e,I T b,I T wa,I T p,I T s,I T q,I T bl,I T v,J a zs.length c]] w fun r w'=>∃g,r=.returned (J (Y ⟨g,0,Z⟩) 1 1)/\l9 w' w.heap.size g dst (aT k n.id e b wa p s q bl v zs)/\Below w.heap.size w w':=by
 have hb0:=((Below.refl w.heap.size w).alloc (Nat.le_refl _) (G #[I T n.id,I T n.nodes,vr,vv,vb,I T n.seen,I T n.last,bool n.act,vc,vo,I T n.ops,vs,bool false,J Z 0 0] 225)).alloc (by simp) (G #[I T k,I T n.id,I T e,I T b,I T wa,I T p,I T s,I T q,I T bl,I T v,J a zs.length c] 136);have hin0:=hin.later hb0;have hs0:((w.alloc (G #[I T n.id,I T n.nodes,vr,vv,vb,I T n.seen,I T n.last,bool n.act,vc,vo,I T n.ops,vs,bool false,J Z 0 0] 225)).alloc (G #[I T k,I T n.id,I T e,I T b,I T wa,I T p,I T s,I T q,I T bl,I T v,J a zs.length c] 136)).heap.size=w.heap.size+2:=by simp
 have HI:=aA hin0;clear hin hin0;go_enter Tryz.func222,Tryz.ntmps222
 go_wp2_with fail
 refine(sI k n.id e b wa p s q bl v a c zs _ hk1 hk2 hf0 hf hz4 hz9 HI.out).mono ?_;rintro r w1 ⟨rfl,hb1⟩;have hb2:=hb0.trans (hb1.mono (by omega));have hs1:=hb1.size;have HB2:Hid _:=hb2;clear hb0 hb1 HI hb2;go_wp2;go_ret;refine⟨w1.heap.size,rfl,⟨by omega,by simp,?_,?_⟩,HB2.out.alloc (by omega) _⟩
 ·exact World.cell?_alloc_at _ _ _ _ rfl
 ·exact World.cell?_alloc_at _ _ _ _ rfl
theorem qG(n:RN)(vr vv vb vc vo vs:Value)(k f:Int)(E:Nat)(b wa p s q bl v:Int)(ms:Value)(w:World)(hf0:0<=n.id)(hf:n.id<5)(hr:aP w vr n.recs.length (n.recs.flatMap aM.cells))(hE:E+1<n.recs.length)(hlt:n.recs.length<=4611686018427387904):
  Calls pG 221 #[.agg #[I T n.id,I T n.nodes,vr,vv,vb,I T n.seen,I T n.last,.bool n.act,vc,vo,I T n.ops,vs,.bool false,J Z 0 0],.agg #[I T k,I T f,I T E,I T b,I T wa,I T p,I T s,I T q,I T bl,I T v,ms]] w fun r w'=>∃g,r=.returned (J (Y ⟨g,0,Z⟩) 1 1)/\l9 w' w.heap.size g f (aT 6 n.id E 0 0 (n.recs.getD (E+1) ⟨0,0,0⟩).P (n.recs.getD (E+1) ⟨0,0,0⟩).S 0 0 0 [])/\Below w.heap.size w w':=by
 have hb0:=((Below.refl w.heap.size w).alloc (Nat.le_refl _) (G #[I T n.id,I T n.nodes,vr,vv,vb,I T n.seen,I T n.last,bool n.act,vc,vo,I T n.ops,vs,bool false,J Z 0 0] 225)).alloc (by simp) (G #[I T k,I T f,I T E,I T b,I T wa,I T p,I T s,I T q,I T bl,I T v,ms] 136);obtain⟨g,cap,rfl,hg,hc⟩:=hr.at (by omega);have j0:=hc _ _ (cO aM.cells 3 eK n.recs (E+1) hE 0 (by omega));have j1:=hc _ _ (cO aM.cells 3 eK n.recs (E+1) hE 1 (by omega));have j2:=hc _ _ (cO aM.cells 3 eK n.recs (E+1) hE 2 (by omega));have e:n.recs.getD (E+1) ⟨0,0,0⟩=n.recs[E+1]:=by rw[List.getD_eq_getElem?_getD,List.getElem?_eq_getElem hE];rfl
 rw[e];simp[aM.cells]at j0 j1 j2;have hE2:((E:Int)+1)<(n.recs.length:Int):=by omega
 have hcast:((E:Int)+1)=((E+1:Nat):Int):=by omega
 clear e hc hr;generalize n.recs[E+1]=r at*;generalize hK:E+1=K at*;have hs0:((w.alloc (G #[I T n.id,I T n.nodes,J (Y ⟨g,0,Z⟩) n.recs.length cap,vv,vb,I T n.seen,I T n.last,bool n.act,vc,vo,I T n.ops,vs,bool false,J Z 0 0] 225)).alloc (G #[I T k,I T f,I T E,I T b,I T wa,I T p,I T s,I T q,I T bl,I T v,ms] 136)).heap.size=w.heap.size+2:=by simp
 go_enter Tryz.func221,Tryz.ntmps221
 go_wp2_with fail
 refine(kD n (J (Y ⟨g,0,Z⟩) n.recs.length cap) vv vb vc vo vs f 6 0 E 0 0 r.P r.S 0 0 0 none 0 [] _ (by omega) (by omega) hf0 hf (by simp) (by simp) (.inl rfl)).mono ?_;rintro r1 w1 ⟨g1,rfl,ho1,hb1⟩;have HO1:Hid _:=ho1;have hz:w.heap.size<=(((w.alloc (G #[I T n.id,I T n.nodes,J (Y ⟨g,0,Z⟩) n.recs.length cap,vv,vb,I T n.seen,I T n.last,bool n.act,vc,vo,I T n.ops,vs,bool false,J Z 0 0] 225)).alloc (G #[I T k,I T f,I T E,I T b,I T wa,I T p,I T s,I T q,I T bl,I T v,ms] 136)).alloc (G #[I T r.E,I T r.P,I T r.S] 66)).heap.size:=by simp;omega
 have hb2:=(hb0.alloc (by simp;omega) (G #[I T r.E,I T r.P,I T r.S] 66)).trans (hb1.mono hz);have HB2:Hid _:=hb2;have hg1:=Nat.le_trans hz ho1.1;clear hb0 hb1 hb2 ho1;go_wp2;go_ret;exact⟨g1,rfl,⟨hg1,HO1.out.2⟩,HB2.out⟩
theorem aD.set{X:Nat}{a b:World}(h:aD X a b)(i:Nat)(u:Value):aD X a (b.setCell ⟨X,i,Z⟩ u):=h.trans (aD.setCell b ⟨X,i,Z⟩ u)
theorem aD.drw{X:Nat}{a b:World}(h:aD X a b):aD X a b.drew:=h.trans ⟨rfl,rfl,rfl,rfl,fun _ _=>rfl⟩
theorem aD.self(X:Nat)(a:World):aD X a a:=⟨rfl,rfl,rfl,rfl,fun _ _=>rfl⟩
theorem gI{X:Nat}{b:World}{cur:Array Value}{t:TypeId}(h:b.heap[X]?=Y (.cells cur t (0,0)))(i:Nat)(u:Value):(b.setCell ⟨X,i,Z⟩ u).heap[X]?=Y (.cells (cur.setIfInBounds i u) t (0,0)):=lP b X cur t i u h
theorem oV{X:Nat}{b:World}{o:Obj}(h:b.heap[X]?=Y o):b.drew.heap[X]?=Y o:=h
def RN.takes(n:RN)(p:Int):Bool:=decide (p=n.id+1)&&decide (n.seen<n.lastR.E+1)
def RN.learn(n:RN)(p s:Int):RN:={n with recs:=n.recs++[⟨n.lastR.E+1,p,s⟩],act:=n.takes p,seen:=if n.takes p=true then n.lastR.E+1 else n.seen,last:=if n.takes p=true then 0 else n.last,cs:=[],os:=[]}
theorem bO.put{w w':World}{low X:Nat}{n m:RN}{vr vv vb vc vo vs vr' vc' vo':Value}(h:bO w low X n vr vv vb vc vo vs)(hv:m.votes=n.votes)(hb:m.blocks=n.blocks)(hX:w'.heap[X]?=Y (.cells #[I T m.id,I T m.nodes,vr',vv,vb,I T m.seen,I T m.last,bool m.act,vc',vo',I T m.ops,vs,bool false,J Z 0 0] 225 (0,0)))(hr:w'.ownsRow low 66 3 vr' m.recs.length (m.recs.flatMap aM.cells))(hk:∀g,g<w.heap.size->g≠X->vr.ownBlock≠some g->w'.heap[g]?=w.heap[g]?):bO w' low X m vr' vv vb vc' vo' vs:=by
 refine⟨hX,h.lx,hr,?_,?_⟩
 ·rw[hv];exact aH h.v (fun g hg=>hk g (h.v.lt g hg).2 (fun hh=>aW h.v h.blk (by decide) (hh ▸ hg)) (fun hh=>lR h.r h.v (by decide) g hh hg))
 ·rw[hb];exact aH h.b (fun g hg=>hk g (h.b.lt g hg).2 (fun hh=>aW h.b h.blk (by decide) (hh ▸ hg)) (fun hh=>lR h.r h.b (by decide) g hh hg))
theorem BK(low X:Nat)(n:RN)(vr vv vb vc vo vs:Value)(p s:Int)(w:World)(h:bO w low X n vr vv vb vc vo vs)(hlw:low<=w.heap.size)(hne:0<n.recs.length)(hlt:n.recs.length<=100000000)(hid:0<=n.id/\n.id<5)(hE:0<=n.lastR.E/\n.lastR.E<=1000000000000):
  Calls pG 166 #[P0 (Y ⟨X,0,Z⟩),I T p,I T s] w fun e w'=>e=.returned (.tuple #[])/\∃vr',bO w' low X (n.learn p s) vr' vv vb (J Z 0 0) (J Z 0 0) vs/\aK (fun g=>g=X∨vr.ownBlock=Y g) w w':=by
 obtain⟨i0,hi0,hz0,hz1,hz2⟩:=info_parts l6;have hX:=h.lt;have hcX:=h.cell;have hfX:=h.free;obtain⟨ar,cr,hvr,hrow⟩:=dN h.r;subst hvr;have H:Hid _:=h;have HRV:=aA (aP.of_owns h.r);clear h hrow;have c0:=hcX 0;have f0:=hfX 0;have c1:=hcX 1;have f1:=hfX 1;have c2:=hcX 2;have f2:=hfX 2;have c3:=hcX 3;have f3:=hfX 3;have c4:=hcX 4;have f4:=hfX 4;have c5:=hcX 5;have f5:=hfX 5;have c6:=hcX 6;have f6:=hfX 6;have c7:=hcX 7;have f7:=hfX 7;have c8:=hcX 8;have f8:=hfX 8;have c9:=hcX 9;have f9:=hfX 9;have c10:=hcX 10;have f10:=hfX 10;have c11:=hcX 11;have f11:=hfX 11;have c12:=hcX 12;have f12:=hfX 12;have c13:=hcX 13;have f13:=hfX 13;simp at c0 c1 c2 c3 c4 c5 c6 c7 c8 c9 c10 c11 c12 c13;go_enter Tryz.func166,Tryz.ntmps166
 go_wp2_with fail
 refine(kV n (J ar n.recs.length cr) vv vb vc vo vs w HRV.out hne (by omega)).mono ?_;rintro r w1 ⟨rfl,hb1⟩;have h1:bO w1 low X n (J ar n.recs.length cr) vv vb vc vo vs:=H.out.later hb1;have hs1:=hb1.size;have d0:=h1.cell 0;have e0:=h1.free 0;have d1:=h1.cell 1;have e1:=h1.free 1;have d2:=h1.cell 2;have e2:=h1.free 2;have d3:=h1.cell 3;have e3:=h1.free 3;have d4:=h1.cell 4;have e4:=h1.free 4;have d5:=h1.cell 5;have e5:=h1.free 5;have d6:=h1.cell 6;have e6:=h1.free 6;have d7:=h1.cell 7;have e7:=h1.free 7;have d8:=h1.cell 8;have e8:=h1.free 8;have d9:=h1.cell 9;have e9:=h1.free 9;have d10:=h1.cell 10;have e10:=h1.free 10;have d11:=h1.cell 11;have e11:=h1.free 11;have d12:=h1.cell 12;have e12:=h1.free 12;have d13:=h1.cell 13;have e13:=h1.free 13;simp at d0 d1 d2 d3 d4 d5 d6 d7 d8 d9 d10 d11 d12 d13;clear c0 f0 c1 f1 c2 f2 c3 f3 c4 f4 c5 f5 c6 f6 c7 f7 c8 f8 c9 f9 c10 f10 c11 f11 c12 f12 c13 f13 hcX hfX;have HB1:=aA hb1;have H1:=aA h1;have hX1:=h1.lt;clear hb1 h1 HRV
 go_wp2_with fail
 have hRX:Value.ownBlock (J ar n.recs.length cr)≠some X:=aW H1.out.r H1.out.blk (by decide);have hRl:=fun g hg=>World.ownsRow.lt H1.out.r g hg
 go_region_law (refine gC rfl (.tmp 22) (.tmp 24) 23 rfl low 66 i0 (.agg #[I T 0,I T 0,I T 0]) 3 24 Tryz.underlying23 hi0 hz0 hz1 hz2 rfl (by decide) (J ar n.recs.length cr) n.recs.length (n.recs.flatMap aM.cells) (by simp[Act.eval]) (by exact((H1.out.r.alloc _).alloc _).drew) ⟨w1.heap.size+1,0,Z⟩ 1 1 [I T (n.lastR.E+1),I T p,I T s] (by omega) (by simp[Act.eval]) rfl (by intro j u hu;rw[Go.WideShapes.add_plain];refine(World.cell?_alloc_at _ _ _ _ (by simp)).trans ?_;simpa using hu) (by intro u hu;simp at hu;rcases hu with rfl|rfl|rfl<;>rfl) (by unfold maxLen;omega) (by omega) (by show _<=(World.alloc _ _).heap.size;simp;omega) ?_;intro v' w2 ho' hg' hloc;obtain⟨va,vc2,rfl⟩:=aO ho';have hX2:w2.heap[X]?=w1.heap[X]?:=(hg'.block X (by show _<(World.alloc _ _).heap.size;simp;omega) (Ne.symm hRX)).trans ((heap_alloc_old _ _ (by simp;omega)).trans (heap_alloc_old _ _ hX1));have hM2:w2.heap[w1.heap.size]?=Y (G #[I T (n.lastR.E+1),I T p,I T s] 66 (0,0)):=(hg'.block w1.heap.size (by show _<(World.alloc _ _).heap.size;simp<;>omega) (fun hh=>by have:=(hRl _ hh.symm).2;omega)).trans ((heap_alloc_old _ _ (by simp<;>omega)).trans (heap_alloc_new _ _));have k4:w2.cell? ⟨X,2,Z⟩=Y (J ar n.recs.length cr):=(World.cell?_of_block (w:=w1) (a:=⟨X,2,Z⟩) hX2).trans d2;have kf:w2.frozen? ⟨X,2,Z⟩=false:=(World.frozen?_of_block (w:=w1) (a:=⟨X,2,Z⟩) hX2).trans e2)
 all_goals
  have HO2:Hid _:=ho';have hs2:w1.heap.size+2<=w2.heap.size:=Nat.le_trans (by show _<=(World.alloc _ _).heap.size;simp<;>omega) hg'.size;have HG2:Hid (∀g,g<w1.heap.size->Value.ownBlock (J ar n.recs.length cr)≠some g->w2.heap[g]?=w1.heap[g]?):=fun g hg hne=>(hg'.block g (by show _<(World.alloc _ _).heap.size;simp;omega) (Ne.symm hne)).trans ((heap_alloc_old _ _ (by simp;omega)).trans (heap_alloc_old _ _ hg));have HQ2:Hid (w2.os=w1.os/\w2.tape=w1.tape/\w2.output=w1.output):=⟨hg'.os,hg'.tape,hg'.output⟩;have hM0:∀i,w2.cell? ⟨w1.heap.size,i,Z⟩=#[I T (n.lastR.E+1),I T p,I T s][i]?:=fun i=>by simp[World.cell?,hM2]
  have m0:=hM0 0;simp at m0;have HX2:Hid _:=hX2;have k0:=(World.cell?_of_block (w:=w1) (a:=⟨X,0,Z⟩) hX2).trans d0;have x0:=(World.frozen?_of_block (w:=w1) (a:=⟨X,0,Z⟩) hX2).trans e0;have k1:=(World.cell?_of_block (w:=w1) (a:=⟨X,1,Z⟩) hX2).trans d1;have x1:=(World.frozen?_of_block (w:=w1) (a:=⟨X,1,Z⟩) hX2).trans e1;have k2:=(World.cell?_of_block (w:=w1) (a:=⟨X,2,Z⟩) hX2).trans d2;have x2:=(World.frozen?_of_block (w:=w1) (a:=⟨X,2,Z⟩) hX2).trans e2;have k3:=(World.cell?_of_block (w:=w1) (a:=⟨X,3,Z⟩) hX2).trans d3;have x3:=(World.frozen?_of_block (w:=w1) (a:=⟨X,3,Z⟩) hX2).trans e3;have k4:=(World.cell?_of_block (w:=w1) (a:=⟨X,4,Z⟩) hX2).trans d4;have x4:=(World.frozen?_of_block (w:=w1) (a:=⟨X,4,Z⟩) hX2).trans e4;have k5:=(World.cell?_of_block (w:=w1) (a:=⟨X,5,Z⟩) hX2).trans d5;have x5:=(World.frozen?_of_block (w:=w1) (a:=⟨X,5,Z⟩) hX2).trans e5;have k6:=(World.cell?_of_block (w:=w1) (a:=⟨X,6,Z⟩) hX2).trans d6;have x6:=(World.frozen?_of_block (w:=w1) (a:=⟨X,6,Z⟩) hX2).trans e6;have k7:=(World.cell?_of_block (w:=w1) (a:=⟨X,7,Z⟩) hX2).trans d7;have x7:=(World.frozen?_of_block (w:=w1) (a:=⟨X,7,Z⟩) hX2).trans e7;have k8:=(World.cell?_of_block (w:=w1) (a:=⟨X,8,Z⟩) hX2).trans d8;have x8:=(World.frozen?_of_block (w:=w1) (a:=⟨X,8,Z⟩) hX2).trans e8;have k9:=(World.cell?_of_block (w:=w1) (a:=⟨X,9,Z⟩) hX2).trans d9;have x9:=(World.frozen?_of_block (w:=w1) (a:=⟨X,9,Z⟩) hX2).trans e9;have k10:=(World.cell?_of_block (w:=w1) (a:=⟨X,10,Z⟩) hX2).trans d10;have x10:=(World.frozen?_of_block (w:=w1) (a:=⟨X,10,Z⟩) hX2).trans e10;have k11:=(World.cell?_of_block (w:=w1) (a:=⟨X,11,Z⟩) hX2).trans d11;have x11:=(World.frozen?_of_block (w:=w1) (a:=⟨X,11,Z⟩) hX2).trans e11;have k12:=(World.cell?_of_block (w:=w1) (a:=⟨X,12,Z⟩) hX2).trans d12;have x12:=(World.frozen?_of_block (w:=w1) (a:=⟨X,12,Z⟩) hX2).trans e12;have k13:=(World.cell?_of_block (w:=w1) (a:=⟨X,13,Z⟩) hX2).trans d13;have x13:=(World.frozen?_of_block (w:=w1) (a:=⟨X,13,Z⟩) hX2).trans e13;clear ho' hg' hloc hM0 hM2 hX2 k4 kf;clear d0 e0 d1 e1 d2 e2 d3 e3 d4 e4 d5 e5 d6 e6 d7 e7 d8 e8 d9 e9 d10 e10 d11 e11 d12 e12 d13 e13
 all_goals go_wp2_with fail
 all_goals
  have HBLK:=aA (HX2.out.trans H1.out.blk)
  by_cases hp:p=n.id+1
  ·have q1:(p==n.id+1)=true:=by simpa using hp
   by_cases hs:n.seen<n.lastR.E+1
   ·have htk:n.takes p=true:=by unfold RN.takes;simp[hp,hs]
    have HL:Hid (n.learn p s={n with recs:=n.recs++[⟨n.lastR.E+1,p,s⟩],act:=true,seen:=n.lastR.E+1,last:=0,cs:=[],os:=[]}):=by unfold Hid RN.learn;rw[htk];rfl
    clear hp htk
    go_region
    go_wp2
    first|(refine bodyPost_end (v:=.tuple #[]) (by simp[results,Tryz.results166,go_sem]) rfl ⟨rfl,J va (n.recs.length+1) vc2,?_,?_⟩)|(refine bodyPost_end (v:=.tuple #[]) (by simp[results,Tryz.results166,go_sem]) rfl ⟨⟨J va (n.recs.length+1) vc2,?_⟩,?_⟩)|(refine bodyPost_end (v:=.tuple #[]) (by simp[results,Tryz.results166,go_sem]) rfl ⟨rfl,⟨J va (n.recs.length+1) vc2,?_⟩,?_⟩)
    ·refine H1.out.put (m:=n.learn p s) (vr':=J va (n.recs.length+1) vc2) rfl rfl ?_ ?_ ?_
     ·rw[HL.out];refine(oV (gI (gI (gI (gI (gI (gI HBLK.out _ _) _ _) _ _) _ _) _ _) _ _)).trans ?_;rfl
     ·have hb:aD X w2 ((((((w2.setCell ⟨X,2,Z⟩ (J va (n.recs.length+1) vc2)).setCell ⟨X,8,Z⟩ (J Z 0 0)).setCell ⟨X,9,Z⟩ (J Z 0 0)).setCell ⟨X,7,Z⟩ (bool true)).setCell ⟨X,5,Z⟩ (I T (n.lastR.E+1))).setCell ⟨X,6,Z⟩ (I T 0)).drew:=((((((((aD.self X w2).set _ _).set _ _).set _ _).set _ _).set _ _).set _ _)).drw
      have h9:w2.ownsRow low 66 3 (J va (n.recs.length+1) vc2) (n.learn p s).recs.length ((n.learn p s).recs.flatMap aM.cells):=by
       unfold RN.learn;simp only[List.length_append,List.flatMap_append,List.length_cons,List.length_nil,List.flatMap_cons,List.flatMap_nil,List.append_nil];exact HO2.out
      exact aH h9 (fun g hg=>hb.block g (fun hh=>aW h9 HBLK.out (by decide) (hh ▸ hg)))
     ·intro g hg hgX hgo;have hb:aD X w2 ((((((w2.setCell ⟨X,2,Z⟩ (J va (n.recs.length+1) vc2)).setCell ⟨X,8,Z⟩ (J Z 0 0)).setCell ⟨X,9,Z⟩ (J Z 0 0)).setCell ⟨X,7,Z⟩ (bool true)).setCell ⟨X,5,Z⟩ (I T (n.lastR.E+1))).setCell ⟨X,6,Z⟩ (I T 0)).drew:=((((((((aD.self X w2).set _ _).set _ _).set _ _).set _ _).set _ _).set _ _)).drw;exact(hb.block g hgX).trans (HG2.out g hg hgo)
    ·have hb:aD X w2 ((((((w2.setCell ⟨X,2,Z⟩ (J va (n.recs.length+1) vc2)).setCell ⟨X,8,Z⟩ (J Z 0 0)).setCell ⟨X,9,Z⟩ (J Z 0 0)).setCell ⟨X,7,Z⟩ (bool true)).setCell ⟨X,5,Z⟩ (I T (n.lastR.E+1))).setCell ⟨X,6,Z⟩ (I T 0)).drew:=((((((((aD.self X w2).set _ _).set _ _).set _ _).set _ _).set _ _).set _ _)).drw;refine⟨hb.os.trans (HQ2.out.1.trans HB1.out.os),hb.tape.trans (HQ2.out.2.1.trans HB1.out.tape),hb.output.trans (HQ2.out.2.2.trans HB1.out.output),by rw[hb.size];omega,fun g hg hA=>?_⟩;exact(hb.block g (fun hh=>hA (.inl hh))).trans ((HG2.out g (by omega) (fun hh=>hA (.inr hh))).trans (HB1.out.block g hg))
   ·have htk:n.takes p=false:=by unfold RN.takes;simp[hs]
    have HL:Hid (n.learn p s={n with recs:=n.recs++[⟨n.lastR.E+1,p,s⟩],act:=false,seen:=n.seen,last:=n.last,cs:=[],os:=[]}):=by unfold Hid RN.learn;rw[htk];rfl
    clear hp htk
    go_region
    go_wp2
    first|(refine bodyPost_end (v:=.tuple #[]) (by simp[results,Tryz.results166,go_sem]) rfl ⟨rfl,J va (n.recs.length+1) vc2,?_,?_⟩)|(refine bodyPost_end (v:=.tuple #[]) (by simp[results,Tryz.results166,go_sem]) rfl ⟨⟨J va (n.recs.length+1) vc2,?_⟩,?_⟩)|(refine bodyPost_end (v:=.tuple #[]) (by simp[results,Tryz.results166,go_sem]) rfl ⟨rfl,⟨J va (n.recs.length+1) vc2,?_⟩,?_⟩)
    ·refine H1.out.put (m:=n.learn p s) (vr':=J va (n.recs.length+1) vc2) rfl rfl ?_ ?_ ?_
     ·rw[HL.out];refine(oV (gI (gI (gI (gI HBLK.out _ _) _ _) _ _) _ _)).trans ?_;rfl
     ·have hb:aD X w2 ((((w2.setCell ⟨X,2,Z⟩ (J va (n.recs.length+1) vc2)).setCell ⟨X,8,Z⟩ (J Z 0 0)).setCell ⟨X,9,Z⟩ (J Z 0 0)).setCell ⟨X,7,Z⟩ (bool false)).drew:=(((((aD.self X w2).set _ _).set _ _).set _ _).set _ _).drw
      have h9:w2.ownsRow low 66 3 (J va (n.recs.length+1) vc2) (n.learn p s).recs.length ((n.learn p s).recs.flatMap aM.cells):=by
       unfold RN.learn;simp only[List.length_append,List.flatMap_append,List.length_cons,List.length_nil,List.flatMap_cons,List.flatMap_nil,List.append_nil];exact HO2.out
      exact aH h9 (fun g hg=>hb.block g (fun hh=>aW h9 HBLK.out (by decide) (hh ▸ hg)))
     ·intro g hg hgX hgo;have hb:aD X w2 ((((w2.setCell ⟨X,2,Z⟩ (J va (n.recs.length+1) vc2)).setCell ⟨X,8,Z⟩ (J Z 0 0)).setCell ⟨X,9,Z⟩ (J Z 0 0)).setCell ⟨X,7,Z⟩ (bool false)).drew:=(((((aD.self X w2).set _ _).set _ _).set _ _).set _ _).drw;exact(hb.block g hgX).trans (HG2.out g hg hgo)
    ·have hb:aD X w2 ((((w2.setCell ⟨X,2,Z⟩ (J va (n.recs.length+1) vc2)).setCell ⟨X,8,Z⟩ (J Z 0 0)).setCell ⟨X,9,Z⟩ (J Z 0 0)).setCell ⟨X,7,Z⟩ (bool false)).drew:=(((((aD.self X w2).set _ _).set _ _).set _ _).set _ _).drw;refine⟨hb.os.trans (HQ2.out.1.trans HB1.out.os),hb.tape.trans (HQ2.out.2.1.trans HB1.out.tape),hb.output.trans (HQ2.out.2.2.trans HB1.out.output),by rw[hb.size];omega,fun g hg hA=>?_⟩;exact(hb.block g (fun hh=>hA (.inl hh))).trans ((HG2.out g (by omega) (fun hh=>hA (.inr hh))).trans (HB1.out.block g hg))
  ·have q1:(p==n.id+1)=false:=by simpa using hp
   have htk:n.takes p=false:=by unfold RN.takes;simp[hp]
   have HL:Hid (n.learn p s={n with recs:=n.recs++[⟨n.lastR.E+1,p,s⟩],act:=false,seen:=n.seen,last:=n.last,cs:=[],os:=[]}):=by unfold Hid RN.learn;rw[htk];rfl
   clear hp htk
   go_region
   go_wp2
   first|(refine bodyPost_end (v:=.tuple #[]) (by simp[results,Tryz.results166,go_sem]) rfl ⟨rfl,J va (n.recs.length+1) vc2,?_,?_⟩)|(refine bodyPost_end (v:=.tuple #[]) (by simp[results,Tryz.results166,go_sem]) rfl ⟨⟨J va (n.recs.length+1) vc2,?_⟩,?_⟩)|(refine bodyPost_end (v:=.tuple #[]) (by simp[results,Tryz.results166,go_sem]) rfl ⟨rfl,⟨J va (n.recs.length+1) vc2,?_⟩,?_⟩)
   ·refine H1.out.put (m:=n.learn p s) (vr':=J va (n.recs.length+1) vc2) rfl rfl ?_ ?_ ?_
    ·rw[HL.out];refine(oV (gI (gI (gI (gI HBLK.out _ _) _ _) _ _) _ _)).trans ?_;rfl
    ·have hb:aD X w2 ((((w2.setCell ⟨X,2,Z⟩ (J va (n.recs.length+1) vc2)).setCell ⟨X,8,Z⟩ (J Z 0 0)).setCell ⟨X,9,Z⟩ (J Z 0 0)).setCell ⟨X,7,Z⟩ (bool false)).drew:=(((((aD.self X w2).set _ _).set _ _).set _ _).set _ _).drw
     have h9:w2.ownsRow low 66 3 (J va (n.recs.length+1) vc2) (n.learn p s).recs.length ((n.learn p s).recs.flatMap aM.cells):=by
      unfold RN.learn;simp only[List.length_append,List.flatMap_append,List.length_cons,List.length_nil,List.flatMap_cons,List.flatMap_nil,List.append_nil];exact HO2.out
     exact aH h9 (fun g hg=>hb.block g (fun hh=>aW h9 HBLK.out (by decide) (hh ▸ hg)))
    ·intro g hg hgX hgo;have hb:aD X w2 ((((w2.setCell ⟨X,2,Z⟩ (J va (n.recs.length+1) vc2)).setCell ⟨X,8,Z⟩ (J Z 0 0)).setCell ⟨X,9,Z⟩ (J Z 0 0)).setCell ⟨X,7,Z⟩ (bool false)).drew:=(((((aD.self X w2).set _ _).set _ _).set _ _).set _ _).drw;exact(hb.block g hgX).trans (HG2.out g hg hgo)
   ·have hb:aD X w2 ((((w2.setCell ⟨X,2,Z⟩ (J va (n.recs.length+1) vc2)).setCell ⟨X,8,Z⟩ (J Z 0 0)).setCell ⟨X,9,Z⟩ (J Z 0 0)).setCell ⟨X,7,Z⟩ (bool false)).drew:=(((((aD.self X w2).set _ _).set _ _).set _ _).set _ _).drw;refine⟨hb.os.trans (HQ2.out.1.trans HB1.out.os),hb.tape.trans (HQ2.out.2.1.trans HB1.out.tape),hb.output.trans (HQ2.out.2.2.trans HB1.out.output),by rw[hb.size];omega,fun g hg hA=>?_⟩;exact(hb.block g (fun hh=>hA (.inl hh))).trans ((HG2.out g (by omega) (fun hh=>hA (.inr hh))).trans (HB1.out.block g hg))
theorem bO.drew{w:World}{low X:Nat}{n:RN}{vr vv vb vc vo vs:Value}(h:bO w low X n vr vv vb vc vo vs):bO w.drew low X n vr vv vb vc vo vs:=⟨h.blk,h.lx,h.r,h.v,h.b⟩
theorem BM(low X:Nat)(n:RN)(vr vv vb vc vo vs:Value)(k f e b wa p s q bl v:Int)(ms:Value)(w:World)(h:bO w low X n vr vv vb vc vo vs)(hlw:low<=w.heap.size)(hne:0<n.recs.length)(hlt:n.recs.length<=100000000)(hlv:n.votes.length<=100000000)(hid:0<=n.id/\n.id<5)(E:Nat)(he:e=E)(hE:E+1<n.recs.length)(hl:e<n.lastR.E):
  Calls pG 164 #[P0 (Y ⟨X,0,Z⟩),.agg #[I T k,I T f,I T e,I T b,I T wa,I T p,I T s,I T q,I T bl,I T v,ms]] w fun r w'=>∃g,r=.returned (J (Y ⟨g,0,Z⟩) 1 1)/\l9 w' w.heap.size g f (aT 6 n.id e 0 0 (n.recs.getD (E+1) ⟨0,0,0⟩).P (n.recs.getD (E+1) ⟨0,0,0⟩).S 0 0 0 [])/\Below w.heap.size w w':=by
 subst he;have hb0:=(Below.refl w.heap.size w).alloc (Nat.le_refl _) (G #[I T k,I T f,I T (E:Int),I T b,I T wa,I T p,I T s,I T q,I T bl,I T v,ms] 136);have h0:=h.later hb0;have hs0:(w.alloc (G #[I T k,I T f,I T (E:Int),I T b,I T wa,I T p,I T s,I T q,I T bl,I T v,ms] 136)).heap.size=w.heap.size+1:=by simp
 have hm0:(w.alloc (G #[I T k,I T f,I T (E:Int),I T b,I T wa,I T p,I T s,I T q,I T bl,I T v,ms] 136)).heap[w.heap.size]?=Y (G #[I T k,I T f,I T (E:Int),I T b,I T wa,I T p,I T s,I T q,I T bl,I T v,ms] 136 (0,0)):=heap_alloc_new _ _;obtain⟨c0,c1,c2,c3,c4,c5,c6,c7,c8,c9,c10,c11,c12,c13⟩:=h0.c14;have HM:Hid _:=hm0;have H0:=aA h0;have HB0:=aA hb0;clear h h0 hb0 hm0;go_enter Tryz.func164,Tryz.ntmps164
 go_wp2_with fail
 generalize (w.alloc (G #[I T k,I T f,I T (E:Int),I T b,I T wa,I T p,I T s,I T q,I T bl,I T v,ms] 136))=W0 at*;refine(kV n vr vv vb vc vo vs W0 (aP.of_owns H0.out.r) hne (by omega)).mono ?_;rintro r w1 ⟨rfl,hb1⟩;have hs1:=hb1.size;have hM1:=(hb1.block _ (by omega)).trans HM.out;have H1:=aA (H0.out.later hb1);have HB1:=aA (HB0.out.trans (hb1.mono (by omega)));clear c0 c1 c2 c3 c4 c5 c6 c7 c8 c9 c10 c11 c12 c13;obtain⟨c0,c1,c2,c3,c4,c5,c6,c7,c8,c9,c10,c11,c12,c13⟩:=H1.out.c14;have m0:w1.cell? ⟨w.heap.size,0,Z⟩=Y (I T k):=by simp[World.cell?,hM1]
 have m1:w1.cell? ⟨w.heap.size,1,Z⟩=Y (I T f):=by simp[World.cell?,hM1]
 have m2:w1.cell? ⟨w.heap.size,2,Z⟩=Y (I T (E:Int)):=by simp[World.cell?,hM1]
 have m3:w1.cell? ⟨w.heap.size,3,Z⟩=Y (I T b):=by simp[World.cell?,hM1]
 have m4:w1.cell? ⟨w.heap.size,4,Z⟩=Y (I T wa):=by simp[World.cell?,hM1]
 have m5:w1.cell? ⟨w.heap.size,5,Z⟩=Y (I T p):=by simp[World.cell?,hM1]
 have m6:w1.cell? ⟨w.heap.size,6,Z⟩=Y (I T s):=by simp[World.cell?,hM1]
 have m7:w1.cell? ⟨w.heap.size,7,Z⟩=Y (I T q):=by simp[World.cell?,hM1]
 have m8:w1.cell? ⟨w.heap.size,8,Z⟩=Y (I T bl):=by simp[World.cell?,hM1]
 have m9:w1.cell? ⟨w.heap.size,9,Z⟩=Y (I T v):=by simp[World.cell?,hM1]
 have m10:w1.cell? ⟨w.heap.size,10,Z⟩=Y ms:=by simp[World.cell?,hM1]
 have hlt1:w.heap.size<w1.heap.size:=by omega
 have hX1:=H1.out.lt;clear hM1 hb1 HM H0 HB0 hs0 hs1
 go_wp2_with fail
 have hb2:=(Below.refl w1.heap.size w1).alloc (Nat.le_refl _) (G #[I T n.lastR.E,I T n.lastR.P,I T n.lastR.S] 66);have H2:=aA (H1.out.later hb2);have HB2:Hid (Below w.heap.size w (w1.alloc (G #[I T n.lastR.E,I T n.lastR.P,I T n.lastR.S] 66))):=HB1.out.alloc (by omega) _;have hz2:w.heap.size<=(w1.alloc (G #[I T n.lastR.E,I T n.lastR.P,I T n.lastR.S] 66)).heap.size:=by simp;omega
 have a0:=(hb2.cell (p:=⟨X,0,Z⟩) hX1).trans c0;have a1:=(hb2.cell (p:=⟨X,1,Z⟩) hX1).trans c1;have a2:=(hb2.cell (p:=⟨X,2,Z⟩) hX1).trans c2;have a3:=(hb2.cell (p:=⟨X,3,Z⟩) hX1).trans c3;have a4:=(hb2.cell (p:=⟨X,4,Z⟩) hX1).trans c4;have a5:=(hb2.cell (p:=⟨X,5,Z⟩) hX1).trans c5;have a6:=(hb2.cell (p:=⟨X,6,Z⟩) hX1).trans c6;have a7:=(hb2.cell (p:=⟨X,7,Z⟩) hX1).trans c7;have a8:=(hb2.cell (p:=⟨X,8,Z⟩) hX1).trans c8;have a9:=(hb2.cell (p:=⟨X,9,Z⟩) hX1).trans c9;have a10:=(hb2.cell (p:=⟨X,10,Z⟩) hX1).trans c10;have a11:=(hb2.cell (p:=⟨X,11,Z⟩) hX1).trans c11;have a12:=(hb2.cell (p:=⟨X,12,Z⟩) hX1).trans c12;have a13:=(hb2.cell (p:=⟨X,13,Z⟩) hX1).trans c13;have b0:=(hb2.cell (p:=⟨w.heap.size,0,Z⟩) hlt1).trans m0;have b1:=(hb2.cell (p:=⟨w.heap.size,1,Z⟩) hlt1).trans m1;have b2:=(hb2.cell (p:=⟨w.heap.size,2,Z⟩) hlt1).trans m2;have b3:=(hb2.cell (p:=⟨w.heap.size,3,Z⟩) hlt1).trans m3;have b4:=(hb2.cell (p:=⟨w.heap.size,4,Z⟩) hlt1).trans m4;have b5:=(hb2.cell (p:=⟨w.heap.size,5,Z⟩) hlt1).trans m5;have b6:=(hb2.cell (p:=⟨w.heap.size,6,Z⟩) hlt1).trans m6;have b7:=(hb2.cell (p:=⟨w.heap.size,7,Z⟩) hlt1).trans m7;have b8:=(hb2.cell (p:=⟨w.heap.size,8,Z⟩) hlt1).trans m8;have b9:=(hb2.cell (p:=⟨w.heap.size,9,Z⟩) hlt1).trans m9;have b10:=(hb2.cell (p:=⟨w.heap.size,10,Z⟩) hlt1).trans m10;generalize (w1.alloc (G #[I T n.lastR.E,I T n.lastR.P,I T n.lastR.S] 66))=w2 at*;have hX2:=H2.out.lt;have hlt2:w.heap.size<w2.heap.size:=by have:=hb2.size;omega
 clear c0 c1 c2 c3 c4 c5 c6 c7 c8 c9 c10 c11 c12 c13 m0 m1 m2 m3 m4 m5 m6 m7 m8 m9 m10 H1 HB1 hb2 hX1 hlt1
 go_region_held3 (fun w'=>w'.cell? ⟨X,0,Z⟩=Y (I T n.id)/\w'.cell? ⟨X,1,Z⟩=Y (I T n.nodes)/\w'.cell? ⟨X,2,Z⟩=Y (vr)/\w'.cell? ⟨X,3,Z⟩=Y (vv)/\w'.cell? ⟨X,4,Z⟩=Y (vb)/\w'.cell? ⟨X,5,Z⟩=Y (I T n.seen)/\w'.cell? ⟨X,6,Z⟩=Y (I T n.last)/\w'.cell? ⟨X,7,Z⟩=Y (bool n.act)/\w'.cell? ⟨X,8,Z⟩=Y (vc)/\w'.cell? ⟨X,9,Z⟩=Y (vo)/\w'.cell? ⟨X,10,Z⟩=Y (I T n.ops)/\w'.cell? ⟨X,11,Z⟩=Y (vs)/\w'.cell? ⟨X,12,Z⟩=Y (bool false)/\w'.cell? ⟨X,13,Z⟩=Y (J Z 0 0)/\w'.cell? ⟨w.heap.size,0,Z⟩=Y (I T k)/\w'.cell? ⟨w.heap.size,1,Z⟩=Y (I T f)/\w'.cell? ⟨w.heap.size,2,Z⟩=Y (I T (E:Int))/\w'.cell? ⟨w.heap.size,3,Z⟩=Y (I T b)/\w'.cell? ⟨w.heap.size,4,Z⟩=Y (I T wa)/\w'.cell? ⟨w.heap.size,5,Z⟩=Y (I T p)/\w'.cell? ⟨w.heap.size,6,Z⟩=Y (I T s)/\w'.cell? ⟨w.heap.size,7,Z⟩=Y (I T q)/\w'.cell? ⟨w.heap.size,8,Z⟩=Y (I T bl)/\w'.cell? ⟨w.heap.size,9,Z⟩=Y (I T v)/\w'.cell? ⟨w.heap.size,10,Z⟩=Y (ms)) (first|(and_intros<;>assumption)|go_keep) (first|(go_at_call 221;refine(qG n vr vv vb vc vo vs k f E b wa p s q bl v ms w2.drew hid.1 hid.2 (aP.of_owns H2.out.drew.r) hE (by omega)).mono ?_;rintro r w3 ⟨g,rfl,ho3,hb3⟩;have z0:w3.cell? ⟨X,0,Z⟩=Y (I T n.id):=(hb3.cell (p:=⟨X,0,Z⟩) hX2).trans a0;have z1:w3.cell? ⟨X,1,Z⟩=Y (I T n.nodes):=(hb3.cell (p:=⟨X,1,Z⟩) hX2).trans a1;have z2:w3.cell? ⟨X,2,Z⟩=Y (vr):=(hb3.cell (p:=⟨X,2,Z⟩) hX2).trans a2;have z3:w3.cell? ⟨X,3,Z⟩=Y (vv):=(hb3.cell (p:=⟨X,3,Z⟩) hX2).trans a3;have z4:w3.cell? ⟨X,4,Z⟩=Y (vb):=(hb3.cell (p:=⟨X,4,Z⟩) hX2).trans a4;have z5:w3.cell? ⟨X,5,Z⟩=Y (I T n.seen):=(hb3.cell (p:=⟨X,5,Z⟩) hX2).trans a5;have z6:w3.cell? ⟨X,6,Z⟩=Y (I T n.last):=(hb3.cell (p:=⟨X,6,Z⟩) hX2).trans a6;have z7:w3.cell? ⟨X,7,Z⟩=Y (bool n.act):=(hb3.cell (p:=⟨X,7,Z⟩) hX2).trans a7;have z8:w3.cell? ⟨X,8,Z⟩=Y (vc):=(hb3.cell (p:=⟨X,8,Z⟩) hX2).trans a8;have z9:w3.cell? ⟨X,9,Z⟩=Y (vo):=(hb3.cell (p:=⟨X,9,Z⟩) hX2).trans a9;have z10:w3.cell? ⟨X,10,Z⟩=Y (I T n.ops):=(hb3.cell (p:=⟨X,10,Z⟩) hX2).trans a10;have z11:w3.cell? ⟨X,11,Z⟩=Y (vs):=(hb3.cell (p:=⟨X,11,Z⟩) hX2).trans a11;have z12:w3.cell? ⟨X,12,Z⟩=Y (bool false):=(hb3.cell (p:=⟨X,12,Z⟩) hX2).trans a12;have z13:w3.cell? ⟨X,13,Z⟩=Y (J Z 0 0):=(hb3.cell (p:=⟨X,13,Z⟩) hX2).trans a13;have u0:w3.cell? ⟨w.heap.size,0,Z⟩=Y (I T k):=(hb3.cell (p:=⟨w.heap.size,0,Z⟩) hlt2).trans b0;have u1:w3.cell? ⟨w.heap.size,1,Z⟩=Y (I T f):=(hb3.cell (p:=⟨w.heap.size,1,Z⟩) hlt2).trans b1;have u2:w3.cell? ⟨w.heap.size,2,Z⟩=Y (I T (E:Int)):=(hb3.cell (p:=⟨w.heap.size,2,Z⟩) hlt2).trans b2;have u3:w3.cell? ⟨w.heap.size,3,Z⟩=Y (I T b):=(hb3.cell (p:=⟨w.heap.size,3,Z⟩) hlt2).trans b3;have u4:w3.cell? ⟨w.heap.size,4,Z⟩=Y (I T wa):=(hb3.cell (p:=⟨w.heap.size,4,Z⟩) hlt2).trans b4;have u5:w3.cell? ⟨w.heap.size,5,Z⟩=Y (I T p):=(hb3.cell (p:=⟨w.heap.size,5,Z⟩) hlt2).trans b5;have u6:w3.cell? ⟨w.heap.size,6,Z⟩=Y (I T s):=(hb3.cell (p:=⟨w.heap.size,6,Z⟩) hlt2).trans b6;have u7:w3.cell? ⟨w.heap.size,7,Z⟩=Y (I T q):=(hb3.cell (p:=⟨w.heap.size,7,Z⟩) hlt2).trans b7;have u8:w3.cell? ⟨w.heap.size,8,Z⟩=Y (I T bl):=(hb3.cell (p:=⟨w.heap.size,8,Z⟩) hlt2).trans b8;have u9:w3.cell? ⟨w.heap.size,9,Z⟩=Y (I T v):=(hb3.cell (p:=⟨w.heap.size,9,Z⟩) hlt2).trans b9;have u10:w3.cell? ⟨w.heap.size,10,Z⟩=Y (ms):=(hb3.cell (p:=⟨w.heap.size,10,Z⟩) hlt2).trans b10))
 have HO3:Hid _:=ho3;have HB3:=aA (HB2.out.drew.trans (hb3.mono hz2));have hg3:w.heap.size<=g:=Nat.le_trans hz2 ho3.1;clear ho3 hb3;go_wp2;go_ret;exact⟨g,rfl,⟨hg3,HO3.out.2⟩,HB3.out⟩
end Go.Proofs.YtdcainmlcpafbaaGreatDoor
