import Derived.Test.YtdcainmlcpafbaaGreatDoorJ07
import Derived.Maps.AppendAt
import Derived.Lib.AppendStr
import Derived.Lib.Builder
set_option linter.all false
set_option maxHeartbeats 8000000
set_option maxRecDepth 20000
namespace Go.Proofs.YtdcainmlcpafbaaGreatDoor
open Value renaming int->I,slice->J,pointer->P0
open Tryz
open Tryz renaming prog->pG
open IntKind renaming i64->T
open Option renaming none->Z,some->Y
open Obj renaming cells->G
section
open Go.RowKit Go.Maps Go.Sort Go.Shelf
def uV:Code:=(Code.region 2 #[{dst:=Y 5,op:=Op.alloc 321,type:=0,pos:= "iter.go:51",after:=#[],guard:=none},{dst:=none,op:=Op.store 321 (Operand.tmp 5) (Operand.tmp 7),type:=0,pos:= "iter.go:51",after:=#[{on:=0,ground:=Ground.data},{on:=0,ground:=Ground.phase}],guard:=none}] false)
def vK:Code:=(Code.block 1 (Code.region 3 #[{dst:=Y 8,op:=Op.load 344 (Operand.tmp 2),type:=344,pos:= "iter.go:52",after:=#[],guard:=none},{dst:=Y 9,op:=Op.load 321 (Operand.tmp 5),type:=321,pos:= "iter.go:52",after:=#[],guard:=none},{dst:=Y 10,op:=Op.buildSlice 344 1 #[(0,Operand.tmp 9)],type:=344,pos:= "iter.go:52",after:=#[{on:=1,ground:=Ground.data}],guard:=none},{dst:=Y 11,op:=Op.call {callee:=Callee.builtin Builtin.append,args:=#[Operand.tmp 8,Operand.tmp 10],argTypes:=#[344,344]},type:=344,pos:= "iter.go:52",after:=#[{on:=0,ground:=Ground.data},{on:=2,ground:=Ground.data}],guard:=none},{dst:=none,op:=Op.store 344 (Operand.tmp 2) (Operand.tmp 11),type:=0,pos:= "iter.go:52",after:=#[{on:=3,ground:=Ground.data},{on:=3,ground:=Ground.chain},{on:=0,ground:=Ground.phase},{on:=1,ground:=Ground.phase},{on:=2,ground:=Ground.phase},{on:=3,ground:=Ground.phase}],guard:=none}] false))
def mM(fn:FuncId)(sv:Value)(Bs D:Nat)(st:LoopState)(pend:Option Code):Loop:=
  {state:=st,pending:=pend,fn,tmps:=#[J Z 0 0,sv,P0 (Y ⟨Bs,0,Z⟩),undef,J Z 0 0,undef,sv,undef,undef,undef,undef,undef,undef],params:=#[7],assign:=uV,body:=vK,defers:=D}
def kI(e:Int):Value:=I T e
structure sB(w0:World)(fn:FuncId)(sv:Value)(Bs l D:Nat)(ss:List Int)(W:World):Prop where
  box:∃v,W.heap[Bs]?=Y (.cells #[v] 344 (0,0))/\W.ownsRow w0.heap.size 321 1 v ss.length (ss.map kI)
  L:W.heap[l]?=Y (.loop (mM fn sv Bs D .ready none))
  K:W.heap[D]?=Y (.deferred (some []))
  below:Below w0.heap.size w0 W
theorem GB(w0:World)(f:FuncId)(g:Value)(j l D B:Nat)(m:w0.heap.size<=B):AbidesFrom B (sB w0 f g j l D):=fun s W n row h c b=>by
  have a:∀r,row=Y r->∃o:Obj,W.heap[r]?=Y o/\o.isWalk=true:=fun r e=>(b r e).2;obtain⟨v,d,i⟩:=h.box
  exact⟨⟨v,(grownBy_keeps c a d rfl).trans d,ownsRow_abides_a i c a⟩,(grownBy_keeps c a h.L rfl).trans h.L,(grownBy_keeps c a h.K rfl).trans h.K,
    h.below.grown c h.below.size (fun k e=>Nat.le_trans m (b k e).1)⟩
theorem LC:(Tryz.prog.info? 321).map (fun i=>(i.zero,i.size,i.bytes))=Y (Y (.agg #[I T 0]),1,8):=by kernel_rfl
set_option maxRecDepth 100000 in
theorem JX(F:Fence)(m:Nat)(w0:World)(H:FuncId)(am:F.fn H)(M:Value)(d l D:Nat)(S:d≠l)(a9:D≠l)(az:D≠d)(aA:w0.heap.size<=d)(a2:w0.heap.size<=l)(N:Nat)(hN:N<=maxLen)(aM:N*8<=140737488355328)(u:List Int)(x:Int)(W:World)(h:sB w0 H M d l D u W)(aD:u.length<N):YieldAt F m pG l #[.agg #[I T x]] W fun e W'=>e=.returned (.bool true)/\sB w0 H M d l D (u++[x]) W'/\KeepsWalks W W':=by
 obtain⟨i0,hi,au,ax,ah⟩:=info_parts LC;obtain⟨v,hv,E⟩:=h.box;refine⟨H,#[J Z 0 0,M,P0 (Y ⟨d,0,Z⟩),undef,J Z 0 0,undef,M,.agg #[I T x],undef,undef,undef,undef,undef],uV,vK,by simpa[mM] using run_yield (P:=pG) (args:=#[.agg #[I T x]]) h.L rfl,roundIn_of_wpIn am ?_⟩;have hl:l<W.heap.size:=(Array.getElem?_eq_some_iff.1 h.L).1;have a3:d<W.heap.size:=(Array.getElem?_eq_some_iff.1 hv).1;have aj:D<W.heap.size:=(Array.getElem?_eq_some_iff.1 h.K).1;obtain⟨W1,b⟩:∃W1,W.alloc (G #[Value.int IntKind.i64 x] 321)=W1:=⟨_,rfl⟩;have aI:W.heap.size<W1.heap.size:=by rw[←b];simp
 have U:W1.heap[l]?=Y (.loop (mM H M d D .ready none)):=by rw[←b];exact(heap_alloc_old _ _ hl).trans h.L
 have ar:W1.heap[d]?=Y (.cells #[v] 344 (0,0)):=by rw[←b];exact(heap_alloc_old _ _ a3).trans hv
 have an:W1.heap[D]?=Y (.deferred (some [])):=by rw[←b];exact(heap_alloc_old _ _ aj).trans h.K
 have p:W1.ownsRow w0.heap.size 321 1 v u.length (u.map kI):=by rw[←b];exact E.alloc _
 have ac:Below w0.heap.size w0 W1:=by rw[←b];exact h.below.alloc h.below.size _
 have aq:KeepsWalks W W1:=by rw[←b];exact KeepsWalks.alloc _ _
 have a7:W1.heap[W.heap.size]?=Y (.cells #[I T x] 321 (0,0)):=by rw[←b];exact heap_alloc_new _ _
 have al:l<W1.heap.size:=by omega
 have a8:=run_beginRound (P:=pG) U rfl;obtain⟨i,g⟩:∃i,W1.putObj l (.loop {mM H M d D .ready none with state:=.busy})=i:=⟨_,rfl⟩;rw[g]at a8;have C:W1.grownBy i (Y l):=by rw[←g];exact grownBy_putObj_a _ _ _
 have af:KeepsWalks W i:=by rw[←g];exact aq.trans (KeepsWalks.putObj _ U rfl)
 have V:i.heap[d]?=Y (.cells #[v] 344 (0,0)):=by rw[←g];exact(World.putObj_heap_other S).trans ar
 have a6:i.heap[D]?=Y (.deferred (some [])):=by rw[←g];exact(World.putObj_heap_other a9).trans an
 have aa:i.heap[l]?=Y (.loop {mM H M d D .ready none with state:=.busy}):=by rw[←g];exact World.putObj_heap_same al
 have f:=p.kept C (ownsRow_ne_a p U (fun q e=>by cases e));have B:=ac.grown C ac.size (fun k e=>by cases e;exact a2);have ap:W.heap.size≠l:=by omega
 have aH:i.cell? ⟨W.heap.size,0,Z⟩=Y (I T x):=by
  have:i.heap[W.heap.size]?=Y (.cells #[I T x] 321 (0,0)):=by rw[←g];exact(World.putObj_heap_other ap).trans a7
  exact(cell_of_box_a this).1
 obtain⟨aN,aO⟩:=cell_of_box_a V;have n:∀{j:Nat} {o:Obj},i.heap[j]?=Y o->(∀q,o≠.cells q 321 (0,0))->some j≠v.ownBlock:=fun hj ao=>by
  rcases ownsRow_ne_a f hj ao with e|e;·rw[e];simp
  ·exact fun e'=>e e'.symm
 have aC:=B.size;have aB:=C.size;have a4:d<i.heap.size:=by omega
 have aw:l<i.heap.size:=by omega
 have R:D<i.heap.size:=by omega
 have aF:W.heap.size<i.heap.size:=by omega
 clear g E hv p a7 C;unfold uV;gi_wp2_with (rw[Oper.semAt_eq _ _ _ (fun c h=>by cases h)];go_simp;try go_bits);clear b a8;unfold vK;gi_wp2_with (first
  | (gi_at_builtin;refine wpListIn_append_own _ rfl _ _ 344 rfl w0.heap.size 321 i0 (.agg #[I T 0]) 1 8 underlying344 hi au ax ah rfl (by decide) _ _ _ rfl (f.alloc _) ⟨i.heap.size,0,Z⟩ 1 1 [kI x] rfl rfl (cell_one_new _ _ _) (by simp[Value.oneCell',kI]) (by omega) (by omega) (by simp;omega) ?_;intro v' w3 r a5 ag
     have Q:=(a5.block d (by simp;omega) (n V (fun q e=>by cases e))).trans ((Below.heap_alloc _ _ d a4).trans V);obtain⟨aQ,aL⟩:=cell_of_box_a Q
     obtain⟨X,a,s,rfl,ae,aE,aJ,aG,aP,aK⟩:∃X a s,v'=J (Y ⟨X,0,Z⟩) (u.length+1) a/\w0.heap.size<=X/\w3.heap[X]?=Y (.cells s 321 (0,0))/\u.length+1<=a/\a<=maxLen/\s.size=a*1/\s.toList.take ((u.length+1)*1)=u.map kI++[kI x]:=by
       rcases r.2 with⟨_,h0⟩|h'
       · exact absurd h0 (by omega)
       · exact h'
     go_frame)
  | (rw[Oper.semAt_eq _ _ _ (fun c h=>by cases h)];go_simp;try go_bits))
 have t:(i.alloc (.cells #[kI x] 321)).grownBy w3 v.ownBlock:=a5;have a1:=(t.block l (by simp;omega) (n aa (fun q e=>by cases e))).trans ((Below.heap_alloc _ _ l aw).trans aa);have a0:=(t.block D (by simp;omega) (n a6 (fun q e=>by cases e))).trans ((Below.heap_alloc _ _ D R).trans a6);obtain⟨O,w⟩:∃O,w3.setCell ⟨d,0,Z⟩ (J (Y ⟨X,0,Z⟩) (u.length+1) a)=O:=⟨_,rfl⟩;rw[w];have A:w3.grownBy O (Y d):=by rw[←w];exact grownBy_setCell0_a _ _ _
 have av:O.heap[d]?=Y (.cells #[J (Y ⟨X,0,Z⟩) (u.length+1) a] 344 (0,0)):=by rw[←w];exact heap_setCell_box_a _ Q
 have z:=(A.block l (Array.getElem?_eq_some_iff.1 a1).1 (fun e=>S (by cases e;rfl))).trans a1;have ak:=(A.block D (Array.getElem?_eq_some_iff.1 a0).1 (fun e=>az (by cases e;rfl))).trans a0;have y:=r.kept A (ownsRow_ne_a r Q (fun q e=>by cases e));have ai:l<O.heap.size:=(Array.getElem?_eq_some_iff.1 z).1;have ad:=(B.alloc B.size _).grown t (by have:=B.size;simp;omega) (fun k e=>(f.lt k e).1);have ab:=ad.grown A ad.size (fun k e=>by cases e;exact aA);have ay:KeepsWalks W O:=((af.trans (KeepsWalks.alloc _ _)).trans (KeepsWalks.of_grownBy t (ownsRow_not_walk_a (f.alloc _)))).trans (by rw[←w];exact KeepsWalks.setCell _ _ _);clear w;refine⟨_,_,run_endRound none z,rfl,⟨⟨_,(World.putObj_heap_other S).trans av,?_⟩,World.putObj_heap_same ai,(World.putObj_heap_other a9).trans ak,ab.grown (grownBy_putObj_a _ _ _) ab.size (fun k e=>by cases e;exact a2)⟩,ay.trans (KeepsWalks.putObj _ z rfl)⟩;have:=y.kept (grownBy_putObj_a O l (.loop {{mM H M d D .ready none with state:=.busy} with state:=if(none:Option Code).isNone then .ready else .done,pending:=none})) (ownsRow_ne_a y z (fun q e=>by cases e));simpa using this
set_option maxRecDepth 100000 in
theorem EF(d b:Nat)(vs:List (Int×PV))(hN:vs.length<=maxLen)(A:vs.length*8<=140737488355328)(w:World)(M:d<w.heap.size)(hm:w.cell? ⟨d,0,Z⟩=Y (.map (Y b)))(r:VM w b vs):CallsIn Fence.wide 5 pG 271 #[J Z 0 0,Value.func (Fn.func 268) #[] #[Value.pointer (Y ⟨d,0,Z⟩)]] w fun e w'=>∃(v:Value) (z:List Int),e=.returned v/\z.Perm (vs.map (·.1))/\w'.ownsRow w.heap.size 321 1 v z.length (z.map kI)/\Below w.heap.size w w':=by
 have V:=enters_of func268 (by kernel_rfl) rfl;refine callsIn_of_wp_marks func271 rfl trivial ?_ rfl;simp only[ntmps271,List.size_toArray,List.length_cons,List.length_nil,Nat.reduceAdd,Nat.reduceSub,Array.replicate_succ,Array.replicate_zero,List.push_toArray,List.append_toArray,List.nil_append,List.cons_append];gi_wp2;refine wpIn_rangeFunc ?_;intro q N;obtain⟨a,h⟩:∃a,w.alloc (.cells #[J Z 0 0] 344)=a:=⟨_,rfl⟩;have B:a.heap.size=w.heap.size+1:=by rw[←h];simp
 have F:a.heap[w.heap.size]?=Y (.cells #[J Z 0 0] 344 (0,0)):=by rw[←h];exact World.alloc_heap_new w _
 have m:Below w.heap.size w a:=by rw[←h];exact(Below.refl _ w).alloc r_ _
 rw[h];obtain⟨W1,c⟩:∃W1,(a.alloc (.deferred (some []))).alloc (.loop (mM q (Value.func (Fn.func 268) #[] #[Value.pointer (Y ⟨d,0,Z⟩)]) w.heap.size a.heap.size .ready none))=W1:=⟨_,rfl⟩;have u:∀k,k<a.heap.size->W1.heap[k]?=a.heap[k]?:=fun k S=>by rw[←c];exact(Below.heap_alloc _ _ k (by simp;omega)).trans (Below.heap_alloc _ _ k S)
 have i:Below w.heap.size w W1:=by rw[←c];exact(m.alloc m.size _).alloc (by have:=m.size;simp;omega) _
 have X:W1.heap.size=a.heap.size+2:=by rw[←c];simp
 have Q:sB w q (Value.func (Fn.func 268) #[] #[Value.pointer (Y ⟨d,0,Z⟩)]) w.heap.size (a.heap.size+1) a.heap.size [] W1:=
  ⟨⟨_,(u w.heap.size (by omega)).trans F,⟨rfl,.inl ⟨rfl,rfl⟩⟩⟩,
   by rw[←c];have:=World.alloc_heap_new (a.alloc (.deferred (some []))) (.loop (mM q (Value.func (Fn.func 268) #[] #[Value.pointer (Y ⟨d,0,Z⟩)]) w.heap.size a.heap.size .ready none));rwa[World.size_alloc]at this,
   by rw[←c];exact(Below.heap_alloc _ _ _ (by simp)).trans (World.alloc_heap_new a _),i⟩
 have C:=(i.cell (p:=⟨d,0,Z⟩) M).trans hm;have H:=r.later i;refine⟨a.heap.size+1,[{target:=.collected a.heap.size,args:=#[]}],W1,{target:=.fn (.func 268) #[P0 (Y ⟨d,0,Z⟩)],args:=#[.func (.yield (a.heap.size+1)) #[] #[]]},W1,268,
  #[.func (.yield (a.heap.size+1)) #[] #[]]++#[P0 (Y ⟨d,0,Z⟩)],W1,?_,?_,?_,?_,fun _=>(by omega),?_⟩
 ·rw[←c];exact run_enterLoop_outer _ _ _ _ _
 ·simp[resolve,go_sem]
 ·intro f' U;trivial
 ·simp[invoke,go_sem,V]
 ·refine(JW Fence.wide 4 trivial rfl (by omega) (a.heap.size+1) d b vs (sB w q (Value.func (Fn.func 268) #[] #[Value.pointer (Y ⟨d,0,Z⟩)]) w.heap.size (a.heap.size+1) a.heap.size) (fun pre x W hJ hl=>JX Fence.wide (4 - 1) w q N _ w.heap.size (a.heap.size+1) a.heap.size (by omega) (by omega) (by omega) r_ (by omega) vs.length hN A pre x W hJ hl) W1 (GB _ _ _ _ _ _ _ i.size) C H Q).mono ?_;rintro e W2 ⟨⟨v0,rfl⟩,O,hS,n⟩;obtain⟨v,hv,l⟩:=n.box;have j:=run_endLoop (P:=pG) n.L (by simp[mM]);obtain⟨o,g⟩:∃o,W2.putObj (a.heap.size+1) (.loop {mM q (Value.func (Fn.func 268) #[] #[Value.pointer (Y ⟨d,0,Z⟩)]) w.heap.size a.heap.size .ready none with state:=.exhausted})=o:=⟨_,rfl⟩;rw[g]at j;have t:W2.grownBy o (Y (a.heap.size+1)):=by rw[←g];exact grownBy_putObj_a _ _ _
  have E:o.heap[w.heap.size]?=Y (.cells #[v] 344 (0,0)):=by rw[←g];exact(World.putObj_heap_other (by omega)).trans hv
  have s:o.heap[a.heap.size]?=Y (.deferred (some [])):=by rw[←g];exact(World.putObj_heap_other (by omega)).trans n.K
  have f:=l.kept t (ownsRow_ne_a l n.L (fun D e=>by cases e));have y:=n.below.grown t n.below.size (fun k e=>by cases e;omega);obtain⟨a0,R⟩:=cell_of_box_a E;clear g;refine⟨none,o,j,?_⟩;gi_wp2;rw[←B];refine⟨by simp,.inl ⟨_,_,rfl,run_takeDeferred s,?_⟩⟩;exact⟨_,results_tmp rfl _ _ _,v,O,rfl,hS,f.kept (grownBy_putObj_a _ _ _) (ownsRow_ne_a f s (fun D e=>by cases e)),y.grown (grownBy_putObj_a _ _ _) y.size (fun k e=>by cases e;omega)⟩
theorem EN(f b:Nat)(vs:List (Int×PV))(m:vs.length<=maxLen)(g:vs.length*8<=140737488355328)(w:World)(h:f<w.heap.size)(i:w.cell? ⟨f,0,Z⟩=Y (.map (Y b)))(a:VM w b vs):Calls pG 266 #[Value.func (Fn.func 268) #[] #[Value.pointer (Y ⟨f,0,Z⟩)]] w fun e w'=>∃(v:Value) (c:List Int),e=.returned v/\c.Perm (vs.map (·.1))/\w'.ownsRow w.heap.size 321 1 v c.length (c.map kI)/\Below w.heap.size w w':=by have d:=(callsIn_wide (n:=5)).1 (EF f b vs m g w h i a);clear i a;go_enter func266,ntmps266;go_wp2_with(go_at_call 271;refine d.mono ?_;rintro e w' ⟨v,c,rfl,l,j,k⟩);go_ret;exact⟨v,c,rfl,l,j,k⟩
end
section
open Go.RowKit
open Value (bool)
theorem ME:(Tryz.prog.info? 3).map (fun i=>(i.zero,i.size,i.bytes))=Y (Y (I T 0),1,8):=by kernel_rfl
theorem BD{t e:TypeId}(h:Tryz.prog.underlying t=Y (.slice e))(a:Option Addr)(n c:Nat)(w:World):(binOp .eql t (J a n c) (J Z 0 0)).run pG w=.ok (.bool a.isNone) w:=by simp only[binOp];simp[run_equal_slice_nil w t e a n c h]
theorem GC(S:Nat)(i d n h:Int)(w:World)(z:w.cell? ⟨S,3,Z⟩=Y (I T i))(B:w.cell? ⟨S,4,Z⟩=Y (I T d))(y:w.cell? ⟨S,5,Z⟩=Y (I T n))(D:w.cell? ⟨S,6,Z⟩=Y (I T h))(hS:S<w.heap.size):Calls pG 263 #[J (Y ⟨S,3,Z⟩) 4 4] w fun r w'=>∃v,r=.returned v/\fL w' w.heap.size v [i,d,n,h]/\Below w.heap.size w w':=by
 obtain⟨C,s,e,k,m⟩:=info_parts ME;have f:=BD underlying59 (Y ⟨S,3,Z⟩) 4 4 w;simp only[Option.isNone_some]at f;go_enter func263,ntmps263;go_wp2_with(at_builtin;go_loud (refine wpList_append_own _ rfl _ _ 59 rfl w.heap.size 3 C (I T 0) 1 8 underlying59 s e k m rfl (by decide) _ 0 [] rfl ?c0 ⟨S,3,Z⟩ 4 4 [I T i,I T d,I T n,I T h] rfl rfl ?c1 ?c2 ?c3 ?c4 ?c5 ?_));case c0=>exact World.ownsRow_lit w #[] 0 r_ (by unfold maxLen;omega) rfl
 case c1=>
  intro j u a;have F:j<4:=by have:=(List.getElem?_eq_some_iff.1 a).1;simpa using this
  have x:(⟨S,3,Z⟩:Addr).block<w.heap.size:=hS;have b:∀o,(w.alloc (G #[] 3)).cell? ⟨S,o,Z⟩=w.cell? ⟨S,o,Z⟩:=fun o=>(a_ w _).cell (p:=⟨S,o,Z⟩) hS;rcases j with _|_|_|_|j;·simp at a;subst a;exact(b _).trans z
  ·simp at a;subst a;exact(b _).trans B
  ·simp at a;subst a;exact(b _).trans y
  ·simp at a;subst a;exact(b _).trans D
  ·omega
 case c2=>intro u a;simp at a;rcases a with rfl|rfl|rfl|rfl<;>rfl
 case c3=>unfold maxLen;omega
 case c4=>omega
 case c5=>simp
 intro v' w2 c l t;have q:=(a_ w (G #[] 3)).grown l (by simp) (fun g A=>by simp[Value.ownBlock]at A;omega);obtain⟨E,vc,rfl⟩:=eB c;go_wp2;go_ret;exact⟨_,rfl,c,q⟩
theorem GD(rs:List eE)(vr:Value)(w:World)(l:eY w vr rs.length (rs.flatMap eE.cells))(e:0<rs.length)(o:rs.length<=100000000):Calls pG 152 #[vr] w fun r w'=>∃v,r=.returned v/\w'.ownsRow w.heap.size 66 3 v rs.length (rs.flatMap eE.cells)/\Below w.heap.size w w':=by
 obtain⟨n,j,f,k,c⟩:=info_parts wD;obtain⟨g,a,rfl,m,q⟩:=l.at e;have h:=BD underlying23 (Y ⟨g,0,Z⟩) rs.length a w;simp only[Option.isNone_some]at h;go_enter func152,ntmps152;go_wp2_with(at_builtin;go_loud (refine uG rfl _ _ 23 rfl w.heap.size 66 n (.agg #[I T 0,I T 0,I T 0]) 3 24 underlying23 j f k c rfl (by decide) _ 0 [] rfl ?c0 (J (Y ⟨g,0,Z⟩) rs.length a) rs.length (rs.flatMap eE.cells) rfl (l.later (a_ w _)) (uS eE.cells 3 sH rs) K6 ?c3 ?c4 ?c5 ?_));case c0=>exact World.ownsRow_lit w #[] 0 r_ (by unfold maxLen;omega) rfl
 case c3=>unfold maxLen;omega
 case c4=>omega
 case c5=>simp
 intro v' w2 b d;have i:=(a_ w (G #[] 66)).grown d (by simp) (fun g m=>by simp[Value.ownBlock]at m;omega);obtain⟨p,vc,rfl⟩:=eB b;go_wp2;go_ret;exact⟨_,rfl,b,i⟩
def eW:Prop:=∀(Bm b:Nat) (vs:List (Int×PV)) (w:World),vs.length<=100000000->Bm<w.heap.size->w.cell? ⟨Bm,0,Z⟩=Y (.map (Y b))->VM w b vs->
  Calls pG 260 #[Value.func (Fn.func 268) #[] #[P0 (Y ⟨Bm,0,Z⟩)],Value.func (Fn.func 262) #[] #[]] w fun e w'=>∃(v:Value) (ks:List Int),e=.returned v/\ks.Perm (vs.map (·.1))/\eY w' v ks.length (ks.map (Value.int .i64))/\(∀ad n c,v=J (Y ad) n c->w.heap.size<=ad.block)/\Below w.heap.size w w'
def jP(r:eE):dI:=⟨6,0,r.E - 1,0,0,r.P,r.S,0,0,0,none,0,[]⟩
theorem DN(x:dI):(dI.cells x).length=11:=rfl
theorem vL:(Tryz.prog.info? 136).map (fun i=>(i.zero,i.size,i.bytes))=Y (Y (.agg #[I T 0,I T 0,I T 0,I T 0,I T 0,I T 0,I T 0,I T 0,I T 0,I T 0,J Z 0 0]),11,104):=by kernel_rfl
theorem FE(b:Nat)(w:World):Calls pG 261 #[.map (Y b)] w fun e w'=>e=.returned (Value.func (Fn.func 268) #[] #[P0 (Y ⟨w.heap.size,0,Z⟩)])/\w'=w.alloc (G #[Value.map (Y b)] 193):=by go_enter func261,ntmps261;go_wp2;go_ret;exact⟨rfl,rfl⟩
def kJ(e:Int)(x:PV):dI:=⟨3,0,e,x.ac,0,x.pm,x.st,0,0,0,none,0,[]⟩
def kK(e:Int)(x:PV):dI:=⟨1,0,e,x.pr,0,0,0,0,0,0,none,0,[]⟩
theorem VM.lookF{w:World}{B:Nat}{l:List (Int×PV)}(h:VM w B l)(e:Int):∀w',w'.heap[B]?=w.heap[B]?->(Instr.lookup 193 (.map (Y B)) (.agg #[I T e]) false).run pG w'=.ok (.agg #[I T (dG l e).pr,I T (dG l e).ac,I T (dG l e).pm,I T (dG l e).st]) w':=fun w' a=>(h.same a).look e
def SD.ig(d:SD)(ks:List Int)(za:Option Addr)(zc:Nat):List dI:=d.recs.tail.map jP++ks.flatMap (fun e=>[kJ e (dG d.di e),kK e (dG d.di e)])++[⟨9,0,d.seen,0,0,0,0,d.last,0,0,za,zc,[d.b0,d.b1,d.b2,d.b3]⟩]
theorem BE{α β:Type}(f g:α->β):∀l:List α,(l.flatMap (fun e=>[f e,g e])).length=2*l.length
 | []=>rfl
 |x::l=>by have:=BE f g l;simp only[List.flatMap_cons,List.length_append,List.length_cons,List.length_nil,this];omega
theorem sZ(d:SD)(a:List Int)(c:Option Addr)(b:Nat):(d.ig a c b).length=(d.recs.length - 1)+2*a.length+1:=by unfold SD.ig;rw[List.length_append,List.length_append,BE];simp
theorem GE(d:SD)(b:List Int)(c:Option Addr)(a:Nat):(d.ig b c a).flatMap dI.cells=d.recs.tail.flatMap (fun r=>(jP r).cells)++b.flatMap (fun e=>(kJ e (dG d.di e)).cells++(kK e (dG d.di e)).cells)++dI.cells ⟨9,0,d.seen,0,0,0,0,d.last,0,0,c,a,[d.b0,d.b1,d.b2,d.b3]⟩:=by
 unfold SD.ig;rw[List.flatMap_append,List.flatMap_append];congr 1
 ·congr 1;·rw[List.flatMap_map]
  ·rw[List.flatMap_assoc];simp
theorem tA{w:World}{base:Nat}{e:Option Addr}{rc:Nat}{b:List Int}(h:fL w base (J e b.length rc) b):eX w e b/\∀c,e=Y c->base<=c.block:=by
 by_cases k:b=[]
 ·subst k;refine⟨.inl rfl,?_⟩;rcases h.2 with⟨n,_⟩|⟨g,i,l,f,d,_⟩;·cases n;intro c a;cases a
  ·cases f;intro c a;cases a;exact d
 ·have m:0<b.length:=List.length_pos_iff.2 k;obtain⟨g,i,f,d,o⟩:=(eY.gq h).at m;cases f;refine⟨.inr ⟨g,0,rfl,d,fun j p=>?_⟩,fun c a=>by cases a;exact(h.lt g (by simp[Value.ownBlock])).1⟩;rw[Nat.zero_add];exact o j _ (by simp[p])
theorem H0{d:SD}{i:List Int}{f:Option Addr}{g base:Nat}{w:World}(h:fL w base (J f 4 g) [d.b0,d.b1,d.b2,d.b3]):∀m∈d.ig i f g,eX w m.a m.zs:=by
 intro m b;unfold SD.ig at b;rcases List.mem_append.1 b with b|b
 ·rcases List.mem_append.1 b with b|b;·obtain⟨r,_,rfl⟩:=List.mem_map.1 b;exact .inl rfl
  ·obtain⟨e,_,c⟩:=List.mem_flatMap.1 b;simp at c;rcases c with rfl|rfl<;>exact .inl rfl
 ·simp at b;subst b;exact(tA h).1
theorem JY{d:SD}{o:List Int}{i:Option Addr}{k base:Nat}{w:World}(h:fL w base (J i 4 k) [d.b0,d.b1,d.b2,d.b3]):∀m∈d.ig o i k,∀g,m.a=Y g->∃c,w.heap[g.block]?=Y (.cells c 3 (0,0)):=by
 intro m b g f;unfold SD.ig at b;rcases List.mem_append.1 b with b|b
 ·rcases List.mem_append.1 b with b|b;·obtain⟨r,_,rfl⟩:=List.mem_map.1 b;cases f
  ·obtain⟨e,_,j⟩:=List.mem_flatMap.1 b;simp at j;rcases j with rfl|rfl<;>cases f
 ·simp at b;subst b;rcases h.2 with⟨l,_⟩|⟨s,q,c,p,_,n,_⟩;·cases l
  ·cases p;cases f;exact⟨c,n⟩
theorem nW{w w':World}{g:Nat}(h:w'.heap[g]?=w.heap[g]?)(j:Nat):w'.cell? ⟨g,j,Z⟩=w.cell? ⟨g,j,Z⟩:=by simp only[World.cell?,h]
theorem rO(m:dI):∀u∈m.cells,u.oneCell'=true:=by intro u a;simp[dI.cells]at a;rcases a with rfl|rfl|rfl|rfl|rfl|rfl|rfl|rfl|rfl|rfl|rfl<;>rfl
theorem qW(w:World)(B:Nat)(c:B=w.heap.size)(cs:List Value)(t:TypeId):∀j u,cs[j]?=Y u->(w.alloc (G cs.toArray t)).cell? ((⟨B,0,Z⟩:Addr).add j)=Y u:=by
 subst c;intro j u d;have b:=(dC.new w cs.toArray t).cell j;rw[List.getElem?_toArray,d]at b;rw[←b];unfold Addr.add;by_cases a:j=0;·subst a;rfl
 ·rw[if_neg a];simp
theorem zE(hSO:eW)(low St:Nat)(d:SD)(vr:Value)(Mp D:Nat)(w:World)(h:dZ w low St d vr Mp D)(aX:0<d.recs.length)(bo:d.recs.length<=10000000)(bu:d.di.length<=10000000)(aU:∀r∈d.recs,0<=r.E/\r.E<=10000000000000):Calls pG 257 #[P0 (Y ⟨St,0,Z⟩)] w fun r w'=>∃a c f za U,r=.returned (J a (d.ig f za U).length c)/\f.Perm (d.di.map (·.1))/\w'.ownsRow w.heap.size 136 11 (J a (d.ig f za U).length c) (d.ig f za U).length ((d.ig f za U).flatMap dI.cells)/\(∀m∈d.ig f za U,eX w' m.a m.zs)/\(∀m∈d.ig f za U,∀ad,m.a=Y ad->∃ai,w'.heap[ad.block]?=Y (.cells ai 3 (0,0)))/\Below w.heap.size w w':=by
 obtain⟨i0,aw,al,ay,au⟩:=info_parts vL;obtain⟨g,aN,hv,H,hc⟩:=(eY.gq h.ja).at aX;subst hv;have c1:=h.blk.cell 1;have c2:=h.blk.cell 2;simp at c1 c2;have a1:=h.blk.lt;have HS:=dA h;have HC:=dA hc;have aR:=dA aU;have aC:d.recs.length<=aN:=by
  rcases h.ja.2 with⟨h0,_⟩|⟨g',aJ,ai,h1,h2,h3,h4,_⟩;·cases h0
  ·cases h1;exact h4
 have a2:aN<=maxLen:=by
  rcases h.ja.2 with⟨h0,_⟩|⟨g',aJ,ai,h1,h2,h3,h4,h5,_⟩;·cases h0
  ·cases h1;exact h5
 unfold maxLen at a2;clear h hc aU;go_enter func257,ntmps257;go_upto_region 2 with fail;go_cut [13,14,15] (fun s13 s14 s15 wx=>∃o c',s13=J (Y ⟨g,o,Z⟩) (d.recs.length - 1) c'/\s14=I T ((d.recs.length - 1:Nat):Int)/\s15=I T 0/\(d.recs.length=1∨o=3)/\wx=w);case first=>
  go_wp2;·go_meet;case rel=>exact⟨_,_,rfl,rfl,rfl,.inl (by omega),rfl⟩
  ·go_meet;case rel=>exact⟨_,_,rfl,rfl,rfl,.inr rfl,rfl⟩
 case rest=>
  obtain⟨o,c',rfl,rfl,rfl,ho,rfl⟩:=hcut;clear aC a2;have HO:=dA ho;clear ho;go_wp2;go_loopw [3,15] (fun s3 s15 wr=>∃t:Nat,t<=d.recs.length - 1/\s15=I T (t:Int)/\wr.ownsRow wc.heap.size 136 11 s3 t ((d.recs.tail.take t).flatMap (fun r=>(jP r).cells))/\Below wc.heap.size wc wr) (fun s3 s15 wr=>d.recs.length - 1 - (intOf s15).toNat);case atStart=>exact⟨0,Nat.zero_le _,rfl,World.ownsRow_nil _ _ _ _,Below.refl _ _⟩
  case round=>
   obtain⟨t,ht,rfl,l,x⟩:=hrel;by_cases br:t<d.recs.length - 1
   ·have a0:o=3:=by rcases HO.out with q|q<;>omega
    subst a0;have hi:t+1<d.recs.length:=by omega
    have v:∀k,k<3->wr.cell? ⟨g,3+t*3+k,Z⟩=Y ((eE.cells d.recs[t+1]).getD k undef):=by intro k hk;have q:=HC.out _ _ (kO eE.cells 3 sH d.recs (t+1) hi k hk);rw[←q,show(t+1)*3+k=3+t*3+k by omega];exact x.cell (p:=⟨g,3+t*3+k,Z⟩) H
    have j0:=v 0 (by omega);have j1:=v 1 (by omega);have j2:=v 2 (by omega);simp[eE.cells]at j0 j1 j2;have hE:=aR.out d.recs[t+1] (List.getElem_mem hi);have X:(d.recs.tail.take (t+1)).flatMap (fun r=>(jP r).cells)=(d.recs.tail.take t).flatMap (fun r=>(jP r).cells)++(jP d.recs[t+1]).cells:=by rw[List.take_succ_eq_append_getElem (by simp;omega),List.flatMap_append];simp
    have ag:=dA X;clear v X;obtain⟨va,vc,rfl⟩:=eB l;have HR:=dA l;have az:=dA x;have a3:=x.size;have bf:(t:Int)<((d.recs.length - 1:Nat):Int):=by omega
    clear l x c1 c2;generalize d.recs[t+1]=R at*;have HW:Hid (Below wc.heap.size wc ((wr.alloc (G #[I T R.E,I T R.P,I T R.S] 66)).alloc (G #[I T 6,I T 0,I T (R.E - 1),I T 0,I T 0,I T R.P,I T R.S,I T 0,I T 0,I T 0,J Z 0 0] 136))):=(az.out.alloc a3 _).alloc (by simp;omega) _;go_wp2_with(at_builtin;go_loud (refine wpList_append_own _ rfl _ _ 22 rfl wc.heap.size 136 i0 (.agg #[I T 0,I T 0,I T 0,I T 0,I T 0,I T 0,I T 0,I T 0,I T 0,I T 0,J Z 0 0]) 11 104 underlying22 aw al ay au rfl (by decide) _ t _ rfl (World.ownsRow.alloc (World.ownsRow.alloc HR _) _) ⟨wr.heap.size+1,0,Z⟩ 1 1 (jP R).cells rfl rfl ?c1 ?c2 ?c3 ?c4 ?c5 ?_));case c1=>exact fun j u hu=>hu
    case c2=>exact rO (jP R)
    case c3=>unfold maxLen;omega
    case c4=>omega
    case c5=>first|omega|(simp;omega)
    intro v' w2 W B aD;have aj:Below wc.heap.size wc w2:=HW.out.grown B HW.out.size (fun k e=>(HR.out.lt k e).1);rw[←ag.out]at W;go_wp2_with fail;go_roundw;case rel=>exact⟨t+1,by omega,by go_num,W,aj⟩
    case measure=>simp[intOf];omega
   ·have aZ:t=d.recs.length - 1:=by omega
    have Q:d.recs.tail.take t=d.recs.tail:=List.take_of_length_le (by simp;omega);rw[Q]at l;have bf:¬(t:Int)<((d.recs.length - 1:Nat):Int):=by omega
    obtain⟨va,vc,rfl⟩:=eB l;have HR:=dA l;have az:=dA x;have a3:=x.size;have aK:wr.cell? ⟨St,2,Z⟩=Y (.map (Y Mp)):=(x.cell (p:=⟨St,2,Z⟩) a1).trans c2;have HV:=dA (HS.out.iy.later x);clear l x c1 c2 Q aZ;go_upto_region 8 with(first|(go_at_call 261;refine(FE Mp wr).mono ?_;rintro r w1 ⟨rfl,rfl⟩)|(go_at_call 260;refine(hSO wr.heap.size Mp d.di (wr.alloc (G #[Value.map (Y Mp)] 193)) (by omega) (by simp) (by simp) (HV.out.later (a_ _ _))).mono ?_;rintro r w1 ⟨v2,f,rfl,aE,af,aF,aT⟩;obtain⟨ka,kc,rfl⟩:=af.shape));have bg:=dA af;have M:Below wr.heap.size wr w1:=(a_ wr (G #[Value.map (Y Mp)] 193)).trans (aT.mono (by simp));have bc:=dA M;have bb:Hid (w1.ownsRow wc.heap.size 136 11 (J va t vc) t (d.recs.tail.flatMap (fun r=>(jP r).cells))):=dO HR (fun g H=>M.block g (HR.out.lt g H).2);have ax:=dA (HV.out.later M);have aQ:Hid (Below wc.heap.size wc w1):=az.out.trans (M.mono a3);have bq:f.length<=10000000:=by have:=aE.length_eq;simp at this;omega
    have an:w1.cell? ⟨St,2,Z⟩=Y (.map (Y Mp)):=(M.cell (p:=⟨St,2,Z⟩) (Nat.lt_of_lt_of_le a1 a3)).trans aK;have ab:St<w1.heap.size:=Nat.lt_of_lt_of_le a1 aQ.out.size;have b5:∀g,(J va t vc).ownBlock=Y g->g<wr.heap.size:=fun g H=>(HR.out.lt g H).2;have bt:=bc.out.size;have aS:∀ad,ka=Y ad->wr.heap.size<=ad.block:=fun ad hh=>by subst hh;have:=aF _ _ _ rfl;simp at this;omega
    generalize wr.heap.size=N0 at*;have aA:∀A,dK (fun g=>wc.heap.size<=g/\g<N0) w1 A->∀j (hj:j<f.length),∃kg,ka=Y ⟨kg,0,Z⟩/\A.cell? ⟨kg,j,Z⟩=Y (I T f[j]):=by intro A b4 j hj;obtain⟨kg,bs,h1,h2,h3⟩:=bg.out.at (by omega);cases h1;have aW:=aS _ rfl;refine⟨kg,rfl,Eq.trans ?_ (h3 j _ (by simp[hj]))⟩;exact nW (b4.block kg h2 (fun q=>by simp at aW;omega)) j
    have av:=dA aA;clear af aT M aA aK HR HV HC HO aR aS aF;have bl:Mp<wc.heap.size:=HS.out.iy.lt;have be:=dA HS.out.blk;clear HS;go_loopw [3,38] (fun s3 s38 A=>∃i:Nat,i<=f.length/\s38=I T (i:Int)/\A.ownsRow wc.heap.size 136 11 s3 (t+2*i) (d.recs.tail.flatMap (fun r=>(jP r).cells)++(f.take i).flatMap (fun e=>(kJ e (dG d.di e)).cells++(kK e (dG d.di e)).cells))/\Below wc.heap.size wc A/\dK (fun g=>wc.heap.size<=g/\g<N0) w1 A/\(∀g,s3.ownBlock=Y g->g<N0∨w1.heap.size<=g)) (fun s3 s38 A=>f.length - (intOf s38).toNat);case atStart=>exact⟨0,Nat.zero_le _,rfl,by simpa using bb.out,aQ,dK.refl _ _,fun g H=>.inl (b5 g H)⟩
    case round=>
     obtain⟨i,bp,rfl,b,z,y,ar⟩:=hrel;by_cases ae:i<f.length
     ·obtain⟨kg,rfl,b9⟩:=av.out _ y i ae;have X:(f.take (i+1)).flatMap (fun e=>(kJ e (dG d.di e)).cells++(kK e (dG d.di e)).cells)=(f.take i).flatMap (fun e=>(kJ e (dG d.di e)).cells++(kK e (dG d.di e)).cells)++((kJ f[i] (dG d.di f[i])).cells++(kK f[i] (dG d.di f[i])).cells):=by rw[List.take_succ_eq_append_getElem ae,List.flatMap_append];simp
      have ag:=dA X;have a4:=(ax.out.same (y.block Mp ax.out.lt (fun q=>by omega))).lookF f[i];clear X;obtain⟨aq,ak,rfl⟩:=eB b;have L:=dA b;have a5:=dA z;have s:=dA y;have aG:=dA ar;have b7:wr.cell? ⟨St,2,Z⟩=Y (.map (Y Mp)):=(nW (y.block St ab (fun q=>by omega)) 2).trans an;have C:St<wr.heap.size:=Nat.lt_of_lt_of_le ab y.size;have V:Mp<wr.heap.size:=Nat.lt_of_lt_of_le ax.out.lt y.size;have bm:=y.size;have bk:(i:Int)<(f.length:Int):=by omega
      have aH:=z.size;clear b z y an av ar;generalize f[i]=ke at*;have aI:=a4 (wr.alloc (G #[I T ke] 321)) (heap_alloc_old _ _ V);have aB:=a4 (wr.alloc (G #[I T ke] 321)).drew (heap_alloc_old _ _ V);have aM:=a4 ((wr.alloc (G #[I T ke] 321)).alloc (G #[I T 0,I T 0,I T 0,I T 0] 284)).drew ((heap_alloc_old _ _ (by simp;omega)).trans (heap_alloc_old _ _ V));clear a4;generalize dG d.di ke=O at*;go_upto_region 10 with fail;go_cut [8] from 42 to 47 (fun s8 wx=>s8=P0 (Y ⟨wr.heap.size+1,0,Z⟩)/\wx=((wr.alloc (G #[I T ke] 321)).alloc (G #[I T O.pr,I T O.ac,I T O.pm,I T O.st] 284)).drew);case first=>go_region;all_goals(go_wp2_with fail;go_meet;exact⟨rfl,rfl⟩)
      case rest=>
       obtain⟨rfl,rfl⟩:=hcut;clear aI aB aM b9 b7;go_wp2_with(at_builtin;go_loud (refine wpList_append_own_at _ rfl _ _ 22 rfl wc.heap.size 136 i0 (.agg #[I T 0,I T 0,I T 0,I T 0,I T 0,I T 0,I T 0,I T 0,I T 0,I T 0,J Z 0 0]) 11 104 underlying22 aw al ay au rfl (by decide) _ (t+2*i) _ rfl (World.ownsRow.alloc (World.ownsRow.alloc (World.ownsRow.alloc L _) _).drew _) ⟨wr.heap.size+1+1,0,Z⟩ 2 2 ((kJ ke O).cells++(kK ke O).cells) rfl rfl ?c1 ?c2 ?c3 ?c4 ?c5 ?_));case c1=>exact qW ((wr.alloc (G #[I T ke] 321)).alloc (G #[I T O.pr,I T O.ac,I T O.pm,I T O.st] 284)) (wr.heap.size+1+1) (by simp) ((kJ ke O).cells++(kK ke O).cells) 136
       case c2=>intro u hu;rcases List.mem_append.1 hu with q|q<;>exact rO _ u q
       case c3=>unfold maxLen;omega
       case c4=>omega
       case c5=>first|omega|(simp;omega)
       intro v' w2 W B aD bj;have aj:Below wc.heap.size wc w2:=Below.grown (Below.alloc (Below.drew (Below.alloc (Below.alloc a5 a5.out.size _) (by simp;omega) _)) (by simp;omega) _) B (by simp;omega) (fun k e=>(L.out.lt k e).1);have bd:dK (fun g=>wc.heap.size<=g/\g<N0) w1 w2:=by
        refine⟨B.os.trans s.out.os,B.tape.trans s.out.tape,B.output.trans s.out.output,Nat.le_trans s.out.size (Nat.le_trans (by simp;omega) B.size),fun k hk hA=>?_⟩;have b8:k<wr.heap.size:=Nat.lt_of_lt_of_le hk s.out.size;refine(B.block k (by simp;omega) (fun q=>?_)).trans (((heap_alloc_old _ _ (by simp;omega)).trans ((heap_alloc_old _ _ (by simp;omega)).trans (heap_alloc_old _ _ b8))).trans (s.out.block k hk hA));have ba:=(L.out.lt k q.symm).1;rcases aG.out k q.symm with aP|aP;·exact hA ⟨ba,aP⟩
        ·omega
       have bi:∀g,v'.ownBlock=Y g->g<N0∨w1.heap.size<=g:=by
        intro g a8;rcases bj with q|q;·rw[q]at a8;exact aG.out g a8
        ·rw[q]at a8;simp at a8;omega
       have ap:t+2*i+2=t+2*(i+1):=by omega
       rw[ap,←ag.out]at W;go_wp2_with fail;go_roundw;case rel=>exact⟨i+1,by omega,by go_num,W,aj,bd,bi⟩
       case measure=>simp[intOf];omega
     ·have aa:f.take i=f:=List.take_of_length_le (by omega);rw[aa]at b;obtain⟨aq,ak,rfl⟩:=eB b;have L:=dA b;have a5:=dA z;have C:St<wr.heap.size:=Nat.lt_of_lt_of_le a1 z.size;have n:=dA (be.out.low z a1);have bk:¬(i:Int)<(f.length:Int):=by omega
      have aH:=z.size;clear b z y an av ar aa;go_upto_region 13 with fail;have e3:=n.out.cell 3;have e4:=n.out.cell 4;have e5:=n.out.cell 5;have e6:=n.out.cell 6;have e7:=n.out.cell 7;have e8:=n.out.cell 8;simp at e3 e4 e5 e6 e7 e8;refine eR (S:=(fun w'=>w'.cell? ⟨St,7,Z⟩=Y (I T d.seen)/\w'.cell? ⟨St,8,Z⟩=Y (I T d.last))) fun _=>?_;refine tk 0 ?_;refine tk 1 ?_;refine tk 2 ?_;refine tk 3 ?_;refine tk 4 ?_;refine tk 5 ?_;refine tk 6 ?_;refine tk 7 ?_;refine tk 8 ?_;refine tk 9 ?_;refine tk 10 ?_;refine tk 11 ?_;refine tk 12 ?_;refine tk 13 ?_;refine tk 14 ?_;refine dE 15 fun K F=>?_;(try go_simp);go_at_call 263;refine(GC St d.b0 d.b1 d.b2 d.b3 wr.drew e3 e4 e5 e6 (by exact C)).mono ?_;rintro r w3 ⟨v3,rfl,a0,N⟩;obtain⟨za,U,rfl⟩:=eB a0;have z7:w3.cell? ⟨St,7,Z⟩=Y (I T d.seen):=(N.cell (p:=⟨St,7,Z⟩) C).trans e7;have z8:w3.cell? ⟨St,8,Z⟩=Y (I T d.last):=(N.cell (p:=⟨St,8,Z⟩) C).trans e8;have a6:Hid (w3.ownsRow wc.heap.size 136 11 (J aq (t+2*i) ak) (t+2*i) _):=dO L.out.drew (fun g H=>N.block g (L.out.lt g H).2);have a7:=dA a0;have aL:Hid (Below wc.heap.size wc w3):=a5.out.drew.trans (N.mono aH);have bn:wr.heap.size<=w3.heap.size:=N.size;clear a0 N;refine k1 F fun _=>?_;clear F K;refine dE 16 fun K F=>?_;(try go_simp);refine k1 F fun _=>?_;clear F K;refine dE 17 fun K F=>?_;(try go_simp);refine k1 F fun _=>?_;clear F K;refine dE 18 fun K F=>?_;refine iQ rfl (.tmp 66) (.tmp 83) 22 rfl wc.heap.size 136 i0 (.agg #[I T 0,I T 0,I T 0,I T 0,I T 0,I T 0,I T 0,I T 0,I T 0,I T 0,J Z 0 0]) 11 104 underlying22 aw al ay au rfl (by decide) (J aq (t+2*i) ak) (t+2*i) _ (by simp[Act.eval]) (World.ownsRow.alloc a6 _) ⟨w3.heap.size,0,Z⟩ 1 1 (dI.cells ⟨9,0,d.seen,0,0,0,0,d.last,0,0,za,U,[d.b0,d.b1,d.b2,d.b3]⟩) (by omega) (by simp[Act.eval]) rfl (qW w3 w3.heap.size rfl _ 136) (rO _) (by unfold maxLen;omega) (by omega) (by simp;omega) ?_;intro v5 w5 ah a9 ao;have am:w5.heap[St]?=w3.heap[St]?:=(a9.block St (by simp;omega) (fun q=>by have:=(a6.out.lt St q.symm).1;omega)).trans (heap_alloc_old _ _ (by omega));have y7:w5.cell? ⟨St,7,Z⟩=Y (I T d.seen):=(nW am 7).trans z7;have y8:w5.cell? ⟨St,8,Z⟩=Y (I T d.last):=(nW am 8).trans z8;obtain⟨wa,aY,rfl⟩:=eB ah;have b6:=dA ah;have bh:Hid (Below wc.heap.size wc w5):=Below.grown (aL.out.alloc aL.out.size _) a9 (by simp;omega) (fun k e=>(a6.out.lt k e).1);have aO:Hid (fL w5 wr.heap.size (J za 4 U) [d.b0,d.b1,d.b2,d.b3]):=dO a7 (fun g H=>(a9.block g (by have:=(a7.out.lt g H).2;simp;omega) (fun q=>uT a7 a6 (by decide) g H q.symm)).trans (heap_alloc_old _ _ (a7.out.lt g H).2));clear ah a9 ao am;refine k1 F fun _=>?_;clear F K;refine dE 19 fun K F=>?_;(try go_simp);refine k1 F fun _=>?_;clear F K;refine dn ?_;go_wp2;go_ret;have aV:(d.ig f za U).length=t+2*i+1:=by rw[sZ];omega
      refine⟨wa,aY,f,za,U,?_,aE,?_,?_,JY aO,bh⟩;·rw[aV];rfl
      ·rw[aV,GE];exact b6
      ·exact H0 aO
def eZ:Prop:=∀(B b:Nat) (l:List UInt8) (s:ByteArray) (w:World),Lib.IsBuilder 352 5 B b (gU l) w->l.length+s.size<=140737488355328->B<=w.heap.size->
  Calls pG 264 #[P0 (Y ⟨b,0,Z⟩),.string s] w fun e w'=>e=.returned (.tuple #[I T s.size,.nilIface])/\Lib.IsBuilder 352 5 B b (gU (l++s.data.toList)) w'/\Below B w w'
def H7:Prop:=∀(B b:Nat) (l:List UInt8) (w:World),Lib.IsBuilder 352 5 B b (gU l) w->B<=w.heap.size->
  Calls pG 265 #[P0 (Y ⟨b,0,Z⟩)] w fun e w'=>e=.returned (.string (dF l))/\Below B w w'
def dQ:List UInt8:=[106,111,117,114,110,97,108,46,110,101,119]
theorem IsB.later{B b:Nat}{a:List Value}{w w':World}(h:Lib.IsBuilder 352 5 B b a w)(e:Below w.heap.size w w'):Lib.IsBuilder 352 5 B b a w':=by
 have one:∀p,Lib.BuilderAt 352 5 B b p a w->Lib.BuilderAt 352 5 B b p a w':=by rintro p ⟨i,v,c,d,f⟩;exact⟨i,v,(e.block b (Array.getElem?_eq_some_iff.1 c).1).trans c,dO d (fun g j=>e.block g (d.lt g j).2),f⟩
 exact h.imp (one _) (one _)
theorem yN(l:List UInt8):(dF l).data.toList=l:=by simp[dF]
theorem EO{fs:List FD}{a:List UInt8}(h:dV fs a=none):gM fs a=none/\dY fs a=fs:=by
 unfold dV at h;rw[List.find?_eq_none]at h;refine⟨?_,?_⟩;·unfold gM;rw[List.findIdx?_eq_none_iff];intro x b;simpa using h x b
 ·unfold dY;rw[List.filter_eq_self];intro x b;simpa using h x b
theorem LD:∃a c b d:Field,(Tryz.prog.fieldsOf 284).toList=[a,c,b,d]/\¬a.name = "_" /\a.type=3/\a.offset=0/\¬c.name = "_" /\c.type=3/\c.offset=1/\¬b.name = "_" /\b.type=3/\b.offset=2/\¬d.name = "_" /\d.type=3/\d.offset=3:=by
 have h:(Tryz.prog.fieldsOf 284).toList.map (fun f=>((f.name== "_"),f.type,f.offset))=[(false,3,0),(false,3,1),(false,3,2),(false,3,3)]:=by kernel_rfl
 obtain⟨a,u,k,i,m⟩:=List.map_eq_cons_iff.1 h;obtain⟨c,v,p,e,r⟩:=List.map_eq_cons_iff.1 m;obtain⟨b,w,s,g,l⟩:=List.map_eq_cons_iff.1 r;obtain⟨d,t,q,j,n⟩:=List.map_eq_cons_iff.1 l;have o:t=[]:=List.map_eq_nil_iff.1 n;simp only[Prod.mk.injEq]at i e g j;refine⟨a,c,b,d,by rw[k,p,s,q,o],by simpa using i.1,i.2.1,i.2.2,by simpa using e.1,e.2.1,e.2.2,by simpa using g.1,g.2.1,g.2.2,by simpa using j.1,j.2.1,j.2.2⟩
theorem LE:Tryz.prog.underlying 284=Y (.struct (Tryz.prog.fieldsOf 284)):=by kernel_rfl
theorem LG:Tryz.prog.stoodInHeld 284=false:=by kernel_rfl
theorem MF(f a1 g d c a e b:Int)(w:World):(Op.equal 284 (.agg #[I T f,I T a1,I T g,I T d]) (.agg #[I T c,I T a,I T e,I T b])).run pG w=.ok ((f==c)&&(a1==a)&&(g==e)&&(d==b)) w:=by obtain⟨H,K,L,M,v,r,u,B,D,y,t,E,i,s,n,j,z⟩:=LD;show(Op.equalIn 10000 284 _ _).run _ _=_;rw[run_equalIn_struct w 9999 284 _ _ LE LG,v];have C:(part 3 #[Value.int .i64 f,Value.int .i64 a1,Value.int .i64 g,Value.int .i64 d] 0).run pG w=.ok (I T f) w:=i6 (w:=w) _ 0 _ rfl;have k:(part 3 #[Value.int .i64 c,Value.int .i64 a,Value.int .i64 e,Value.int .i64 b] 0).run pG w=.ok (I T c) w:=i6 (w:=w) _ 0 _ rfl;have x:(part 3 #[Value.int .i64 f,Value.int .i64 a1,Value.int .i64 g,Value.int .i64 d] 1).run pG w=.ok (I T a1) w:=i6 (w:=w) _ 1 _ rfl;have o:(part 3 #[Value.int .i64 c,Value.int .i64 a,Value.int .i64 e,Value.int .i64 b] 1).run pG w=.ok (I T a) w:=i6 (w:=w) _ 1 _ rfl;have p2:(part 3 #[Value.int .i64 f,Value.int .i64 a1,Value.int .i64 g,Value.int .i64 d] 2).run pG w=.ok (I T g) w:=i6 (w:=w) _ 2 _ rfl;have F:(part 3 #[Value.int .i64 c,Value.int .i64 a,Value.int .i64 e,Value.int .i64 b] 2).run pG w=.ok (I T e) w:=i6 (w:=w) _ 2 _ rfl;have h:(part 3 #[Value.int .i64 f,Value.int .i64 a1,Value.int .i64 g,Value.int .i64 d] 3).run pG w=.ok (I T d) w:=i6 (w:=w) _ 3 _ rfl;have q:(part 3 #[Value.int .i64 c,Value.int .i64 a,Value.int .i64 e,Value.int .i64 b] 3).run pG w=.ok (I T b) w:=i6 (w:=w) _ 3 _ rfl;simp only[Op.eqFields,u,B,C,k,y,t,x,o,i,s,p2,F,j,z,h,q,Sem.run_bind,Sem.run_ite,Result.andThen_ok,run_equalIn_int w 9998 3 .i64 .i64 _ _ underlying3];by_cases m:f=c<;>by_cases p:a1=a<;>by_cases l:g=e<;>by_cases A:d=b<;>simp[m,r,p,D,l,E,A,n]
theorem BF(a a1 d f c b e g:Int)(w:World):(binOp .neq 284 (.agg #[I T a,I T a1,I T d,I T f]) (.agg #[I T c,I T b,I T e,I T g])).run pG w=.ok (.bool (!((a==c)&&(a1==b)&&(d==e)&&(f==g)))) w:=by simp only[binOp];simp[MF]
theorem MG:∃b a:Field,(Tryz.prog.fieldsOf 196).toList=[b,a]/\¬b.name = "_" /\b.type=3/\b.offset=0/\¬a.name = "_" /\a.type=3/\a.offset=1:=by
 have h:(Tryz.prog.fieldsOf 196).toList.map (fun f=>((f.name== "_"),f.type,f.offset))=[(false,3,0),(false,3,1)]:=by kernel_rfl
 obtain⟨b,m,e,d,k⟩:=List.map_eq_cons_iff.1 h;obtain⟨a,i,g,c,j⟩:=List.map_eq_cons_iff.1 k;have l:i=[]:=List.map_eq_nil_iff.1 j;simp only[Prod.mk.injEq]at d c;refine⟨b,a,by rw[e,g,l],by simpa using d.1,d.2.1,d.2.2,by simpa using c.1,c.2.1,c.2.2⟩
theorem MH:Tryz.prog.underlying 196=Y (.struct (Tryz.prog.fieldsOf 196)):=by kernel_rfl
theorem MI:Tryz.prog.stoodInHeld 196=false:=by kernel_rfl
theorem NV(c a1 b a:Int)(w:World):(Op.equal 196 (.agg #[I T c,I T a1]) (.agg #[I T b,I T a])).run pG w=.ok ((c==b)&&(a1==a)) w:=by obtain⟨q,r,k,h,i,n,p,m,j⟩:=MG;show(Op.equalIn 10000 196 _ _).run _ _=_;rw[run_equalIn_struct w 9999 196 _ _ MH MI,k];have o:(part 3 #[Value.int .i64 c,Value.int .i64 a1] 0).run pG w=.ok (I T c) w:=i6 (w:=w) _ 0 _ rfl;have d:(part 3 #[Value.int .i64 b,Value.int .i64 a] 0).run pG w=.ok (I T b) w:=i6 (w:=w) _ 0 _ rfl;have l:(part 3 #[Value.int .i64 c,Value.int .i64 a1] 1).run pG w=.ok (I T a1) w:=i6 (w:=w) _ 1 _ rfl;have f:(part 3 #[Value.int .i64 b,Value.int .i64 a] 1).run pG w=.ok (I T a) w:=i6 (w:=w) _ 1 _ rfl;simp only[Op.eqFields,i,n,o,d,m,j,l,f,Sem.run_bind,Sem.run_ite,Result.andThen_ok,run_equalIn_int w 9998 3 .i64 .i64 _ _ underlying3];by_cases e:c=b<;>by_cases g:a1=a<;>simp[e,h,g,p]
theorem wE(a a1 c b:Int)(w:World):(binOp .neq 196 (.agg #[I T a,I T a1]) (.agg #[I T c,I T b])).run pG w=.ok (.bool (!((a==c)&&(a1==b)))) w:=by simp only[binOp];simp[NV]
end
end Go.Proofs.YtdcainmlcpafbaaGreatDoor
