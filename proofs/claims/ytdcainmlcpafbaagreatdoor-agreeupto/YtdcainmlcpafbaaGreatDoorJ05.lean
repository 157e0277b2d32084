import Derived.Test.YtdcainmlcpafbaaGreatDoorJ04
import Derived.Laws.AppendOwnNone
import Derived.OneCell
import Derived.Conc.MuLone
import Derived.KernelRfl
set_option linter.all false
set_option maxHeartbeats 16000000
set_option maxRecDepth 20000
namespace Go.Proofs.YtdcainmlcpafbaaGreatDoor
open Go.RowKit
open Value renaming int->I,slice->J,pointer->P0
open Tryz
open Tryz renaming prog->pG
open IntKind renaming i64->T
open Option renaming none->Z,some->Y
open Obj renaming cells->G
open Value (bool)
def vP(n:Nat)(j:Nat):Value:=if j%2=0 then I T (-1000 - (n:Int)) else J Z 0 0
def vR(n:Nat)(j:Nat):Value:=if j%3=0 then I T (-1000 - (n:Int)) else I T 0
def vS(n:Nat)(j:Nat):Value:=if j%5=0 then I T (-1000 - (n:Int)) else I T 0
def uB:Nat->Nat
 |0=>1
 |1=>1
 |2=>2
 |3=>3
 |_=>5
def DU:Nat->TypeId
 |0=>150
 |1=>153
 |2=>156
 |3=>159
 |_=>162
def uC:Nat->Nat->Nat->Value
 |0=>vB
 |1=>vI
 |2=>vP
 |3=>vR
 |_=>vS
def pK(c:Nat)(val:Nat->Value)(w:World)(base:Nat)(bad:Nat->Prop)(x:Value):Prop:=
 ∃a len cp,x=J a len cp/\len<=4194304/\(len=0∨∃g,a=Y ⟨g,0,Z⟩/\base<=g/\g<w.heap.size/\¬bad g/\∀j,j<len*c->w.cell? ⟨g,j,Z⟩=Y (val j))
theorem pK.kept{c:Nat}{e:Nat->Value}{w w':World}{base:Nat}{d b:Nat->Prop}{x:Value}(h:pK c e w base d x)(hs:w.heap.size<=w'.heap.size)(n:∀g,base<=g->g<w.heap.size->¬d g->w'.heap[g]?=w.heap[g]?/\¬b g):pK c e w' base b x:=by
 obtain⟨a,len,m,o,l,f⟩:=h;refine⟨a,len,m,o,l,?_⟩;rcases f with f|⟨g,r,i,k,p,s⟩;·exact .inl f
 ·obtain⟨k1,k2⟩:=n g i k p;exact .inr ⟨g,r,i,Nat.lt_of_lt_of_le k hs,k2,fun j q=>(World.cell?_of_block (w:=w) (a:=⟨g,j,Z⟩) k1).trans (s j q)⟩
def sG(k:Nat)(w:World)(base:Nat)(bad:Nat->Prop)(e:nN):Prop:=
 pK (uB k) (uC k e.n) w base bad e.l/\pK (uB k) (uC k e.n) w base bad e.a/\pK (uB k) (uC k e.n) w base bad e.b/\pK (uB k) (uC k e.n) w base bad e.c
theorem sG.kept{k:Nat}{w w':World}{base:Nat}{b a:Nat->Prop}{e:nN}(h:sG k w base b e)(hs:w.heap.size<=w'.heap.size)(c:∀g,base<=g->g<w.heap.size->¬b g->w'.heap[g]?=w.heap[g]?/\¬a g):sG k w' base a e:=⟨h.1.kept hs c,h.2.1.kept hs c,h.2.2.1.kept hs c,h.2.2.2.kept hs c⟩
theorem dO{w w':World}{base:Nat}{e:TypeId}{size n:Nat}{v:Value}{xs:List Value}(h:w.ownsRow base e size v n xs)(i:∀g,v.ownBlock=Y g->w'.heap[g]?=w.heap[g]?):w'.ownsRow base e size v n xs:=by
 refine⟨h.1,?_⟩;rcases h.2 with k|⟨g,b,a,c,d,f,j⟩;·exact .inl k
 ·exact .inr ⟨g,b,a,c,d,(i g (by rw[c];rfl)).trans f,j⟩
def tY(ext:Nat->Prop)(v:Nat->Value)(g:Nat):Prop:=(∃k,k<5/\(v k).ownBlock=Y g)∨ext g
def upd{α:Type}(f:Nat->α)(k:Nat)(x:α)(i:Nat):α:=if i=k then x else f i
theorem mG{α:Type}(f:Nat->α)(k:Nat)(x:α):upd f k x k=x:=by simp[upd]
theorem lR{α:Type}(f:Nat->α){k i:Nat}(x:α)(h:i≠k):upd f k x i=f i:=by simp[upd,h]
structure mA(ext:Nat->Prop)(w:World)(base R:Nat)(v:Nat->Value)(es:Nat->List nN):Prop where
 cell:∀k,k<5->w.cell? ⟨R,4+k,Z⟩=Y (v k)
 free:∀i,w.frozen? ⟨R,i,Z⟩=false
 lt:R<base
 le:base<=w.heap.size
 own:∀k,k<5->w.ownsRow base (DU k) 5 (v k) (es k).length ((es k).flatMap nN.cells)
 ne:∀k l,k<5->l<5->k≠l->∀g,(v k).ownBlock=Y g->(v l).ownBlock≠some g
 num:∀k,k<5->∀i (h:i<(es k).length),(es k)[i].n=i
 ok:∀k,k<5->∀e∈es k,sG k w base (tY ext v) e
 ex:∀k,k<5->∀g,(v k).ownBlock=Y g->¬ext g
 exR:¬ext R
 small:∀k,k<5->(es k).length<=4194304
section
variable {ext ext':Nat->Prop} {w w':World} {base R:Nat} {v:Nat->Value} {es:Nat->List nN}
theorem mA.shift(h:mA ext w base R v es)(hs:w.heap.size<=w'.heap.size)(l:∀g,g<w.heap.size->¬ext g->w'.heap[g]?=w.heap[g]?)(n:∀g,g<w.heap.size->ext' g->ext g):mA ext' w' base R v es:=by
 have p:R<w.heap.size:=Nat.lt_of_lt_of_le h.lt h.le;have f:=l R p h.exR;refine⟨fun k b=>?_,fun i=>?_,h.lt,Nat.le_trans h.le hs,fun k b=>?_,h.ne,h.num,fun k b e q=>?_,fun k b g c d=>?_,fun d=>h.exR (n R p d),h.small⟩;·exact(World.cell?_of_block (w:=w) (a:=⟨R,4+k,Z⟩) f).trans (h.cell k b)
 ·exact(World.frozen?_of_block (w:=w) (a:=⟨R,i,Z⟩) f).trans (h.free i)
 ·exact dO (h.own k b) (fun g c=>l g ((h.own k b).lt g c).2 (h.ex k b g c))
 ·refine(h.ok k b e q).kept hs (fun g _ o j=>⟨l g o (fun d=>j (.inr d)),?_⟩);rintro(m|m);·exact j (.inl m)
  ·exact j (.inr (n g o m))
 ·exact h.ex k b g c (n g ((h.own k b).lt g c).2 d)
theorem mA.later(h:mA ext w base R v es)(a:Below w.heap.size w w'):mA ext w' base R v es:=h.shift a.size (fun g b _=>a.block g b) (fun g _ c=>c)
theorem mA.low(h:mA ext w base R v es){g k:Nat}(a:k<5)(b:(v k).ownBlock=Y g):base<=g/\g<w.heap.size:=(h.own k a).lt g b
theorem mA.push{y:World}(h:mA ext y base R v es)(k:Nat)(U:k<5)(v':Value)(N:nN)(hn:N.n=(es k).length)(ho:w'.ownsRow base (DU k) 5 v' ((es k).length+1) ((es k).flatMap nN.cells++N.cells))(V:y.grownBy w' (v k).ownBlock)(hv:∃g,v'.ownBlock=Y g/\((v k).ownBlock=Y g∨y.heap.size<=g))(X:sG k y base (tY ext v) N)(D:∀g,y.heap.size<=g->¬ext g)(a0:(es k).length<4194304):mA ext (w'.setCell ⟨R,4+k,Z⟩ v') base R (upd v k v') (upd es k (es k++[N])):=by
 have hR:R<y.heap.size:=Nat.lt_of_lt_of_le h.lt h.le;have M:some R≠(v k).ownBlock:=fun m=>by have:=(h.low U m.symm).1;have:=h.lt;omega
 have K:=V.block R hR M;have L:=xO w' ⟨R,4+k,Z⟩ v';have u:=V.size;have t:∀i,w'.cell? ⟨R,i,Z⟩=y.cell? ⟨R,i,Z⟩:=fun i=>World.cell?_of_block (w:=y) (a:=⟨R,i,Z⟩) K;have F:∀i,i≠4+k->(w'.setCell ⟨R,4+k,Z⟩ v').cell? ⟨R,i,Z⟩=y.cell? ⟨R,i,Z⟩:=fun i hi=>(World.cell?_setCell_other _ _ _ _ (by intro m;have:=congrArg Addr.off m;simp at this;omega)).trans (t i);have A:∀g,base<=g->g<y.heap.size->some g≠(v k).ownBlock->(w'.setCell ⟨R,4+k,Z⟩ v').heap[g]?=y.heap[g]?:=fun g o W C=>(L.block g (by omega) (by have:=h.lt;simp;omega)).trans (V.block g W C);obtain⟨B,s,j⟩:=hv;have r:∀g,base<=g->g<y.heap.size->¬tY ext v g->(w'.setCell ⟨R,4+k,Z⟩ v').heap[g]?=y.heap[g]?/\¬tY ext (upd v k v') g:=by
  intro g o W C;refine⟨A g o W (fun m=>C (.inl ⟨k,U,m.symm⟩)),?_⟩;rintro(⟨l,d,m⟩|m)
  ·by_cases c:l=k
   ·subst c;rw[mG,s]at m;obtain rfl:B=g:=by simpa using m
    rcases j with h4|h4;·exact C (.inl ⟨l,d,h4⟩)
    ·omega
   ·rw[lR _ _ c]at m;exact C (.inl ⟨l,d,m⟩)
  ·exact C (.inr m)
 refine⟨fun l d=>?cell,fun i=>?free,h.lt,?le,fun l d=>?own,fun a b Q S x g q p=>?ne,fun l d=>?num,fun l d e z=>?ok,fun l d g f=>?ex,h.exR,fun l d=>?small⟩;case cell=>
  by_cases c:l=k;·subst c;rw[mG];exact World.cell?_setCell_same _ _ _ ((t _).trans (h.cell l d))
  ·rw[lR _ _ c];exact(F _ (by omega)).trans (h.cell l d)
 case free=>rw[World.frozen?_setCell];exact(World.frozen?_of_block (w:=y) (a:=⟨R,i,Z⟩) K).trans (h.free i)
 case le=>rw[qT];exact Nat.le_trans h.le u
 case own=>
  by_cases c:l=k;·subst c;rw[mG,mG,List.length_append,List.flatMap_append];simp only[List.length_cons,List.length_nil,List.flatMap_cons,List.flatMap_nil,List.append_nil];exact ho.kept L (.inr (by rw[s];intro m;simp at m;rcases j with o|o;exact M (by rw[o,m]);omega))
  ·rw[lR _ _ c,lR _ _ c];refine dO (h.own l d) (fun g f=>?_);exact A g (h.low d f).1 (h.low d f).2 (fun m=>h.ne l k d U c g f m.symm)
 case ne=>
  by_cases H:a=k
  ·subst H;rw[mG,s]at q;obtain rfl:B=g:=by simpa using q
   rw[lR _ _ (Ne.symm x)]at p;rcases j with o|o;·exact h.ne b a S Q (Ne.symm x) B p o
   ·have:=(h.low S p).2;omega
  ·rw[lR _ _ H]at q;by_cases E:b=k
   ·subst E;rw[mG,s]at p;obtain rfl:B=g:=by simpa using p
    rcases j with o|o;·exact h.ne a b Q S x B q o
    ·have:=(h.low Q q).2;omega
   ·rw[lR _ _ E]at p;exact h.ne a b Q S x g q p
 case num=>
  by_cases c:l=k
  ·subst c;rw[mG];intro i hi;by_cases O:i<(es l).length;·rw[List.getElem_append_left O];exact h.num l d i O
   ·have:i=(es l).length:=by simp at hi;omega
    subst this;simp[hn]
  ·rw[lR _ _ c];exact h.num l d
 case ok=>
  by_cases c:l=k
  ·subst c;rw[mG]at z;rcases List.mem_append.1 z with z|z;·exact(h.ok l d e z).kept (by rw[qT];exact u) r
   ·obtain rfl:e=N:=by simpa using z
    exact X.kept (by rw[qT];exact u) r
  ·rw[lR _ _ c]at z;exact(h.ok l d e z).kept (by rw[qT];exact u) r
 case ex=>
  by_cases c:l=k
  ·subst c;rw[mG,s]at f;obtain rfl:B=g:=by simpa using f
   rcases j with o|o;·exact h.ex l d B o
   ·exact D B o
  ·rw[lR _ _ c]at f;exact h.ex l d g f
 case small=>
  by_cases c:l=k;·subst c;rw[mG];simp;omega
  ·rw[lR _ _ c];exact h.small l d
end
structure KC(c:Nat)(e:TypeId)(low:Nat)(w1:World)(l:Value)(len:Nat)(xs:List Value)(wk:World)(cs:List Value):Prop where
 own:wk.ownsRow low e c l len xs
 box:∀i,wk.cell? ⟨w1.heap.size,i,Z⟩=cs[i]?
 free:∀i,wk.frozen? ⟨w1.heap.size,i,Z⟩=false
 gr:w1.grownBy wk l.ownBlock
 lt:w1.heap.size<wk.heap.size
 off:l.ownBlock≠some w1.heap.size
section
variable {c:Nat} {e:TypeId} {low:Nat} {w1:World} {l:Value} {len:Nat} {xs:List Value} {wk:World} {cs:List Value}
theorem KC.spot(h:KC c e low w1 l len xs wk cs)(o:Obj){b:World}(f:(wk.alloc o).grownBy b l.ownBlock):(∀i,b.cell? ⟨w1.heap.size,i,Z⟩=cs[i]?)/\(∀i,b.frozen? ⟨w1.heap.size,i,Z⟩=false):=by have d:=(f.block _ (by have:=h.lt;simp;omega) (Ne.symm h.off)).trans (heap_alloc_old wk o h.lt);exact⟨fun i=>(World.cell?_of_block (w:=wk) (a:=⟨w1.heap.size,i,Z⟩) d).trans (h.box i),fun i=>(World.frozen?_of_block (w:=wk) (a:=⟨w1.heap.size,i,Z⟩) d).trans (h.free i)⟩
theorem KC.next(h:KC c e low w1 l len xs wk cs)(o:Obj){j:World}(g:j.ownsRow low e c l len xs)(d:(wk.alloc o).grownBy j l.ownBlock)(b:Nat)(hi:b<cs.length)(v:Value):KC c e low w1 l len xs (j.setCell ⟨w1.heap.size,b,Z⟩ v) (cs.set b v):=by
 obtain⟨n,r⟩:=h.spot o d;have a:=xO j ⟨w1.heap.size,b,Z⟩ v;refine⟨g.kept a (by by_cases s:l.ownBlock=none;exact .inl s;exact .inr h.off),fun i=>?_,fun i=>?_,?_,?_,h.off⟩
 ·by_cases m:i=b;·subst m;rw[World.cell?_setCell_same _ _ _ ((n i).trans (List.getElem?_eq_getElem hi)),List.getElem?_set_self hi]
  ·rw[World.cell?_setCell_other _ _ _ _ (by intro t;have:=congrArg Addr.off t;simp at this;omega),n,List.getElem?_set_ne (by omega)]
 ·rw[World.frozen?_setCell];exact r i
 ·refine⟨a.os.trans (d.os.trans h.gr.os),a.tape.trans (d.tape.trans h.gr.tape),a.output.trans (d.output.trans h.gr.output),?_,fun k p f=>?_⟩;·have:=h.gr.size;have:=d.size;have:=a.size;simp at*;omega
  ·have q:=h.gr.size;refine(a.block k (by have:=d.size;simp at this;omega) (by simp;omega)).trans ((d.block k (by simp;omega) f).trans ((heap_alloc_old wk o (by omega)).trans (h.gr.block k p f)))
 ·have:=h.lt;have:=d.size;rw[qT];simp at*;omega
end
theorem wD:(Tryz.prog.info? 66).map (fun i=>(i.zero,i.size,i.bytes))=Y (Y (.agg #[I T 0,I T 0,I T 0]),3,24):=by kernel_rfl
theorem dK.refl(A:Nat->Prop)(w:World):dK A w w:=⟨rfl,rfl,rfl,Nat.le_refl _,fun _ _ _=>rfl⟩
theorem dK.trans{A B C:Nat->Prop}{a b c:World}(h:dK A a b)(k:dK B b c)(j:∀g,A g->C g)(i:∀g,g<a.heap.size->B g->C g):dK C a c:=⟨k.os.trans h.os,k.tape.trans h.tape,k.output.trans h.output,Nat.le_trans h.size k.size,fun g d f=>(k.block g (Nat.lt_of_lt_of_le d h.size) (fun e=>f (i g d e))).trans (h.block g d (fun e=>f (j g e)))⟩
theorem dK.of_below{A:Nat->Prop}{w w':World}(h:Below w.heap.size w w'):dK A w w':=⟨h.os,h.tape,h.output,h.size,fun k a _=>h.block k a⟩
structure DV where
 dst:Int
 d:Value
def DV.cells(p:DV):List Value:=[I T p.dst,p.d]
structure tV where
 ep:Int
 pr:Int
 wa:Int
 pm:Int
 st:Int
def tV.cells(v:tV):List Value:=[I T v.ep,I T v.pr,I T v.wa,I T v.pm,I T v.st]
structure P6 where
 ph:Int
 pm:Int
 st:Int
 ba:Int
 wa:Int
 rf:Int
 nd:Int
 sq:Int
 fr:List Int
structure O4 where
 nu:Int
 bl:Int
 va:Int
 lf:Int
structure O5 where
 op:Int
 bl:Int
 va:Int
 ep:Int
 sq:Int
structure RN where
 id:Int
 nodes:Int
 recs:List eE
 lq:List tV
 blocks:List Int
 seen:Int
 last:Int
 act:Bool
 cs:List P6
 os:List O4
 ops:Int
 res:List O5
def eY(w:World)(v:Value)(n:Nat)(cs:List Value):Prop:=
 (v=J Z 0 0/\n=0/\cs=[])∨∃g cap,v=J (Y ⟨g,0,Z⟩) n cap/\g<w.heap.size/\∀j u,cs[j]?=Y u->w.cell? ⟨g,j,Z⟩=Y u
theorem eY.shape{w:World}{v:Value}{n:Nat}{cs:List Value}(h:eY w v n cs):∃a c,v=J a n c:=by
 rcases h with⟨rfl,rfl,_⟩|⟨g,c,rfl,_⟩;·exact⟨_,_,rfl⟩
 ·exact⟨_,_,rfl⟩
theorem eY.later{w w':World}{v:Value}{n:Nat}{cs:List Value}(h:eY w v n cs)(b:Below w.heap.size w w'):eY w' v n cs:=by
 rcases h with h|⟨g,c,e,a,f⟩;·exact .inl h
 ·exact .inr ⟨g,c,e,Nat.lt_of_lt_of_le a b.size,fun j u d=>(b.cell (p:=⟨g,j,Z⟩) a).trans (f j u d)⟩
theorem eY.gq{w:World}{base:Nat}{e:TypeId}{size n:Nat}{v:Value}{cs:List Value}(h:w.ownsRow base e size v n cs):eY w v n cs:=by
 rcases h.2 with⟨rfl,rfl⟩|⟨g,a,b,rfl,f,d,_⟩;·exact .inl ⟨rfl,rfl,List.eq_nil_of_length_eq_zero (by simpa using h.1)⟩
 ·refine .inr ⟨g,a,rfl,(h.lt g rfl).2,fun j u c=>?_⟩;have:=h.cells (g:=g) rfl j u c;rw[Go.WideShapes.add_plain]at this;simpa using this
theorem eY.at{w:World}{v:Value}{n:Nat}{cs:List Value}(h:eY w v n cs)(b:0<n):∃g a,v=J (Y ⟨g,0,Z⟩) n a/\g<w.heap.size/\∀j u,cs[j]?=Y u->w.cell? ⟨g,j,Z⟩=Y u:=by
 rcases h with⟨_,c,_⟩|h;·omega
 ·exact h
theorem mW{w:World}{base a:Nat}{e:TypeId}{size n:Nat}{v:Value}{xs:List Value}(h:w.ownsRow base e size v n xs)(f:a<=base):w.ownsRow a e size v n xs:=by
 refine⟨h.1,?_⟩;rcases h.2 with k|⟨g,c,b,d,i,j⟩;·exact .inl k
 ·exact .inr ⟨g,c,b,d,Nat.le_trans f i,j⟩
theorem uG{P:Program}{w:World}{ops:Array Oper}{d:List Oper}{o:Oper}{a:Act}{Q:Exit->Act->World->Prop}(l:o.guard=none)(s x:Operand)(t:TypeId)(D:o.op=.call {callee:=.builtin .append,args:=#[s,x],argTypes:=#[t,t]})(base:Nat)(e:TypeId)(i:TypeInfo)(z:Value)(size bytes:Nat)(E:P.underlying t=Y (.slice e))(hi:P.info? e=Y i)(H:i.zero=Y z)(f:i.size=size)(p:i.bytes=bytes)(B:z.cells.size=size)(r:0<size)(v:Value)(n:Nat)(xs:List Value)(hs:a.eval s=v)(b:w.ownsRow base e size v n xs)(y:Value)(m:Nat)(news:List Value)(C:a.eval x=y)(hy:eY w y m news)(O:news.length=m*size)(L:∀u∈news,u.oneCell'=true)(q:n+m<=maxLen)(c:(n+m)*bytes<=140737488355328)(k:base<=w.heap.size)(h:∀v' w',w'.ownsRow base e size v' (n+m) (xs++news)->w.grownBy w' v.ownBlock->wpList P ops Q d (a.put o.dst v') w'):wpList P ops Q (o::d) a w:=by
 rcases hy with⟨rfl,rfl,rfl⟩|⟨g,A,rfl,R,M⟩;·refine wpList_append_own_none l s x t D base e i size E hi v n xs hs b C ?_;exact h v w (by simpa using b) ⟨rfl,rfl,rfl,Nat.le_refl _,fun _ _ _=>rfl⟩
 ·exact wpList_append_own w l s x t D base e i z size bytes E hi H f p B r v n xs hs b ⟨g,0,Z⟩ m A news C O (fun j u K=>by rw[Go.WideShapes.add_plain];simpa using M j u K) L q c k (fun v' w' N F _=>h v' w' N F)
theorem uS{α:Type}(f:α->List Value)(c:Nat)(a:∀x,(f x).length=c)(l:List α):(l.flatMap f).length=l.length*c:=by
 induction l with
 |nil=>simp
 |cons x l ih=>rw[List.flatMap_cons,List.length_append,ih,a,List.length_cons,Nat.add_mul];omega
theorem kO{α:Type}(f:α->List Value)(c:Nat)(a:∀x,(f x).length=c):∀(l:List α) (i:Nat) (h:i<l.length) (k:Nat) (b:k<c),(l.flatMap f)[i*c+k]?=Y ((f l[i]).getD k undef):=by
 intro l;induction l with
 |nil=>intro i h;simp at h
 |cons x l ih=>
  intro i h k b;rw[List.flatMap_cons];match i with
  |0=>rw[List.getElem?_append_left (by rw[a];omega)];simp only[Nat.zero_mul,Nat.zero_add,List.getElem_cons_zero];rw[List.getD_eq_getElem?_getD,List.getElem?_eq_getElem (by rw[a];exact b)];rfl
  |i+1=>rw[List.getElem?_append_right (by rw[a,Nat.add_mul];omega),a,show(i+1)*c+k - c=i*c+k by rw[Nat.add_mul];omega];exact ih i (by simpa using h) k b
theorem sH(x:eE):(eE.cells x).length=3:=rfl
theorem K6{l:List eE}:∀u∈l.flatMap eE.cells,u.oneCell'=true:=by intro u a;obtain⟨r,_,h⟩:=List.mem_flatMap.1 a;simp[eE.cells]at h;rcases h with rfl|rfl|rfl<;>rfl
structure kQ(w:World)(low X:Nat)(n:RN)(vr vv vb vc vo vs:Value):Prop where
 blk:w.heap[X]?=Y (.cells #[I T n.id,I T n.nodes,vr,vv,vb,I T n.seen,I T n.last,bool n.act,vc,vo,I T n.ops,vs,bool false,J Z 0 0] 225 (0,0))
 lx:low<=X
 r:w.ownsRow low 66 3 vr n.recs.length (n.recs.flatMap eE.cells)
 v:w.ownsRow low 275 5 vv n.lq.length (n.lq.flatMap tV.cells)
 b:w.ownsRow low 3 1 vb n.blocks.length (n.blocks.map (Value.int .i64))
section
variable {w w':World} {low X:Nat} {n:RN} {vr vv vb vc vo vs:Value}
theorem kQ.lt(h:kQ w low X n vr vv vb vc vo vs):X<w.heap.size:=(Array.getElem?_eq_some_iff.1 h.blk).1
theorem kQ.cell(h:kQ w low X n vr vv vb vc vo vs)(i:Nat):w.cell? ⟨X,i,Z⟩=#[I T n.id,I T n.nodes,vr,vv,vb,I T n.seen,I T n.last,bool n.act,vc,vo,I T n.ops,vs,bool false,J Z 0 0][i]?:=by simp[World.cell?,h.blk]
theorem kQ.free(h:kQ w low X n vr vv vb vc vo vs)(i:Nat):w.frozen? ⟨X,i,Z⟩=false:=by simp[World.frozen?,h.blk]
theorem iS{base:Nat}{e t:TypeId}{size k:Nat}{v:Value}{xs:List Value}{cs:Array Value}{i:Nat×Nat}(h:w.ownsRow base e size v k xs)(d:w.heap[X]?=Y (.cells cs t i))(a:t≠e):v.ownBlock≠some X:=by
 intro c;rcases h.2 with⟨rfl,_⟩|⟨g,j,f,rfl,_,b,_⟩;·simp[Value.ownBlock]at c
 ·simp[Value.ownBlock]at c;subst c;rw[d]at b;simp at b;exact a b.2.1
theorem uT{base b:Nat}{e j:TypeId}{size a k o:Nat}{v v':Value}{xs i:List Value}(h:w.ownsRow base e size v k xs)(h':w.ownsRow b j a v' o i)(c:e≠j):∀g,v.ownBlock=Y g->v'.ownBlock≠some g:=by
 intro g f d;rcases h.2 with⟨rfl,_⟩|⟨p,n,m,rfl,_,l,_⟩;·simp[Value.ownBlock]at f
 ·simp[Value.ownBlock]at f;subst f;exact iS h' l c d
theorem kQ.later(h:kQ w low X n vr vv vb vc vo vs)(c:Below w.heap.size w w'):kQ w' low X n vr vv vb vc vo vs:=⟨(c.block X h.lt).trans h.blk,h.lx,dO h.r (fun g a=>c.block g (h.r.lt g a).2),dO h.v (fun g a=>c.block g (h.v.lt g a).2),dO h.b (fun g a=>c.block g (h.b.lt g a).2)⟩
end
def gJ(k id e b wa p s q bl v:Int)(zs:List Int):List UInt8:=jM k.toNat id.toNat [0,e,b,wa,p,s,q,bl,v,(zs.length:Int)] zs
theorem dH.set{X:Nat}{a b:World}(h:dH X a b)(i:Nat)(u:Value):dH X a (b.setCell ⟨X,i,Z⟩ u):=h.trans (dH.setCell b ⟨X,i,Z⟩ u)
theorem kQ.put{w w':World}{low X:Nat}{n m:RN}{vr vv vb vc vo vs c e f:Value}(h:kQ w low X n vr vv vb vc vo vs)(j:m.lq=n.lq)(k:m.blocks=n.blocks)(l:w'.heap[X]?=Y (.cells #[I T m.id,I T m.nodes,c,vv,vb,I T m.seen,I T m.last,bool m.act,e,f,I T m.ops,vs,bool false,J Z 0 0] 225 (0,0)))(o:w'.ownsRow low 66 3 c m.recs.length (m.recs.flatMap eE.cells))(i:∀g,g<w.heap.size->g≠X->vr.ownBlock≠some g->w'.heap[g]?=w.heap[g]?):kQ w' low X m c vv vb e f vs:=by
 refine⟨l,h.lx,o,?_,?_⟩;·rw[j];exact dO h.v (fun g a=>i g (h.v.lt g a).2 (fun d=>iS h.v h.blk (by decide) (d ▸ a)) (fun d=>uT h.r h.v (by decide) g d a))
 ·rw[k];exact dO h.b (fun g a=>i g (h.b.lt g a).2 (fun d=>iS h.b h.blk (by decide) (d ▸ a)) (fun d=>uT h.r h.b (by decide) g d a))
theorem kQ.drew{w:World}{low X:Nat}{n:RN}{vr vv vb vc vo vs:Value}(h:kQ w low X n vr vv vb vc vo vs):kQ w.drew low X n vr vv vb vc vo vs:=⟨h.blk,h.lx,h.r,h.v,h.b⟩
structure DW where
 dst:Int
 bs:List UInt8
def DW.cells(p:DW):List Value:=[I T p.dst,.string (dF p.bs)]
theorem dH.set2{X:Nat}{a b:World}(h:dH X a b)(i:Nat)(u:Value):dH X a (b.setCell ⟨X,i,Z⟩ u):=h.trans (dH.setCell b ⟨X,i,Z⟩ u)
theorem dH.jq(X:Nat)(a:World):dH X a a:=⟨rfl,rfl,rfl,rfl,fun _ _=>rfl⟩
structure dC(w:World)(B:Nat)(cs:Array Value)(t:TypeId):Prop where
 blk:w.heap[B]?=Y (.cells cs t (0,0))
section
variable {w w':World} {B C:Nat} {cs:Array Value} {t:TypeId}
theorem dC.lt(h:dC w B cs t):B<w.heap.size:=(Array.getElem?_eq_some_iff.1 h.blk).1
theorem dC.cell(h:dC w B cs t)(i:Nat):w.cell? ⟨B,i,Z⟩=cs[i]?:=by simp[World.cell?,h.blk]
theorem dC.free(h:dC w B cs t)(i:Nat):w.frozen? ⟨B,i,Z⟩=false:=by simp[World.frozen?,h.blk]
theorem dC.later(h:dC w B cs t)(a:Below w.heap.size w w'):dC w' B cs t:=⟨(a.block B h.lt).trans h.blk⟩
theorem dC.low(h:dC w B cs t)(b:Below C w w')(a:B<C):dC w' B cs t:=⟨(b.block B a).trans h.blk⟩
theorem dC.same(h:dC w B cs t)(a:w'.heap[B]?=w.heap[B]?):dC w' B cs t:=⟨a.trans h.blk⟩
theorem dC.set(h:dC w B cs t)(i:Nat)(u:Value):dC (w.setCell ⟨B,i,Z⟩ u) B (cs.setIfInBounds i u) t:=⟨uF w B cs t i u h.blk⟩
theorem dC.setO(h:dC w B cs t)(a:B≠C)(i:Nat)(u:Value):dC (w.setCell ⟨C,i,Z⟩ u) B cs t:=⟨((dH.setCell w ⟨C,i,Z⟩ u).block B a).trans h.blk⟩
theorem dC.old(h:dC w B cs t)(o:Obj):dC (w.alloc o) B cs t:=⟨(heap_alloc_old w o h.lt).trans h.blk⟩
theorem dC.new(w:World)(cs:Array Value)(t:TypeId):dC (w.alloc (G cs t)) w.heap.size cs t:=⟨heap_alloc_new _ _⟩
theorem dC.drew(h:dC w B cs t):dC w.drew B cs t:=⟨h.blk⟩
theorem dC.grown(h:dC w B cs t){x:Option Nat}(c:w.grownBy w' x)(a:x≠some B):dC w' B cs t:=⟨(c.block B h.lt (fun b=>a b.symm)).trans h.blk⟩
theorem dC.ne{a:Array Value}{t':TypeId}(h:dC w B cs t)(h':dC w C a t')(c:t≠t'):B≠C:=by intro b;subst b;have:=h.blk.symm.trans h'.blk;simp at this;exact c this.2
theorem gW{A:Nat}{a b:World}(h:Below A a b){C:Nat}(c:A<=C)(i:Nat)(u:Value):Below A a (b.setCell ⟨C,i,Z⟩ u):=h.trans ((dH.setCell b ⟨C,i,Z⟩ u).below c)
theorem zW(a:World)(C i:Nat)(u:Value):(a.setCell ⟨C,i,Z⟩ u).heap.size=a.heap.size:=(dH.setCell a ⟨C,i,Z⟩ u).size
end
theorem dC.c11{w:World}{B:Nat}{t:TypeId}{c a1 d g k j e i f b a:Value}(h:dC w B #[c,a1,d,g,k,j,e,i,f,b,a] t):w.cell? ⟨B,0,Z⟩=Y c/\w.cell? ⟨B,1,Z⟩=Y a1/\w.cell? ⟨B,2,Z⟩=Y d/\w.cell? ⟨B,3,Z⟩=Y g/\w.cell? ⟨B,4,Z⟩=Y k/\w.cell? ⟨B,5,Z⟩=Y j/\w.cell? ⟨B,6,Z⟩=Y e/\w.cell? ⟨B,7,Z⟩=Y i/\w.cell? ⟨B,8,Z⟩=Y f/\w.cell? ⟨B,9,Z⟩=Y b/\w.cell? ⟨B,10,Z⟩=Y a:=⟨h.cell 0,h.cell 1,h.cell 2,h.cell 3,h.cell 4,h.cell 5,h.cell 6,h.cell 7,h.cell 8,h.cell 9,h.cell 10⟩
theorem dC.s11{w:World}{B:Nat}{t:TypeId}{m a1 n r u s p o q l i:Value}(h:dC w B #[m,a1,n,r,u,s,p,o,q,l,i] t)(k v1 d v3 g e j c f b a:Value):dC (((((((((((w.setCell ⟨B,0,none⟩ k).setCell ⟨B,1,none⟩ v1).setCell ⟨B,2,none⟩ d).setCell ⟨B,3,none⟩ v3).setCell ⟨B,4,none⟩ g).setCell ⟨B,5,none⟩ e).setCell ⟨B,6,none⟩ j).setCell ⟨B,7,none⟩ c).setCell ⟨B,8,none⟩ f).setCell ⟨B,9,none⟩ b).setCell ⟨B,10,none⟩ a) B #[k,v1,d,v3,g,e,j,c,f,b,a] t:=by have v:=(((((((((((h.set 0 k).set 1 v1).set 2 d).set 3 v3).set 4 g).set 5 e).set 6 j).set 7 c).set 8 f).set 9 b).set 10 a);simpa using v
theorem qE(B:Nat){A:Nat}{a w:World}(h:Below A a w)(b:A<=B)(l v1 f v3 j g k e i d c:Value):Below A a (((((((((((w.setCell ⟨B,0,none⟩ l).setCell ⟨B,1,none⟩ v1).setCell ⟨B,2,none⟩ f).setCell ⟨B,3,none⟩ v3).setCell ⟨B,4,none⟩ j).setCell ⟨B,5,none⟩ g).setCell ⟨B,6,none⟩ k).setCell ⟨B,7,none⟩ e).setCell ⟨B,8,none⟩ i).setCell ⟨B,9,none⟩ d).setCell ⟨B,10,none⟩ c):=gW (gW (gW (gW (gW (gW (gW (gW (gW (gW (gW (h) b 0 l) b 1 v1) b 2 f) b 3 v3) b 4 j) b 5 g) b 6 k) b 7 e) b 8 i) b 9 d) b 10 c
theorem lK(w:World)(B:Nat)(f v1 d v3 i g e c h b a:Value):dH B w (((((((((((w.setCell ⟨B,0,none⟩ f).setCell ⟨B,1,none⟩ v1).setCell ⟨B,2,none⟩ d).setCell ⟨B,3,none⟩ v3).setCell ⟨B,4,none⟩ i).setCell ⟨B,5,none⟩ g).setCell ⟨B,6,none⟩ e).setCell ⟨B,7,none⟩ c).setCell ⟨B,8,none⟩ h).setCell ⟨B,9,none⟩ b).setCell ⟨B,10,none⟩ a):=((((((((((dH.setCell w ⟨B,0,none⟩ f).trans (dH.setCell _ ⟨B,1,none⟩ v1)).trans (dH.setCell _ ⟨B,2,none⟩ d)).trans (dH.setCell _ ⟨B,3,none⟩ v3)).trans (dH.setCell _ ⟨B,4,none⟩ i)).trans (dH.setCell _ ⟨B,5,none⟩ g)).trans (dH.setCell _ ⟨B,6,none⟩ e)).trans (dH.setCell _ ⟨B,7,none⟩ c)).trans (dH.setCell _ ⟨B,8,none⟩ h)).trans (dH.setCell _ ⟨B,9,none⟩ b)).trans (dH.setCell _ ⟨B,10,none⟩ a)
abbrev LH:Go.Conc.Locks.MuLink:={lock:=59,unlock:=60,ilock:=92,iunlock:=93,lockSlow:=148,unlockSlow:=151,disable:=144,enable:=146,acquire:=147,relMerge:=149,cas32:=145,add32:=150,tMutex:=131,tIMutex:=129,tPMutex:=183,tPIMutex:=254,tPI32:=256,tUP:=258,tNoCopy:=126,tU32:=127}
theorem CL:Go.Conc.Locks.MuLib pG LH:=⟨func59,func60,func92,func93,func144,func146,func147,func149,func145,func150,underlying129,Tryz.runUnderlying129,Tryz.sizeOf129,Tryz.isAgg129,Tryz.zeroValue129,underlying131,Tryz.runUnderlying131,Tryz.sizeOf131,Tryz.isAgg131,Tryz.zeroValue131,underlying183,Tryz.runUnderlying183,Tryz.sizeOf183,Tryz.isAgg183,Tryz.zeroValue183,underlying254,Tryz.runUnderlying254,Tryz.sizeOf254,Tryz.isAgg254,Tryz.zeroValue254,underlying256,Tryz.runUnderlying256,Tryz.sizeOf256,Tryz.isAgg256,Tryz.zeroValue256,underlying258,Tryz.runUnderlying258,Tryz.sizeOf258,Tryz.isAgg258,Tryz.zeroValue258,underlying126,Tryz.runUnderlying126,Tryz.sizeOf126,Tryz.isAgg126,Tryz.zeroValue126,underlying21,Tryz.runUnderlying21,Tryz.sizeOf21,Tryz.isAgg21,Tryz.zeroValue21,(by kernel_rfl)⟩
def jA:Prop:=∀(a:Addr) (w:World),w.cell? a=Y (.int .i32 0)->w.frozen? a=false->Calls pG 59 #[P0 (Y a)] w fun e w'=>e=.returned (.tuple #[])/\w'=w.setCell a (.int .i32 1)
def i9:Prop:=∀(a:Addr) (u:FrameMode) (w:World),w.cell? a=Y (.int .i32 1)->w.frozen? a=false->CallsD pG 60 #[P0 (Y a)] u w fun e u' w'=>u'=u/\(e=.returned (.tuple #[])/\w'=w.setCell a (.int .i32 0))
theorem MJ:jA:=fun a w b c=>Go.MuLone.lock_free CL a w b c
theorem JZ:i9:=fun a u w b c=>Go.MuLone.unlock_deferred CL a u w b c
end Go.Proofs.YtdcainmlcpafbaaGreatDoor
