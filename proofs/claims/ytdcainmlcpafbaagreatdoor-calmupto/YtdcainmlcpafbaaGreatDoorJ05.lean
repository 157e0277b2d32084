import Derived.Test.YtdcainmlcpafbaaGreatDoorJ04
import Derived.Laws.AppendOwnNone
import Derived.OneCell
import Derived.Conc.MuLone
import Derived.KernelRfl
set_option linter.all false
set_option maxHeartbeats 16000000
set_option maxRecDepth 20000
namespace Go.Proofs.YtdcainmlcpafbaaGreatDoor
open Go.RowKit
open Value renaming slice->J,pointer->P0
open Tryz
open Tryz renaming prog->pG
open IntKind renaming i64->T
open Option renaming none->Z,some->Y
open Obj renaming cells->G
open Value (bool)
def vP(n:Nat)(j:Nat):Value:=if j%2=0 then I (-1000 - (n:Int)) else J Z 0 0
def vR(n:Nat)(j:Nat):Value:=if j%3=0 then I (-1000 - (n:Int)) else I 0
def vS(n:Nat)(j:Nat):Value:=if j%5=0 then I (-1000 - (n:Int)) else I 0
def vY:Nat->Nat
 |0=>1
 |1=>1
 |2=>2
 |3=>3
 |_=>5
def GA:Nat->TypeId
 |0=>150
 |1=>153
 |2=>156
 |3=>159
 |_=>162
def vZ:Nat->Nat->Nat->Value
 |0=>vB
 |1=>vI
 |2=>vP
 |3=>vR
 |_=>vS
def qS(c:Nat)(val:Nat->Value)(w:World)(base:Nat)(bad:Nat->Prop)(x:Value):Prop:=
 ∃a len cp,x=J a len cp/\len<=4194304/\(len=0∨∃g,a=Y ⟨g,0,Z⟩/\base<=g/\g<w.1.size/\¬bad g/\∀j,j<len*c->w.cell? ⟨g,j,Z⟩=Y (val j))
def qS.kept{c:Nat}{e:Nat->Value}{w w':World}{base:Nat}{d b:Nat->Prop}{x:Value}(h:qS c e w base d x)(hs:w.1.size<=w'.1.size)(m:∀g,base<=g->g<w.1.size->¬d g->w'.1[g]?=w.1[g]?/\¬b g):qS c e w' base b x:=by
 obtain⟨a,len,s,q,l,f⟩:=h;refine⟨a,len,s,q,l,?_⟩;rcases f with f|⟨g,p,k,i,r,n⟩;·exact .inl f
 ·obtain⟨k1,k2⟩:=m g k i r;exact .inr ⟨g,p,k,Nat.lt_of_lt_of_le i hs,k2,λj o=>(World.cell?_of_block (w:=w) (a:=⟨g,j,Z⟩) k1).trans (n j o)⟩
def tS(k:Nat)(w:World)(base:Nat)(bad:Nat->Prop)(e:oR):Prop:=
 qS (vY k) (vZ k e.n) w base bad e.l/\qS (vY k) (vZ k e.n) w base bad e.a/\qS (vY k) (vZ k e.n) w base bad e.b/\qS (vY k) (vZ k e.n) w base bad e.c
def tS.kept{k:Nat}{w w':World}{base:Nat}{b a:Nat->Prop}{e:oR}(h:tS k w base b e)(hs:w.1.size<=w'.1.size)(c:∀g,base<=g->g<w.1.size->¬b g->w'.1[g]?=w.1[g]?/\¬a g):tS k w' base a e:=⟨h.1.kept hs c,h.2.1.kept hs c,h.2.2.1.kept hs c,h.2.2.2.kept hs c⟩
def dW{w w':World}{base:Nat}{e:TypeId}{size n:Nat}{v:Value}{xs:List Value}(h:w.ownsRow base e size v n xs)(j:∀g,v.ownBlock=Y g->w'.1[g]?=w.1[g]?):w'.ownsRow base e size v n xs:=by
 refine⟨h.1,?_⟩;rcases h.2 with d|⟨g,b,a,c,i,k,f⟩;·exact .inl d
 ·exact .inr ⟨g,b,a,c,i,(j g (by rw[c];rfl)).trans k,f⟩
def vQ(ext:Nat->Prop)(v:Nat->Value)(g:Nat):Prop:=(∃k,k<5/\(v k).ownBlock=Y g)∨ext g
def upd{α:Type}(f:Nat->α)(k:Nat)(x:α)(i:Nat):α:=if i=k then x else f i
def nL{α:Type}(f:Nat->α)(k:Nat)(x:α):upd f k x k=x:=by simp[upd]
def mU{α:Type}(f:Nat->α){k i:Nat}(x:α)(h:i≠k):upd f k x i=f i:=by simp[upd,h]
structure nD(ext:Nat->Prop)(w:World)(base R:Nat)(v:Nat->Value)(es:Nat->List oR):Prop where
 cell:∀k,k<5->w.cell? ⟨R,4+k,Z⟩=Y (v k)
 free:∀i,w.frozen? ⟨R,i,Z⟩=false
 lt:R<base
 le:base<=w.1.size
 own:∀k,k<5->w.ownsRow base (GA k) 5 (v k) (es k).length ((es k).flatMap oR.cells)
 ne:∀k l,k<5->l<5->k≠l->∀g,(v k).ownBlock=Y g->(v l).ownBlock≠some g
 num:∀k,k<5->∀i (h:i<(es k).length),(es k)[i].n=i
 ok:∀k,k<5->∀e∈es k,tS k w base (vQ ext v) e
 ex:∀k,k<5->∀g,(v k).ownBlock=Y g->¬ext g
 exR:¬ext R
 small:∀k,k<5->(es k).length<=4194304
section
variable {ext ext':Nat->Prop} {w w':World} {base R:Nat} {v:Nat->Value} {es:Nat->List oR}
def nD.shift(h:nD ext w base R v es)(hs:w.1.size<=w'.1.size)(m:∀g,g<w.1.size->¬ext g->w'.1[g]?=w.1[g]?)(n:∀g,g<w.1.size->ext' g->ext g):nD ext' w' base R v es:=by
 have o:R<w.1.size:=Nat.lt_of_lt_of_le h.lt h.le;have f:=m R o h.exR;refine⟨λk b=>?_,λi=>?_,h.lt,Nat.le_trans h.le hs,λk b=>?_,h.ne,h.num,λk b e q=>?_,λk b g c d=>?_,λd=>h.exR (n R o d),h.small⟩;·exact(World.cell?_of_block (w:=w) (a:=⟨R,4+k,Z⟩) f).trans (h.cell k b)
 ·exact(World.frozen?_of_block (w:=w) (a:=⟨R,i,Z⟩) f).trans (h.free i)
 ·exact dW (h.own k b) (λg c=>m g ((h.own k b).lt g c).2 (h.ex k b g c))
 ·refine(h.ok k b e q).kept hs (λg _ p j=>⟨m g p (λd=>j (.inr d)),?_⟩);rintro(l|l);·exact j (.inl l)
  ·exact j (.inr (n g p l))
 ·exact h.ex k b g c (n g ((h.own k b).lt g c).2 d)
def nD.later(h:nD ext w base R v es)(a:Bw w w'):nD ext w' base R v es:=h.shift a.size (λg b _=>a.block g b) (λg _ c=>c)
def nD.low(h:nD ext w base R v es){g k:Nat}(b:k<5)(a:(v k).ownBlock=Y g):base<=g/\g<w.1.size:=(h.own k b).lt g a
def nD.push{y:World}(h:nD ext y base R v es)(k:Nat)(W:k<5)(v':Value)(K:oR)(hn:K.n=(es k).length)(ho:w'.ownsRow base (GA k) 5 v' ((es k).length+1) ((es k).flatMap oR.cells++K.cells))(V:y.grownBy w' (v k).ownBlock)(hv:∃g,v'.ownBlock=Y g/\((v k).ownBlock=Y g∨y.1.size<=g))(X:tS k y base (vQ ext v) K)(N:∀g,y.1.size<=g->¬ext g)(a0:(es k).length<4194304):nD ext (w'.setCell ⟨R,4+k,Z⟩ v') base R (upd v k v') (upd es k (es k++[K])):=by
 have hR:R<y.1.size:=Nat.lt_of_lt_of_le h.lt h.le;have O:some R≠(v k).ownBlock:=λj=>by have:=(h.low W j.symm).1;have:=h.lt;omega
 have H:=V.block R hR O;have M:=zW w' ⟨R,4+k,Z⟩ v';have x:=V.size;have r:∀i,w'.cell? ⟨R,i,Z⟩=y.cell? ⟨R,i,Z⟩:=λi=>World.cell?_of_block (w:=y) (a:=⟨R,i,Z⟩) H;have F:∀i,i≠4+k->(w'.setCell ⟨R,4+k,Z⟩ v').cell? ⟨R,i,Z⟩=y.cell? ⟨R,i,Z⟩:=λi hi=>(World.cell?_setCell_other _ _ _ _ (by intro j;have:=congrArg Addr.off j;simp at this;omega)).trans (r i);have B:∀g,base<=g->g<y.1.size->some g≠(v k).ownBlock->(w'.setCell ⟨R,4+k,Z⟩ v').1[g]?=y.1[g]?:=λg o U C=>(M.block g oG (by have:=h.lt;simp;omega)).trans (V.block g U C);obtain⟨z,t,m⟩:=hv;have s:∀g,base<=g->g<y.1.size->¬vQ ext v g->(w'.setCell ⟨R,4+k,Z⟩ v').1[g]?=y.1[g]?/\¬vQ ext (upd v k v') g:=by
  intro g o U C;refine⟨B g o U (λj=>C (.inl ⟨k,W,j.symm⟩)),?_⟩;rintro(⟨l,d,j⟩|j)
  ·by_cases c:l=k
   ·subst c;rw[nL,t]at j;obtain rfl:z=g:=by simpa using j
    rcases m with h4|h4;·exact C (.inl ⟨l,d,h4⟩)
    ·omega
   ·rw[mU _ _ c]at j;exact C (.inl ⟨l,d,j⟩)
  ·exact C (.inr j)
 refine⟨λl d=>?cell,λi=>?free,h.lt,?le,λl d=>?own,λa b S Q u g q p=>?ne,λl d=>?num,λl d e A=>?ok,λl d g f=>?ex,h.exR,λl d=>?small⟩;case cell=>
  by_cases c:l=k;·subst c;rw[nL];exact World.cell?_setCell_same _ _ _ ((r _).trans (h.cell l d))
  ·rw[mU _ _ c];exact(F _ oG).trans (h.cell l d)
 case free=>rw[World.frozen?_setCell];exact(World.frozen?_of_block (w:=y) (a:=⟨R,i,Z⟩) H).trans (h.free i)
 case le=>rw[sO];exact Nat.le_trans h.le x
 case own=>
  by_cases c:l=k;·subst c;rw[nL,nL,List.length_append,List.flatMap_append];simp only[List.length_cons,List.length_nil,List.flatMap_cons,List.flatMap_nil,List.append_nil];exact ho.kept M (.inr (by rw[t];intro j;simp at j;rcases m with o|o;exact O (by rw[o,j]);omega))
  ·rw[mU _ _ c,mU _ _ c];refine dW (h.own l d) (λg f=>?_);exact B g (h.low d f).1 (h.low d f).2 (λj=>h.ne l k d W c g f j.symm)
 case ne=>
  by_cases E:a=k
  ·subst E;rw[nL,t]at q;obtain rfl:z=g:=by simpa using q
   rw[mU _ _ (Ne.symm u)]at p;rcases m with o|o;·exact h.ne b a Q S (Ne.symm u) z p o
   ·have:=(h.low Q p).2;omega
  ·rw[mU _ _ E]at q;by_cases L:b=k
   ·subst L;rw[nL,t]at p;obtain rfl:z=g:=by simpa using p
    rcases m with o|o;·exact h.ne a b S Q u z q o
    ·have:=(h.low S q).2;omega
   ·rw[mU _ _ L]at p;exact h.ne a b S Q u g q p
 case num=>
  by_cases c:l=k
  ·subst c;rw[nL];intro i hi;by_cases D:i<(es l).length;·rw[List.getElem_append_left D];exact h.num l d i D
   ·have:i=(es l).length:=by simp at hi;omega
    subst this;simp[hn]
  ·rw[mU _ _ c];exact h.num l d
 case ok=>
  by_cases c:l=k
  ·subst c;rw[nL]at A;rcases List.mem_append.1 A with A|A;·exact(h.ok l d e A).kept (by rw[sO];exact x) s
   ·obtain rfl:e=K:=by simpa using A
    exact X.kept (by rw[sO];exact x) s
  ·rw[mU _ _ c]at A;exact(h.ok l d e A).kept (by rw[sO];exact x) s
 case ex=>
  by_cases c:l=k
  ·subst c;rw[nL,t]at f;obtain rfl:z=g:=by simpa using f
   rcases m with o|o;·exact h.ex l d z o
   ·exact N z o
  ·rw[mU _ _ c]at f;exact h.ex l d g f
 case small=>
  by_cases c:l=k;·subst c;rw[nL];simp;omega
  ·rw[mU _ _ c];exact h.small l d
end
structure KC(c:Nat)(e:TypeId)(low:Nat)(w1:World)(l:Value)(len:Nat)(xs:List Value)(wk:World)(cs:List Value):Prop where
 own:wk.ownsRow low e c l len xs
 box:∀i,wk.cell? ⟨w1.1.size,i,Z⟩=cs[i]?
 free:∀i,wk.frozen? ⟨w1.1.size,i,Z⟩=false
 gr:w1.grownBy wk l.ownBlock
 lt:w1.1.size<wk.1.size
 off:l.ownBlock≠some w1.1.size
section
variable {c:Nat} {e:TypeId} {low:Nat} {w1:World} {l:Value} {len:Nat} {xs:List Value} {wk:World} {cs:List Value}
def KC.spot(h:KC c e low w1 l len xs wk cs)(o:Obj){b:World}(f:(wk.alloc o).grownBy b l.ownBlock):(∀i,b.cell? ⟨w1.1.size,i,Z⟩=cs[i]?)/\(∀i,b.frozen? ⟨w1.1.size,i,Z⟩=false):=by have d:=(f.block _ (by have:=h.lt;simp;omega) (Ne.symm h.off)).trans (heap_alloc_old wk o h.lt);exact⟨λi=>(World.cell?_of_block (w:=wk) (a:=⟨w1.1.size,i,Z⟩) d).trans (h.box i),λi=>(World.frozen?_of_block (w:=wk) (a:=⟨w1.1.size,i,Z⟩) d).trans (h.free i)⟩
def KC.next(h:KC c e low w1 l len xs wk cs)(o:Obj){j:World}(f:j.ownsRow low e c l len xs)(d:(wk.alloc o).grownBy j l.ownBlock)(b:Nat)(hi:b<cs.length)(v:Value):KC c e low w1 l len xs (j.setCell ⟨w1.1.size,b,Z⟩ v) (cs.set b v):=by
 obtain⟨n,p⟩:=h.spot o d;have a:=zW j ⟨w1.1.size,b,Z⟩ v;refine⟨f.kept a (by by_cases s:l.ownBlock=none;exact .inl s;exact .inr h.off),λi=>?_,λi=>?_,?_,?_,h.off⟩
 ·by_cases m:i=b;·subst m;rw[World.cell?_setCell_same _ _ _ ((n i).trans (List.getElem?_eq_getElem hi)),List.getElem?_set_self hi]
  ·rw[World.cell?_setCell_other _ _ _ _ (by intro r;have:=congrArg Addr.off r;simp at this;omega),n,List.getElem?_set_ne oG]
 ·rw[World.frozen?_setCell];exact p i
 ·refine⟨a.os.trans (d.os.trans h.gr.os),a.tape.trans (d.tape.trans h.gr.tape),a.output.trans (d.output.trans h.gr.output),?_,λk t g=>?_⟩;·have:=h.gr.size;have:=d.size;have:=a.size;simp at*;omega
  ·have q:=h.gr.size;refine(a.block k (by have:=d.size;simp at this;omega) nG).trans ((d.block k nG g).trans ((heap_alloc_old wk o oG).trans (h.gr.block k t g)))
 ·have:=h.lt;have:=d.size;rw[sO];simp at*;omega
end
def yK:(Tryz.prog.info? 66).map (λi=>(i.zero,i.size,i.bytes))=Y (Y (.agg #[I 0,I 0,I 0]),3,24):=kG
def dQ.refl(A:Nat->Prop)(w:World):dQ A w w:=⟨rfl,rfl,rfl,Nat.le_refl _,λ_ _ _=>rfl⟩
def dQ.trans{A B C:Nat->Prop}{a b c:World}(h:dQ A a b)(k:dQ B b c)(j:∀g,A g->C g)(i:∀g,g<a.1.size->B g->C g):dQ C a c:=⟨k.os.trans h.os,k.tape.trans h.tape,k.output.trans h.output,Nat.le_trans h.size k.size,λg e f=>(k.block g (Nat.lt_of_lt_of_le e h.size) (λd=>f (i g e d))).trans (h.block g e (λd=>f (j g d)))⟩
def dQ.of_below{A:Nat->Prop}{w w':World}(h:Bw w w'):dQ A w w':=⟨h.os,h.tape,h.output,h.size,λk a _=>h.block k a⟩
structure GB where
 dst:Int
 d:Value
def GB.cells(p:GB):List Value:=[I p.dst,p.d]
structure vL where
 ep:Int
 pr:Int
 wa:Int
 pm:Int
 st:Int
def vL.cells(v:vL):List Value:=[I v.ep,I v.pr,I v.wa,I v.pm,I v.st]
structure TC where
 ph:Int
 pm:Int
 st:Int
 ba:Int
 wa:Int
 rf:Int
 nd:Int
 sq:Int
 fr:List Int
structure R9 where
 nu:Int
 bl:Int
 va:Int
 lf:Int
structure SA where
 op:Int
 bl:Int
 va:Int
 ep:Int
 sq:Int
structure RN where
 id:Int
 nodes:Int
 recs:List eM
 mo:List vL
 blocks:List Int
 seen:Int
 last:Int
 act:Bool
 cs:List TC
 os:List R9
 ops:Int
 res:List SA
def fM(w:World)(v:Value)(n:Nat)(cs:List Value):Prop:=
 (v=J Z 0 0/\n=0/\cs=[])∨∃g cap,v=J (Y ⟨g,0,Z⟩) n cap/\g<w.1.size/\∀j u,cs[j]?=Y u->w.cell? ⟨g,j,Z⟩=Y u
def fM.shape{w:World}{v:Value}{n:Nat}{cs:List Value}(h:fM w v n cs):∃a c,v=J a n c:=by
 rcases h with⟨rfl,rfl,_⟩|⟨g,c,rfl,_⟩;·exact⟨_,_,rfl⟩
 ·exact⟨_,_,rfl⟩
def fM.later{w w':World}{v:Value}{n:Nat}{cs:List Value}(h:fM w v n cs)(b:Bw w w'):fM w' v n cs:=by
 rcases h with h|⟨g,c,e,a,f⟩;·exact .inl h
 ·exact .inr ⟨g,c,e,Nat.lt_of_lt_of_le a b.size,λj u d=>(b.cell (p:=⟨g,j,Z⟩) a).trans (f j u d)⟩
def fM.ig{w:World}{base:Nat}{e:TypeId}{size n:Nat}{v:Value}{cs:List Value}(h:w.ownsRow base e size v n cs):fM w v n cs:=by
 rcases h.2 with⟨rfl,rfl⟩|⟨g,a,b,rfl,f,d,_⟩;·exact .inl ⟨rfl,rfl,List.eq_nil_of_length_eq_zero (by simpa using h.1)⟩
 ·refine .inr ⟨g,a,rfl,(h.lt g rfl).2,λj u c=>?_⟩;have:=h.cells (g:=g) rfl j u c;rw[Go.WideShapes.add_plain]at this;simpa using this
def fM.at{w:World}{v:Value}{n:Nat}{cs:List Value}(h:fM w v n cs)(c:0<n):∃g a,v=J (Y ⟨g,0,Z⟩) n a/\g<w.1.size/\∀j u,cs[j]?=Y u->w.cell? ⟨g,j,Z⟩=Y u:=by
 rcases h with⟨_,b,_⟩|h;·omega
 ·exact h
def pB{w:World}{base a:Nat}{e:TypeId}{size n:Nat}{v:Value}{xs:List Value}(h:w.ownsRow base e size v n xs)(j:a<=base):w.ownsRow a e size v n xs:=by
 refine⟨h.1,?_⟩;rcases h.2 with i|⟨g,c,b,d,f,k⟩;·exact .inl i
 ·exact .inr ⟨g,c,b,d,Nat.le_trans j f,k⟩
def wD{P:Program}{w:World}{ops:Array Oper}{rest:List Oper}{o:Oper}{a:Act}{Q:Exit->Act->World->Prop}(k:o.guard=none)(s x:Operand)(t:TypeId)(C:o.op=.call {callee:=.builtin .append,args:=#[s,x],argTypes:=#[t,t]})(base:Nat)(e:TypeId)(i:TypeInfo)(z:Value)(size bytes:Nat)(B:P.underlying t=Y (.slice e))(hi:P.info? e=Y i)(H:i.zero=Y z)(d:i.size=size)(r:i.bytes=bytes)(A:z.cells.size=size)(q:0<size)(v:Value)(n:Nat)(xs:List Value)(hs:a.eval s=v)(b:w.ownsRow base e size v n xs)(y:Value)(m:Nat)(news:List Value)(D:a.eval x=y)(hy:fM w y m news)(K:news.length=m*size)(F:∀u∈news,u.oneCell'=true)(p:n+m<=maxLen)(c:(n+m)*bytes<=140737488355328)(f:base<=w.1.size)(h:∀v' w',w'.ownsRow base e size v' (n+m) (xs++news)->w.grownBy w' v.ownBlock->wpList P ops Q rest (a.put o.dst v') w'):wpList P ops Q (o::rest) a w:=by
 rcases hy with⟨rfl,rfl,rfl⟩|⟨g,l,rfl,O,N⟩;·refine wpList_append_own_none k s x t C base e i size B hi v n xs hs b D ?_;exact h v w (by simpa using b) ⟨rfl,rfl,rfl,Nat.le_refl _,λ_ _ _=>rfl⟩
 ·exact wpList_append_own w k s x t C base e i z size bytes B hi H d r A q v n xs hs b ⟨g,0,Z⟩ m l news D K (λj u M=>by rw[Go.WideShapes.add_plain];simpa using N j u M) F p c f (λv' w' E L _=>h v' w' E L)
def wO{α:Type}(f:α->List Value)(c:Nat)(a:∀x,(f x).length=c)(l:List α):(l.flatMap f).length=l.length*c:=by
 induction l with
 |nil=>simp
 |cons x l ih=>rw[List.flatMap_cons,List.length_append,ih,a,List.length_cons,Nat.add_mul];omega
def lY{α:Type}(f:α->List Value)(c:Nat)(a:∀x,(f x).length=c):∀(l:List α) (i:Nat) (h:i<l.length) (k:Nat) (b:k<c),(l.flatMap f)[i*c+k]?=Y ((f l[i]).getD k undef):=by
 intro l;induction l with
 |nil=>intro i h;simp at h
 |cons x l ih=>
  intro i h k b;rw[List.flatMap_cons];match i with
  |0=>rw[List.getElem?_append_left (by rw[a];omega)];simp only[Nat.zero_mul,Nat.zero_add,List.getElem_cons_zero];rw[List.getD_eq_getElem?_getD,List.getElem?_eq_getElem (by rw[a];exact b)];rfl
  |i+1=>rw[List.getElem?_append_right (by rw[a,Nat.add_mul];omega),a,show(i+1)*c+k - c=i*c+k by rw[Nat.add_mul];omega];exact ih i (by simpa using h) k b
def tT(x:eM):(eM.cells x).length=3:=rfl
def NS{l:List eM}:∀u∈l.flatMap eM.cells,u.oneCell'=true:=by intro u a;obtain⟨r,_,h⟩:=List.mem_flatMap.1 a;simp[eM.cells]at h;rcases h with rfl|rfl|rfl<;>rfl
structure lI(w:World)(low X:Nat)(n:RN)(vr vv vb vc vo vs:Value):Prop where
 blk:w.1[X]?=Y (.cells #[I n.id,I n.2,vr,vv,vb,I n.seen,I n.last,bool n.act,vc,vo,I n.ops,vs,bool false,J Z 0 0] 225 (0,0))
 lx:low<=X
 r:w.ownsRow low 66 3 vr n.recs.length (n.recs.flatMap eM.cells)
 v:w.ownsRow low 275 5 vv n.mo.length (n.mo.flatMap vL.cells)
 b:w.ownsRow low 3 1 vb n.5.length (n.5.map (Value.int .i64))
section
variable {w w':World} {low X:Nat} {n:RN} {vr vv vb vc vo vs:Value}
def lI.lt(h:lI w low X n vr vv vb vc vo vs):X<w.1.size:=(Array.getElem?_eq_some_iff.1 h.blk).1
def lI.cell(h:lI w low X n vr vv vb vc vo vs)(i:Nat):w.cell? ⟨X,i,Z⟩=#[I n.id,I n.2,vr,vv,vb,I n.seen,I n.last,bool n.act,vc,vo,I n.ops,vs,bool false,J Z 0 0][i]?:=by simp[World.cell?,h.blk]
def lI.free(h:lI w low X n vr vv vb vc vo vs)(i:Nat):w.frozen? ⟨X,i,Z⟩=false:=by simp[World.frozen?,h.blk]
def kK{base:Nat}{e t:TypeId}{size k:Nat}{v:Value}{xs:List Value}{cs:Array Value}{j:Nat×Nat}(h:w.ownsRow base e size v k xs)(i:w.1[X]?=Y (.cells cs t j))(a:t≠e):v.ownBlock≠some X:=by
 intro b;rcases h.2 with⟨rfl,_⟩|⟨g,f,d,rfl,_,c,_⟩;·simp[Value.ownBlock]at b
 ·simp[Value.ownBlock]at b;subst b;rw[i]at c;simp at c;exact a c.2.1
def wP{base a:Nat}{e j:TypeId}{size b k o:Nat}{v v':Value}{xs c:List Value}(h:w.ownsRow base e size v k xs)(h':w.ownsRow a j b v' o c)(d:e≠j):∀g,v.ownBlock=Y g->v'.ownBlock≠some g:=by
 intro g f i;rcases h.2 with⟨rfl,_⟩|⟨p,n,l,rfl,_,m,_⟩;·simp[Value.ownBlock]at f
 ·simp[Value.ownBlock]at f;subst f;exact kK h' m d i
def lI.later(h:lI w low X n vr vv vb vc vo vs)(c:Bw w w'):lI w' low X n vr vv vb vc vo vs:=⟨(c.block X h.lt).trans h.blk,h.lx,dW h.r (λg a=>c.block g (h.r.lt g a).2),dW h.v (λg a=>c.block g (h.v.lt g a).2),dW h.b (λg a=>c.block g (h.b.lt g a).2)⟩
end
def gR(k id e b wa p s q bl v:Int)(zs:List Int):List UInt8:=kE k.toNat id.toNat [0,e,b,wa,p,s,q,bl,v,(zs.length:Int)] zs
def dM.set{X:Nat}{a b:World}(h:dM X a b)(i:Nat)(u:Value):dM X a (b.setCell ⟨X,i,Z⟩ u):=h.trans (dM.setCell b ⟨X,i,Z⟩ u)
def lI.put{w w':World}{low X:Nat}{n m:RN}{vr vv vb vc vo vs d f e:Value}(h:lI w low X n vr vv vb vc vo vs)(o:m.mo=n.mo)(k:m.5=n.5)(l:w'.1[X]?=Y (.cells #[I m.id,I m.2,d,vv,vb,I m.seen,I m.last,bool m.act,f,e,I m.ops,vs,bool false,J Z 0 0] 225 (0,0)))(j:w'.ownsRow low 66 3 d m.recs.length (m.recs.flatMap eM.cells))(i:∀g,g<w.1.size->g≠X->vr.ownBlock≠some g->w'.1[g]?=w.1[g]?):lI w' low X m d vv vb f e vs:=by
 refine⟨l,h.lx,j,?_,?_⟩;·rw[o];exact dW h.v (λg c=>i g (h.v.lt g c).2 (λa=>kK h.v h.blk dG (a ▸ c)) (λa=>wP h.r h.v dG g a c))
 ·rw[k];exact dW h.b (λg c=>i g (h.b.lt g c).2 (λa=>kK h.b h.blk dG (a ▸ c)) (λa=>wP h.r h.b dG g a c))
def lI.drew{w:World}{low X:Nat}{n:RN}{vr vv vb vc vo vs:Value}(h:lI w low X n vr vv vb vc vo vs):lI w.drew low X n vr vv vb vc vo vs:=⟨h.blk,h.lx,h.r,h.v,h.b⟩
structure GC where
 dst:Int
 bs:List UInt8
def GC.cells(p:GC):List Value:=[I p.dst,.string (dL p.bs)]
def dM.set2{X:Nat}{a b:World}(h:dM X a b)(i:Nat)(u:Value):dM X a (b.setCell ⟨X,i,Z⟩ u):=h.trans (dM.setCell b ⟨X,i,Z⟩ u)
def dM.lq(X:Nat)(a:World):dM X a a:=⟨rfl,rfl,rfl,rfl,λ_ _=>rfl⟩
structure dI(w:World)(B:Nat)(cs:Array Value)(t:TypeId):Prop where
 blk:w.1[B]?=Y (.cells cs t (0,0))
section
variable {w w':World} {B C:Nat} {cs:Array Value} {t:TypeId}
def dI.lt(h:dI w B cs t):B<w.1.size:=(Array.getElem?_eq_some_iff.1 h.blk).1
def dI.cell(h:dI w B cs t)(i:Nat):w.cell? ⟨B,i,Z⟩=cs[i]?:=by simp[World.cell?,h.blk]
def dI.free(h:dI w B cs t)(i:Nat):w.frozen? ⟨B,i,Z⟩=false:=by simp[World.frozen?,h.blk]
def dI.later(h:dI w B cs t)(a:Bw w w'):dI w' B cs t:=⟨(a.block B h.lt).trans h.blk⟩
def dI.low(h:dI w B cs t)(b:Below C w w')(a:B<C):dI w' B cs t:=⟨(b.block B a).trans h.blk⟩
def dI.same(h:dI w B cs t)(a:w'.1[B]?=w.1[B]?):dI w' B cs t:=⟨a.trans h.blk⟩
def dI.set(h:dI w B cs t)(i:Nat)(u:Value):dI (w.setCell ⟨B,i,Z⟩ u) B (cs.setIfInBounds i u) t:=⟨wC w B cs t i u h.blk⟩
def dI.setO(h:dI w B cs t)(a:B≠C)(i:Nat)(u:Value):dI (w.setCell ⟨C,i,Z⟩ u) B cs t:=⟨((dM.setCell w ⟨C,i,Z⟩ u).block B a).trans h.blk⟩
def dI.old(h:dI w B cs t)(o:Obj):dI (w.alloc o) B cs t:=⟨(heap_alloc_old w o h.lt).trans h.blk⟩
def dI.new(w:World)(cs:Array Value)(t:TypeId):dI (w.alloc (G cs t)) w.1.size cs t:=⟨heap_alloc_new _ _⟩
def dI.drew(h:dI w B cs t):dI w.drew B cs t:=⟨h.blk⟩
def dI.grown(h:dI w B cs t){x:Option Nat}(b:w.grownBy w' x)(a:x≠some B):dI w' B cs t:=⟨(b.block B h.lt (λc=>a c.symm)).trans h.blk⟩
def dI.ne{a:Array Value}{t':TypeId}(h:dI w B cs t)(h':dI w C a t')(b:t≠t'):B≠C:=by intro c;subst c;have:=h.blk.symm.trans h'.blk;simp at this;exact b this.2
def iH{A:Nat}{a b:World}(h:Below A a b){C:Nat}(c:A<=C)(i:Nat)(u:Value):Below A a (b.setCell ⟨C,i,Z⟩ u):=h.trans ((dM.setCell b ⟨C,i,Z⟩ u).below c)
def CG(a:World)(C i:Nat)(u:Value):(a.setCell ⟨C,i,Z⟩ u).1.size=a.1.size:=(dM.setCell a ⟨C,i,Z⟩ u).size
end
def dI.c11{w:World}{B:Nat}{t:TypeId}{d a1 e i b j k f c g a:Value}(h:dI w B #[d,a1,e,i,b,j,k,f,c,g,a] t):w.cell? ⟨B,0,Z⟩=Y d/\w.cell? ⟨B,1,Z⟩=Y a1/\w.cell? ⟨B,2,Z⟩=Y e/\w.cell? ⟨B,3,Z⟩=Y i/\w.cell? ⟨B,4,Z⟩=Y b/\w.cell? ⟨B,5,Z⟩=Y j/\w.cell? ⟨B,6,Z⟩=Y k/\w.cell? ⟨B,7,Z⟩=Y f/\w.cell? ⟨B,8,Z⟩=Y c/\w.cell? ⟨B,9,Z⟩=Y g/\w.cell? ⟨B,10,Z⟩=Y a:=⟨h.cell 0,h.cell 1,h.cell 2,h.cell 3,h.cell 4,h.cell 5,h.cell 6,h.cell 7,h.cell 8,h.cell 9,h.cell 10⟩
def dI.s11{w:World}{B:Nat}{t:TypeId}{q a1 s u l v p n m o j:Value}(h:dI w B #[q,a1,s,u,l,v,p,n,m,o,j] t)(i v1 c v3 f e d k b g a:Value):dI (((((((((((w.setCell ⟨B,0,none⟩ i).setCell ⟨B,1,none⟩ v1).setCell ⟨B,2,none⟩ c).setCell ⟨B,3,none⟩ v3).setCell ⟨B,4,none⟩ f).setCell ⟨B,5,none⟩ e).setCell ⟨B,6,none⟩ d).setCell ⟨B,7,none⟩ k).setCell ⟨B,8,none⟩ b).setCell ⟨B,9,none⟩ g).setCell ⟨B,10,none⟩ a) B #[i,v1,c,v3,f,e,d,k,b,g,a] t:=by have r:=(((((((((((h.set 0 i).set 1 v1).set 2 c).set 3 v3).set 4 f).set 5 e).set 6 d).set 7 k).set 8 b).set 9 g).set 10 a);simpa using r
def rQ(B:Nat){A:Nat}{a w:World}(h:Below A a w)(b:A<=B)(j v1 d v3 g f e l k i c:Value):Below A a (((((((((((w.setCell ⟨B,0,none⟩ j).setCell ⟨B,1,none⟩ v1).setCell ⟨B,2,none⟩ d).setCell ⟨B,3,none⟩ v3).setCell ⟨B,4,none⟩ g).setCell ⟨B,5,none⟩ f).setCell ⟨B,6,none⟩ e).setCell ⟨B,7,none⟩ l).setCell ⟨B,8,none⟩ k).setCell ⟨B,9,none⟩ i).setCell ⟨B,10,none⟩ c):=iH (iH (iH (iH (iH (iH (iH (iH (iH (iH (iH (h) b 0 j) b 1 v1) b 2 d) b 3 v3) b 4 g) b 5 f) b 6 e) b 7 l) b 8 k) b 9 i) b 10 c
def pN(w:World)(B:Nat)(e v1 b v3 f d c i g h a:Value):dM B w (((((((((((w.setCell ⟨B,0,none⟩ e).setCell ⟨B,1,none⟩ v1).setCell ⟨B,2,none⟩ b).setCell ⟨B,3,none⟩ v3).setCell ⟨B,4,none⟩ f).setCell ⟨B,5,none⟩ d).setCell ⟨B,6,none⟩ c).setCell ⟨B,7,none⟩ i).setCell ⟨B,8,none⟩ g).setCell ⟨B,9,none⟩ h).setCell ⟨B,10,none⟩ a):=((((((((((dM.setCell w ⟨B,0,none⟩ e).trans (dM.setCell _ ⟨B,1,none⟩ v1)).trans (dM.setCell _ ⟨B,2,none⟩ b)).trans (dM.setCell _ ⟨B,3,none⟩ v3)).trans (dM.setCell _ ⟨B,4,none⟩ f)).trans (dM.setCell _ ⟨B,5,none⟩ d)).trans (dM.setCell _ ⟨B,6,none⟩ c)).trans (dM.setCell _ ⟨B,7,none⟩ i)).trans (dM.setCell _ ⟨B,8,none⟩ g)).trans (dM.setCell _ ⟨B,9,none⟩ h)).trans (dM.setCell _ ⟨B,10,none⟩ a)
abbrev NT:Go.Conc.Locks.MuLink:={lock:=59,unlock:=60,ilock:=92,iunlock:=93,lockSlow:=148,unlockSlow:=151,disable:=144,enable:=146,acquire:=147,relMerge:=149,cas32:=145,add32:=150,tMutex:=131,tIMutex:=129,tPMutex:=183,tPIMutex:=254,tPI32:=256,tUP:=258,tNoCopy:=126,tU32:=127}
def EQ:Go.Conc.Locks.MuLib pG NT:=⟨func59,func60,func92,func93,func144,func146,func147,func149,func145,func150,underlying129,Tryz.runUnderlying129,Tryz.sizeOf129,Tryz.isAgg129,Tryz.zeroValue129,underlying131,Tryz.runUnderlying131,Tryz.sizeOf131,Tryz.isAgg131,Tryz.zeroValue131,underlying183,Tryz.runUnderlying183,Tryz.sizeOf183,Tryz.isAgg183,Tryz.zeroValue183,underlying254,Tryz.runUnderlying254,Tryz.sizeOf254,Tryz.isAgg254,Tryz.zeroValue254,underlying256,Tryz.runUnderlying256,Tryz.sizeOf256,Tryz.isAgg256,Tryz.zeroValue256,underlying258,Tryz.runUnderlying258,Tryz.sizeOf258,Tryz.isAgg258,Tryz.zeroValue258,underlying126,Tryz.runUnderlying126,Tryz.sizeOf126,Tryz.isAgg126,Tryz.zeroValue126,underlying21,Tryz.runUnderlying21,Tryz.sizeOf21,Tryz.isAgg21,Tryz.zeroValue21,kG⟩
def i8:Prop:=∀(a:Addr) (w:World),w.cell? a=Y (.int .i32 0)->w.frozen? a=false->Calls pG 59 #[P0 (Y a)] w λe w'=>e=.returned (.tuple #[])/\w'=w.setCell a (.int .i32 1)
def i6:Prop:=∀(a:Addr) (u:FrameMode) (w:World),w.cell? a=Y (.int .i32 1)->w.frozen? a=false->CallsD pG 60 #[P0 (Y a)] u w λe u' w'=>u'=u/\(e=.returned (.tuple #[])/\w'=w.setCell a (.int .i32 0))
def O8:i8:=λa w b c=>Go.MuLone.lock_free EQ a w b c
def LZ:i6:=λa u w b c=>Go.MuLone.unlock_deferred EQ a u w b c
end Go.Proofs.YtdcainmlcpafbaaGreatDoor
