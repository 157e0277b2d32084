import Derived.Test.YtdcainmlcpafbaaGreatDoorJ33
set_option linter.all false
set_option maxHeartbeats 8000000
set_option maxRecDepth 20000
namespace Go.Proofs.YtdcainmlcpafbaaGreatDoor
open Go.RowKit
open Value renaming slice->J,pointer->P0
open IntKind renaming i64->T
open Option renaming none->Z,some->Y
open Obj renaming cells->G
open Value (bool)
def yO(w w':World)(v v':Value):Prop:=∃g',v'.ownBlock=some g'/\(v.ownBlock=some g'∨w.heap.size<=g'/\w.grownBy w' none)
def pO{P:Program}{w:World}{ops:Array Oper}{b:List Oper}{o:Oper}{a:Act}{Q:Exit->Act->World->Prop}(k:o.guard=none)(s x:Operand)(t:TypeId)(l:o.op=.call {callee:=.builtin .append,args:=#[s,x],argTypes:=#[t,t]})(base:Nat)(e:TypeId)(i:TypeInfo)(z:Value)(size bytes:Nat)(E:P.underlying t=some (.slice e))(B:P.info? e=some i)(N:i.zero=some z)(D:i.size=size)(H:i.bytes=bytes)(U:z.cells.size=size)(F:0<size)(v:Value)(n:Nat)(xs:List Value)(hs:a.eval s=v)(f:w.ownsRow base e size v n xs)(q:Addr)(m c:Nat)(news:List Value)(p:0<m)(O:a.eval x=.slice (some q) m c)(R:news.length=m*size)(V:∀j u,news[j]?=some u->w.cell? (q.add j)=some u)(r:∀u∈news,u.oneCell'=true)(y:n+m<=maxLen)(M:(n+m)*bytes<=140737488355328)(d:base<=w.heap.size)(h:∀v' w',w'.ownsRow base e size v' (n+m) (xs++news)->w.grownBy w' v.ownBlock->yO w w' v v'->wpList P ops Q b (a.put o.dst v') w'):wpList P ops Q (o::b) a w:=by refine wpList_plain k λK L=>?_;obtain⟨v',w',g,C,S,_,A⟩:=yU (P:=P) w base t o.type e i z size bytes E B N D H U F v n xs f q m c news p R V r y M d;unfold Oper.wp;simp only[execOp,l,resolve,invoke,builtin,Sem.run_bind,Sem.run_pure,Result.andThen_ok,List.map_toArray,List.map_cons,List.map_nil,hs,O,g];exact L _ _ (h v' w' C S A)
def jY{α:Type}(N:Nat->α)(k:Nat)(x:α)(j:Nat):α:=if j=k then x else N j
def DI{α:Type}{N:Nat->α}{k j:Nat}{x:α}(h:j≠k):jY N k x j=N j:=if_neg h
def AZ{α:Type}{N:Nat->α}{k:Nat}{x:α}:jY N k x k=x:=if_pos rfl
structure Bg(w:World)(Wc base:Nat)(v:Nat->Value)(nb:Int)(hs:List Ho)(ns:List AG.Nd)(N:Nat->Nat)(X:Nat->List Value):Prop where
 cr:kO w Wc base v nb true N X
 hl:hs.length=ns.length
 host:∀i (h:i<hs.length) (h':i<ns.length),fO w hs[i].Kn hs[i].P 1 hs[i].C hs[i].left ns[i]
 ap:∀i j (hi:i<hs.length) (hj:j<hs.length),i≠j->∀g,hs[i].al g->¬hs[j].al g
 lq:∀k∈eR,∀g,(v k).ownBlock=some g->∀i (hi:i<hs.length),¬hs[i].al g
 ng:∀i (hi:i<hs.length),¬hs[i].al Wc
 low:base<=Wc/\2<=base/\∀i (hi:i<hs.length),∀g,hs[i].al g->base<=g
 tabs:dW w
 qt:Qt hs
section
variable {w w' w3:World} {Wc base:Nat} {v:Nat->Value} {nb:Int} {hs:List Ho} {ns:List AG.Nd} {N N':Nat->Nat} {X X':Nat->List Value}
def Bg.jd(h:Bg w Wc base v nb hs ns N X):base<=w.heap.size:=Nat.le_trans h.low.1 (Nat.le_of_lt h.cr.blk.lt)
def Bg.cong(h:Bg w Wc base v nb hs ns N X)(b:∀k∈eR,N k=N' k/\X k=X' k):Bg w Wc base v nb hs ns N' X':=⟨⟨h.cr.blk,λk a=>by rw[←(b k a).1,←(b k a).2];exact h.cr.row k a,h.cr.sep⟩,h.hl,h.host,h.ap,h.lq,h.ng,h.low,h.tabs,h.qt⟩
def Bg.later(h:Bg w Wc base v nb hs ns N X)(b:Below w.heap.size w w'):Bg w' Wc base v nb hs ns N X:=by have d:dW w':=h.tabs.kept (dM.of_below (A:=λ_=>False) b) (λc=>c) (λc=>c);exact⟨h.cr.later b,h.hl,λi hi a=>(h.host i hi a).same b.size (λg e=>b.block g ((h.host i hi a).lt g e).2) d,h.ap,h.lq,h.ng,h.low,d,h.qt⟩
def Bg.push{k m:Nat}{news:List Value}{v3:Value}(p:k∈eR)(h:Bg w Wc base v nb hs ns N X)(O:w3.ownsRow base (rT k) (rS k) v3 (N k+m) (X k++news))(u:w.grownBy w3 (v k).ownBlock)(Q:yO w w3 (v k) v3):w3.cell? ⟨Wc,k,Z⟩=Y (v k)/\w3.frozen? ⟨Wc,k,Z⟩=false/\Bg (w3.setCell ⟨Wc,k,Z⟩ v3) Wc base (gI v k v3) nb hs ns (jY N k (N k+m)) (jY X k (X k++news))/\Below base w (w3.setCell ⟨Wc,k,Z⟩ v3):=by
 have s:=h.cr.off p;have t:dC w3 Wc (jA v nb true) 63:=h.cr.blk.same (u.block Wc h.cr.blk.lt (λb=>s b.symm));have e:=dI.setCell w3 ⟨Wc,k,Z⟩ v3;have H:dC (w3.setCell ⟨Wc,k,Z⟩ v3) Wc (jA (gI v k v3) nb true) 63:=by have:=t.set k v3;rw[sC v nb true v3 k p]at this;exact this
 have o:dM (λg=>g=Wc∨(v k).ownBlock=some g) w (w3.setCell ⟨Wc,k,Z⟩ v3):=⟨e.os.trans u.os,e.tape.trans u.tape,e.output.trans u.output,by rw[e.size];exact u.size,λg a b=>(e.block g (λc=>b (.inl c))).trans (u.block g a (λc=>b (.inr c.symm)))⟩;have a:∀g,v3.ownBlock=some g->(v k).ownBlock=some g∨w.heap.size<=g:=by
  intro g a;obtain⟨g',M,L⟩:=Q;rw[M]at a;have D:g'=g:=by simpa using a
  subst D;exact L.imp id (λc=>c.1)
 have C:v3.ownBlock≠some Wc:=by
  intro b;rcases a Wc b with c|c;·exact s c
  ·have:=h.cr.blk.lt;omega
 have B:(w3.setCell ⟨Wc,k,Z⟩ v3).ownsRow base (rT k) (rS k) v3 (N k+m) (X k++news):=dQ O (λg a=>e.block g (λb=>C (by rw[a,b])));have K:dW (w3.setCell ⟨Wc,k,Z⟩ v3):=h.tabs.kept o (λb=>b.elim (λc=>by have:=h.low;omega) (λc=>by have:=((h.cr.row k p).lt 0 c).1;have:=h.low;omega)) (λb=>b.elim (λc=>by have:=h.low;omega) (λc=>by have:=((h.cr.row k p).lt 1 c).1;have:=h.low;omega));have q:∀j∈eR,j≠k->∀g,(v j).ownBlock=some g->(v k).ownBlock≠some g:=λj n d g b c=>h.cr.rsep n p d b c;have A:∀j∈eR,j≠k->∀g,(v j).ownBlock=some g->v3.ownBlock≠some g:=by
  intro j n d g b c;rcases a g c with l|l;·exact q j n d g b l
  ·have:=((h.cr.row j n).lt g b).2;omega
 refine⟨(t.cell k).trans (uK v nb true k p),t.free k,⟨⟨H,λj n=>?_,λg z f=>?_⟩,h.hl,λi hi E=>?_,h.ap,λj n g b i hi=>?_,h.ng,h.low,K,h.qt⟩,?_⟩
 ·by_cases d:j=k;·subst d;rw[lG,AZ,AZ];exact B
  ·rw[nY d,DI d,DI d];exact dQ (h.cr.row j n) (λg b=>o.block g ((h.cr.row j n).lt g b).2 (λc=>c.elim (λl=>h.cr.off n (by rw[b,l])) (λl=>q j n d g b l)))
 ·have F:3∈eR:=dG;have y:10∈eR:=dG;by_cases x:3=k;·subst x;rw[lG]at z;rw[nY dG]at f;exact A 10 y dG g f z
  ·rw[nY x]at z;by_cases r:10=k;·subst r;rw[lG]at f;exact A 3 F dG g z f
   ·rw[nY r]at f;exact h.cr.sep g z f
 ·have b:=h.host i hi E;exact b.same o.size (λg a=>o.block g (b.lt g a).2 (λc=>c.elim (λl=>h.ng i hi (l ▸ a)) (λl=>h.lq k p g l i hi a))) K
 ·by_cases d:j=k
  ·subst d;rw[lG]at b;rcases a g b with c|c;·exact h.lq j n g c i hi
   ·intro l;have:=((h.host i hi (by rw[←h.hl];exact hi)).lt g l).2;omega
  ·rw[nY d]at b;exact h.lq j n g b i hi
 ·exact⟨o.os,o.tape,o.output,o.size,λg a=>o.block g (Nat.lt_of_lt_of_le a h.jd) (λb=>b.elim (λc=>by have:=h.low;omega) (λc=>by have:=((h.cr.row k p).lt g c).1;omega))⟩
def Bg.more(h:Bg w Wc base v nb hs ns N X)(A:Below w.heap.size w w'){h':Ho}{n':AG.Nd}(H:fO w' h'.Kn h'.P 1 h'.C h'.left n')(t:∀g,h'.al g->w.heap.size<=g)(K:h'.left = -1):Bg w' Wc base v nb (hs++[h']) (ns++[n']) N X:=by
 have D:=h.later A;have l:∀j (f:j<(hs++[h']).length),∀g,(hs++[h'])[j].al g->(j=hs.length/\h'.al g)∨(∃d:j<hs.length,hs[j].al g):=by
  intro j f g n;by_cases i:j<hs.length;·rw[List.getElem_append_left i]at n;exact .inr ⟨i,n⟩
  ·have e:j=hs.length:=by simp at f;omega
   subst e;rw[List.getElem_append_right r_]at n;simp at n;exact .inl ⟨rfl,n⟩
 have p:∀j (f:j<hs.length) g,hs[j].al g->g<w.heap.size:=λj f g n=>((h.host j f (by rw[←h.hl];exact f)).lt g n).2;refine⟨D.cr,by simp[h.hl],λj f d=>?_,λa b Q A s g E u=>?_,λk q g n j f m=>?_,λj f m=>?_,⟨h.low.1,h.low.2.1,λj f g m=>?_⟩,D.tabs,λx O=>?_⟩
 ·by_cases i:j<hs.length
  ·have y:j<ns.length:=by rw[←h.hl];exact i
   simp only[List.getElem_append_left i,List.getElem_append_left y];exact D.host j i y
  ·have e:j=hs.length:=by simp at f;omega
   have L:j=ns.length:=e.trans h.hl;have M:(hs++[h'])[j]=h':=by subst e;simp
   have F:(ns++[n'])[j]=n':=by subst L;simp
   rw[M,F];exact H
 ·rcases l a Q g E with⟨rfl,c⟩|⟨z,c⟩
  ·rcases l b A g u with⟨rfl,_⟩|⟨o,r⟩;·exact s rfl
   ·have:=p b o g r;have:=t g c;omega
  ·rcases l b A g u with⟨rfl,r⟩|⟨o,r⟩;·have:=p a z g c;have:=t g r;omega
   ·exact h.ap a b z o s g c r
 ·rcases l j f g m with⟨rfl,c⟩|⟨d,c⟩;·have:=((h.cr.row k q).lt g n).2;have:=t g c;omega
  ·exact h.lq k q g n j d c
 ·rcases l j f Wc m with⟨rfl,c⟩|⟨d,c⟩;·have:=h.cr.blk.lt;have:=t Wc c;omega
  ·exact h.ng j d c
 ·rcases l j f g m with⟨rfl,c⟩|⟨d,c⟩;·have:=h.jd;have:=t g c;omega
  ·exact h.low.2.2 j d g c
 ·rcases List.mem_append.1 O with B|B;·exact h.qt x B
  ·simp at B;rw[B];exact K
def Bg.cell{s:CS}(h:Bg w Wc base v s.nb hs s.ns N X)(d:∀k∈eR,N k=rN hs s k/\X k=rX hs s k)(c:s.lv.length=s.ns.length/\s.kn.length=s.ns.length)(b:2<=s.ns.length/\s.ns.length<=5)(a:1<=s.nb/\s.nb<=4)(ids:∀i (h:i<s.ns.length),s.ns[i].id=(i:Int)/\s.ns[i].nodes=(s.ns.length:Int)/\s.ns[i].nb=s.nb):dR w Wc base 1 v true hs s:=⟨h.cr.blk,(h.cong d).cr.row,h.cr.sep,h.hl,h.host,h.ap,h.lq,h.ng,h.low,c,b,a,h.tabs,ids⟩
end
def CS.fst(n:Nat)(nb:Int)(m:Nat):CS:=⟨nb,(List.range m).map (λi:Nat=>AG.Nd.first (i:Int) (n:Int) nb),List.replicate m 0,[],[],[],[],[⟨0,0,2^n - 1⟩],List.replicate m 1⟩
def D8(i n:Nat)(nb:Int)(b:2<=n/\n<=5):(AG.Nd.first (i:Int) (n:Int) nb).fresh (fE (i:Int) (n:Int) 0 true).du=AG.Nd.first (i:Int) (n:Int) nb:=by
 have a:(fE (i:Int) (n:Int) 0 true).bk=λ_=>0:=by funext j;unfold fE SD.bk;simp
 have e:(fE (i:Int) (n:Int) 0 true).du=AG.Du.first (i:Int) (n:Int):=by unfold SD.du AG.Du.first;rw[a];rfl
 rw[e];rfl
end Go.Proofs.YtdcainmlcpafbaaGreatDoor
