import Derived.Test.YtdcainmlcpafbaaGreatDoorJ04
set_option linter.all false
set_option maxHeartbeats 16000000
namespace Go.Proofs.YtdcainmlcpafbaaGreatDoor
open Go.RowKit
open Value renaming int->I,slice->J,pointer->P0
open Tryz renaming prog->pG
open IntKind renaming i64->T
open Option renaming none->Z,some->Y
open Obj renaming cells->G
open Value (bool)
def vP(n:Nat)(j:Nat):Value:=if j%2=0 then I T (-1000 - (n:Int)) else J Z 0 0
def vR(n:Nat)(j:Nat):Value:=if j%3=0 then I T (-1000 - (n:Int)) else I T 0
def vS(n:Nat)(j:Nat):Value:=if j%5=0 then I T (-1000 - (n:Int)) else I T 0
def nH:Nat->Nat
 |0=>1
 |1=>1
 |2=>2
 |3=>3
 |_=>5
def uI:Nat->TypeId
 |0=>150
 |1=>153
 |2=>156
 |3=>159
 |_=>162
def nI:Nat->Nat->Nat->Value
 |0=>vB
 |1=>vI
 |2=>vP
 |3=>vR
 |_=>vS
theorem pC(n j:Nat):(vP n j).oneCell'=true:=by unfold vP;split<;>rfl
theorem pD(n j:Nat):(vR n j).oneCell'=true:=by unfold vR;split<;>rfl
theorem pE(n j:Nat):(vS n j).oneCell'=true:=by unfold vS;split<;>rfl
def dU(c:Nat)(val:Nat->Value)(w:World)(base:Nat)(bad:Nat->Prop)(x:Value):Prop:=
 ∃a len cp,x=J a len cp/\len<=4194304/\(len=0∨∃g,a=Y ⟨g,0,Z⟩/\base<=g/\g<w.heap.size/\¬bad g/\∀j,j<len*c->w.cell? ⟨g,j,Z⟩=Y (val j))
theorem dU.one{val:Nat->Value}{w:World}{base:Nat}{bad:Nat->Prop}{x:Value}(h:dU 1 val w base bad x):pM val w base bad x:=by
 obtain⟨a,len,cp,h1,h2,h3⟩:=h;refine⟨a,len,cp,h1,h2,?_⟩;rcases h3 with h3|⟨g,h4,h5,h6,h7,h9⟩
 ·exact .inl h3
 ·exact .inr ⟨g,h4,h5,h6,h7,fun j hj=>h9 j (by omega)⟩
theorem dU.kept{c:Nat}{val:Nat->Value}{w w':World}{base:Nat}{bad bad':Nat->Prop}{x:Value}(h:dU c val w base bad x)(hs:w.heap.size<=w'.heap.size)(hb:∀g,base<=g->g<w.heap.size->¬bad g->w'.heap[g]?=w.heap[g]?/\¬bad' g):dU c val w' base bad' x:=by
 obtain⟨a,len,cp,h1,h2,h3⟩:=h;refine⟨a,len,cp,h1,h2,?_⟩;rcases h3 with h3|⟨g,h4,h5,h6,h7,h9⟩
 ·exact .inl h3
 ·obtain⟨k1,k2⟩:=hb g h5 h6 h7;exact .inr ⟨g,h4,h5,Nat.lt_of_lt_of_le h6 hs,k2,fun j hj=>(World.cell?_of_block (w:=w) (a:=⟨g,j,Z⟩) k1).trans (h9 j hj)⟩
def jC(k:Nat)(w:World)(base:Nat)(bad:Nat->Prop)(e:bU):Prop:=
 dU (nH k) (nI k e.n) w base bad e.l/\dU (nH k) (nI k e.n) w base bad e.a/\dU (nH k) (nI k e.n) w base bad e.b/\dU (nH k) (nI k e.n) w base bad e.c
theorem jC.kept{k:Nat}{w w':World}{base:Nat}{bad bad':Nat->Prop}{e:bU}(h:jC k w base bad e)(hs:w.heap.size<=w'.heap.size)(hb:∀g,base<=g->g<w.heap.size->¬bad g->w'.heap[g]?=w.heap[g]?/\¬bad' g):jC k w' base bad' e:=
 ⟨h.1.kept hs hb,h.2.1.kept hs hb,h.2.2.1.kept hs hb,h.2.2.2.kept hs hb⟩
theorem aH{w w':World}{base:Nat}{e:TypeId}{size n:Nat}{v:Value}{xs:List Value}(h:w.ownsRow base e size v n xs)(hg:∀g,v.ownBlock=Y g->w'.heap[g]?=w.heap[g]?):w'.ownsRow base e size v n xs:=by
 refine⟨h.1,?_⟩;rcases h.2 with h0|⟨g,cap,cur,hv,hb,h1,h3⟩
 ·exact .inl h0
 ·exact .inr ⟨g,cap,cur,hv,hb,(hg g (by rw[hv];rfl)).trans h1,h3⟩
def fC(ext:Nat->Prop)(v:Nat->Value)(g:Nat):Prop:=(∃k,k<5/\(v k).ownBlock=Y g)∨ext g
def dV{α:Type}(f:Nat->α)(k:Nat)(x:α)(i:Nat):α:=if i=k then x else f i
theorem fU{α:Type}(f:Nat->α)(k:Nat)(x:α):dV f k x k=x:=by simp[dV]
theorem eP{α:Type}(f:Nat->α){k i:Nat}(x:α)(h:i≠k):dV f k x i=f i:=by simp[dV,h]
structure cD(ext:Nat->Prop)(w:World)(base R:Nat)(v:Nat->Value)(es:Nat->List bU):Prop where
 cell:∀k,k<5->w.cell? ⟨R,4+k,Z⟩=Y (v k)
 free:∀i,w.frozen? ⟨R,i,Z⟩=false
 lt:R<base
 le:base<=w.heap.size
 own:∀k,k<5->w.ownsRow base (uI k) 5 (v k) (es k).length ((es k).flatMap bU.cells)
 ne:∀k l,k<5->l<5->k≠l->∀g,(v k).ownBlock=Y g->(v l).ownBlock≠some g
 num:∀k,k<5->∀i (h:i<(es k).length),(es k)[i].n=i
 ok:∀k,k<5->∀e∈es k,jC k w base (fC ext v) e
 ex:∀k,k<5->∀g,(v k).ownBlock=Y g->¬ext g
 exR:¬ext R
 small:∀k,k<5->(es k).length<=4194304
section
variable {ext ext' : Nat → Prop} {w w' : World} {base R : Nat} {v : Nat → Value} {es : Nat → List bU}
theorem cD.shift(h:cD ext w base R v es)(hs:w.heap.size<=w'.heap.size)(hb:∀g,g<w.heap.size->¬ext g->w'.heap[g]?=w.heap[g]?)(he:∀g,g<w.heap.size->ext' g->ext g):cD ext' w' base R v es:=by
 have hR:R<w.heap.size:=Nat.lt_of_lt_of_le h.lt h.le;have hRb:=hb R hR h.exR;refine⟨fun k hk=>?_,fun i=>?_,h.lt,Nat.le_trans h.le hs,fun k hk=>?_,h.ne,h.num,fun k hk e hE=>?_,fun k hk g hg hx=>?_,fun hx=>h.exR (he R hR hx),h.small⟩
 ·exact(World.cell?_of_block (w:=w) (a:=⟨R,4+k,Z⟩) hRb).trans (h.cell k hk)
 ·exact(World.frozen?_of_block (w:=w) (a:=⟨R,i,Z⟩) hRb).trans (h.free i)
 ·exact aH (h.own k hk) (fun g hg=>hb g ((h.own k hk).lt g hg).2 (h.ex k hk g hg))
 ·refine(h.ok k hk e hE).kept hs (fun g _ h1 h2=>⟨hb g h1 (fun hx=>h2 (.inr hx)),?_⟩);rintro(h3|h3)
  ·exact h2 (.inl h3)
  ·exact h2 (.inr (he g h1 h3))
 ·exact h.ex k hk g hg (he g ((h.own k hk).lt g hg).2 hx)
theorem cD.later(h:cD ext w base R v es)(hb:Below w.heap.size w w'):cD ext w' base R v es:=
 h.shift hb.size (fun g h1 _=>hb.block g h1) (fun g _ hx=>hx)
theorem cD.low(h:cD ext w base R v es){g k:Nat}(hk:k<5)(hg:(v k).ownBlock=Y g):base<=g/\g<w.heap.size:=(h.own k hk).lt g hg
theorem cD.push{y:World}(h:cD ext y base R v es)(k:Nat)(hk:k<5)(v':Value)(en:bU)(hn:en.n=(es k).length)(ho:w'.ownsRow base (uI k) 5 v' ((es k).length+1) ((es k).flatMap bU.cells++en.cells))(hg:y.grownBy w' (v k).ownBlock)(hv:∃g,v'.ownBlock=Y g/\((v k).ownBlock=Y g∨y.heap.size<=g))(hen:jC k y base (fC ext v) en)(hext:∀g,y.heap.size<=g->¬ext g)(hsm:(es k).length<4194304):cD ext (w'.setCell ⟨R,4+k,Z⟩ v') base R (dV v k v') (dV es k (es k++[en])):=by
 have hR:R<y.heap.size:=Nat.lt_of_lt_of_le h.lt h.le;have hRo:some R≠(v k).ownBlock:=fun hh=>by have:=(h.low hk hh.symm).1;have:=h.lt;omega
 have hRb:=hg.block R hR hRo;have hgs:=iZ w' ⟨R,4+k,Z⟩ v';have hsz:=hg.size;have hcell:∀i,w'.cell? ⟨R,i,Z⟩=y.cell? ⟨R,i,Z⟩:=fun i=>World.cell?_of_block (w:=y) (a:=⟨R,i,Z⟩) hRb;have hoth:∀i,i≠4+k->(w'.setCell ⟨R,4+k,Z⟩ v').cell? ⟨R,i,Z⟩=y.cell? ⟨R,i,Z⟩:=fun i hi=>(World.cell?_setCell_other _ _ _ _ (by intro hh;have:=congrArg Addr.off hh;simp at this;omega)).trans (hcell i);have hblk:∀g,base<=g->g<y.heap.size->some g≠(v k).ownBlock->(w'.setCell ⟨R,4+k,Z⟩ v').heap[g]?=y.heap[g]?:=fun g h1 h2 h3=>(hgs.block g (by omega) (by have:=h.lt;simp;omega)).trans (hg.block g h2 h3);obtain⟨gv,hgv,hgv2⟩:=hv
 have hbad:∀g,base<=g->g<y.heap.size->¬fC ext v g->(w'.setCell ⟨R,4+k,Z⟩ v').heap[g]?=y.heap[g]?/\¬fC ext (dV v k v') g:=by
  intro g h1 h2 h3;refine⟨hblk g h1 h2 (fun hh=>h3 (.inl ⟨k,hk,hh.symm⟩)),?_⟩;rintro(⟨l,hl,hh⟩|hh)
  ·by_cases hlk:l=k
   ·subst hlk;rw[fU,hgv]at hh;obtain rfl:gv=g:=by simpa using hh
    rcases hgv2 with h4|h4
    ·exact h3 (.inl ⟨l,hl,h4⟩)
    ·omega
   ·rw[eP _ _ hlk]at hh;exact h3 (.inl ⟨l,hl,hh⟩)
  ·exact h3 (.inr hh)
 refine⟨fun l hl=>?cell,fun i=>?free,h.lt,?le,fun l hl=>?own,fun a b ha hb hab g hga hgb=>?ne,fun l hl=>?num,fun l hl e he=>?ok,fun l hl g hg'=>?ex,h.exR,fun l hl=>?small⟩
 case cell=>
  by_cases hlk:l=k
  ·subst hlk;rw[fU];exact World.cell?_setCell_same _ _ _ ((hcell _).trans (h.cell l hl))
  ·rw[eP _ _ hlk];exact(hoth _ (by omega)).trans (h.cell l hl)
 case free=>rw[World.frozen?_setCell];exact(World.frozen?_of_block (w:=y) (a:=⟨R,i,Z⟩) hRb).trans (h.free i)
 case le=>rw[bL];exact Nat.le_trans h.le hsz
 case own=>
  by_cases hlk:l=k
  ·subst hlk;rw[fU,fU,List.length_append,List.flatMap_append];simp only[List.length_cons,List.length_nil,List.flatMap_cons,List.flatMap_nil,List.append_nil];exact ho.kept hgs (.inr (by rw[hgv];intro hh;simp at hh;rcases hgv2 with h1|h1;exact hRo (by rw[h1,hh]);omega))
  ·rw[eP _ _ hlk,eP _ _ hlk];refine aH (h.own l hl) (fun g hg'=>?_);exact hblk g (h.low hl hg').1 (h.low hl hg').2 (fun hh=>h.ne l k hl hk hlk g hg' hh.symm)
 case ne=>
  by_cases hak:a=k
  ·subst hak;rw[fU,hgv]at hga;obtain rfl:gv=g:=by simpa using hga
   rw[eP _ _ (Ne.symm hab)]at hgb;rcases hgv2 with h1|h1
   ·exact h.ne b a hb ha (Ne.symm hab) gv hgb h1
   ·have:=(h.low hb hgb).2;omega
  ·rw[eP _ _ hak]at hga
   by_cases hbk:b=k
   ·subst hbk;rw[fU,hgv]at hgb;obtain rfl:gv=g:=by simpa using hgb
    rcases hgv2 with h1|h1
    ·exact h.ne a b ha hb hab gv hga h1
    ·have:=(h.low ha hga).2;omega
   ·rw[eP _ _ hbk]at hgb;exact h.ne a b ha hb hab g hga hgb
 case num=>
  by_cases hlk:l=k
  ·subst hlk;rw[fU];intro i hi
   by_cases hlt:i<(es l).length
   ·rw[List.getElem_append_left hlt];exact h.num l hl i hlt
   ·have:i=(es l).length:=by simp at hi;omega
    subst this;simp[hn]
  ·rw[eP _ _ hlk];exact h.num l hl
 case ok=>
  by_cases hlk:l=k
  ·subst hlk;rw[fU]at he;rcases List.mem_append.1 he with he|he
   ·exact(h.ok l hl e he).kept (by rw[bL];exact hsz) hbad
   ·obtain rfl:e=en:=by simpa using he
    exact hen.kept (by rw[bL];exact hsz) hbad
  ·rw[eP _ _ hlk]at he;exact(h.ok l hl e he).kept (by rw[bL];exact hsz) hbad
 case ex=>
  by_cases hlk:l=k
  ·subst hlk;rw[fU,hgv]at hg';obtain rfl:gv=g:=by simpa using hg'
   rcases hgv2 with h1|h1
   ·exact h.ex l hl gv h1
   ·exact hext gv h1
  ·rw[eP _ _ hlk]at hg';exact h.ex l hl g hg'
 case small=>
  by_cases hlk:l=k
  ·subst hlk;rw[fU];simp;omega
  ·rw[eP _ _ hlk];exact h.small l hl
end
theorem cD.fresh{W:World}{R:Nat}{gm gr:Value}(h:iD W R gm gr):cD (fun _=>False) W W.heap.size R (fun _=>J Z 0 0) (fun _=>[]):=by
 have hc:=h.cell;refine⟨fun k hk=>?_,h.free,h.lt,Nat.le_refl _,fun k hk=>World.ownsRow_nil _ _ _ _,fun k l _ _ _ g hg=>by simp[Value.ownBlock]at hg,fun k hk i hi=>by simp at hi,fun k hk e he=>by simp at he,fun _ _ _ _ hf=>hf,fun hf=>hf,fun k hk=>by simp⟩;rcases(show k=0∨k=1∨k=2∨k=3∨k=4 by omega) with rfl|rfl|rfl|rfl|rfl
 all_goals exact hc _
theorem gR{P:Program}{w:World}{ops:Array Oper}{rest:List Oper}{o:Oper}{a:Act}{Q:Exit->Act->World->Prop}(hgd:o.guard=none)(s x:Operand)(t:TypeId)(ho:o.op=.call {callee:=.builtin .append,args:=#[s,x],argTypes:=#[t,t]})(base:Nat)(e:TypeId)(i:TypeInfo)(z:Value)(c bytes:Nat)(hc0:0<c)(ht:P.underlying t=Y (.slice e))(hi:P.info? e=Y i)(hz:i.zero=Y z)(hsize:i.size=c)(hby:i.bytes=bytes)(hzs:z.cells.size=c)(val:Nat->Value)(hone:∀j,(val j).oneCell'=true)(v:Value)(n:Nat)(xs:List Value)(hs:a.eval s=v)(hown:w.ownsRow base e c v n xs)(hxs:∀j,j<n*c->xs[j]?=Y (val j))(ad:Addr)(m cc:Nat)(hm0:0<m)(hx:a.eval x=J (Y ad) m cc)(hnews:∀j,j<m*c->w.cell? (ad.add j)=Y (val (n*c+j)))(h63:n+m<=maxLen)(hbytes:(n+m)*bytes<=140737488355328)(hbase:base<=w.heap.size)(h:∀g cp w',w'.ownsRow base e c v n xs->w.grownBy w' v.ownBlock->base<=g->g<w'.heap.size->(v.ownBlock=Y g∨w.heap.size<=g)->MA val w' g ((n+m)*c)->(∀ga k,ga<w.heap.size->k<=(n+m)*c->MA val w ga k->MA val w' ga k)->wpList P ops Q rest (a.put o.dst (J (Y ⟨g,0,Z⟩) (n+m) cp)) w'):wpList P ops Q (o::rest) a w:=by
 refine wpList_plain hgd fun _ hK=>?_;have hxl:xs.length=n*c:=hown.1
 obtain⟨v',w',hr,h2,h3,h4,g',h5,h6⟩:=pS (P:=P) w base t o.type e i z c bytes ht hi hz hsize hby hzs hc0 v n xs hown ad m cc ((List.range (m*c)).map fun j=>val (n*c+j)) hm0 (by simp)
  (by
   intro j u hu;have hj:j<m*c:=by have:=(List.getElem?_eq_some_iff.1 hu).1;simpa using this
   rw[hnews j hj]
   simpa[hj] using hu)
  (by
   intro u hu;obtain⟨j,_,rfl⟩:=List.mem_map.1 hu;exact hone _) h63 hbytes hbase
 have hv:∃cp,v'=J (Y ⟨g',0,Z⟩) (n+m) cp:=by
  rcases h2.2 with⟨rfl,h0⟩|⟨g,cap,cur,rfl,_⟩
  ·omega
  ·simp[Value.ownBlock]at h5;subst h5;exact⟨cap,rfl⟩
 obtain⟨cp,rfl⟩:=hv
 have hma:MA val w' g' ((n+m)*c):=by
  intro j hj
  have hc:=h2.cells (g:=g') rfl j (val j) (by
   by_cases hjn:j<n*c
   ·rw[List.getElem?_append_left (by omega)];exact hxs j hjn
   ·rw[List.getElem?_append_right (by omega),hxl];rw[List.getElem?_map,List.getElem?_range (by rw[Nat.add_mul]at hj;omega)];simp only[Option.map_some]
    congr 2
    omega)
  rw[Go.WideShapes.add_plain]at hc
  simpa using hc
 have hlt:=h2.lt g' h5;unfold Oper.wp execOp;simp only[ho,resolve,invoke,builtin,Sem.run_bind,Sem.run_pure,Result.andThen_ok,List.map_toArray,List.map_cons,List.map_nil,hs,hx,hr];refine hK _ _ (h g' cp w' h4 h3 hlt.1 hlt.2 ?_ hma ?_)
 ·rcases h6 with h6|⟨h6,_⟩
  ·exact .inl h6
  ·exact .inr h6
 ·intro ga k hga hk hM j hj;rcases h6 with h6|⟨_,h6⟩
  ·by_cases he:ga=g'
   ·subst he;exact hma j (by omega)
   ·rw[World.cell?_of_block (w:=w) (a:=⟨ga,j,Z⟩) (h3.block ga hga (by rw[h6];simpa using he))];exact hM j hj
  ·rw[World.cell?_of_block (w:=w) (a:=⟨ga,j,Z⟩) (h6.block ga hga (by simp))];exact hM j hj
structure KC(c:Nat)(e:TypeId)(low:Nat)(w1:World)(l:Value)(len:Nat)(xs:List Value)(wk:World)(cs:List Value):Prop where
 own:wk.ownsRow low e c l len xs
 box:∀i,wk.cell? ⟨w1.heap.size,i,Z⟩=cs[i]?
 free:∀i,wk.frozen? ⟨w1.heap.size,i,Z⟩=false
 gr:w1.grownBy wk l.ownBlock
 lt:w1.heap.size<wk.heap.size
 off:l.ownBlock≠some w1.heap.size
section
variable {c : Nat} {e : TypeId} {low : Nat} {w1 : World} {l : Value} {len : Nat} {xs : List Value} {wk : World} {cs : List Value}
theorem KC.spot(h:KC c e low w1 l len xs wk cs)(o:Obj){w4:World}(hg:(wk.alloc o).grownBy w4 l.ownBlock):
  (∀i,w4.cell? ⟨w1.heap.size,i,Z⟩=cs[i]?)/\(∀i,w4.frozen? ⟨w1.heap.size,i,Z⟩=false):=by
 have hb:=(hg.block _ (by have:=h.lt;simp;omega) (Ne.symm h.off)).trans (heap_alloc_old wk o h.lt);exact⟨fun i=>(World.cell?_of_block (w:=wk) (a:=⟨w1.heap.size,i,Z⟩) hb).trans (h.box i),fun i=>(World.frozen?_of_block (w:=wk) (a:=⟨w1.heap.size,i,Z⟩) hb).trans (h.free i)⟩
theorem KC.old(h:KC c e low w1 l len xs wk cs){X:Nat}(hX:X<w1.heap.size)(hne:l.ownBlock≠some X):wk.heap[X]?=w1.heap[X]?:=h.gr.block X hX (Ne.symm hne)
theorem KC.next(h:KC c e low w1 l len xs wk cs)(o:Obj){w4:World}(hown:w4.ownsRow low e c l len xs)(hg:(wk.alloc o).grownBy w4 l.ownBlock)(idx:Nat)(hi:idx<cs.length)(v:Value):
  KC c e low w1 l len xs (w4.setCell ⟨w1.heap.size,idx,Z⟩ v) (cs.set idx v):=by
 obtain⟨hc,hf⟩:=h.spot o hg;have hgs:=iZ w4 ⟨w1.heap.size,idx,Z⟩ v;refine⟨hown.kept hgs (by by_cases hn:l.ownBlock=none;exact .inl hn;exact .inr h.off),fun i=>?_,fun i=>?_,?_,?_,h.off⟩
 ·by_cases hii:i=idx
  ·subst hii;rw[World.cell?_setCell_same _ _ _ ((hc i).trans (List.getElem?_eq_getElem hi)),List.getElem?_set_self hi]
  ·rw[World.cell?_setCell_other _ _ _ _ (by intro hh;have:=congrArg Addr.off hh;simp at this;omega),hc,List.getElem?_set_ne (by omega)]
 ·rw[World.frozen?_setCell];exact hf i
 ·refine⟨hgs.os.trans (hg.os.trans h.gr.os),hgs.tape.trans (hg.tape.trans h.gr.tape),hgs.output.trans (hg.output.trans h.gr.output),?_,fun k hk hne=>?_⟩
  ·have:=h.gr.size;have:=hg.size;have:=hgs.size;simp at*;omega
  ·have hk2:=h.gr.size;refine(hgs.block k (by have:=hg.size;simp at this;omega) (by simp;omega)).trans ((hg.block k (by simp;omega) hne).trans ((heap_alloc_old wk o (by omega)).trans (h.gr.block k hk hne)))
 ·have:=h.lt;have:=hg.size;rw[bL];simp at*;omega
theorem AM.newC{val:Nat->Value}{k g:Nat}(hKS:KC c e low w1 l len xs wk cs){w4:World}(h1:low<=g)(h2:g<w4.heap.size)(h3:l.ownBlock=Y g∨wk.heap.size+1<=g)(hm:MA val w4 g k)(idx:Nat)(v:Value):
  AM low w1 l val k (w4.setCell ⟨w1.heap.size,idx,Z⟩ v) g:=by
 have hne:g≠w1.heap.size:=by
  rcases h3 with h|h
  ·intro hh;subst hh;exact hKS.off h
  ·have:=hKS.lt;omega
 refine⟨h1,by rw[bL];exact h2,hne,?_,fun j hj=>?_⟩
 ·rcases h3 with h|h
  ·exact .inl h
  ·have:=hKS.lt;exact .inr (by omega)
 ·rw[World.cell?_setCell_other _ _ _ _ (by intro hh;have:=congrArg Addr.block hh;simp at this;exact hne this.symm)];exact hm j hj
theorem AM.nextC{val:Nat->Value}{k K g:Nat}(h:AM low w1 l val k wk g)(o:Obj){w4:World}(hsz:wk.heap.size+1<=w4.heap.size){N:Nat}(hN:wk.heap.size<=N)(hma:∀ga k,ga<N->k<=K->MA val (wk.alloc o) ga k->MA val w4 ga k)(hk:k<=K)(idx:Nat)(v:Value):
  AM low w1 l val k (w4.setCell ⟨w1.heap.size,idx,Z⟩ v) g:=by
 refine⟨h.low,by rw[bL];have:=h.lt;omega,h.ne,h.is,fun j hj=>?_⟩;rw[World.cell?_setCell_other _ _ _ _ (by intro hh;have:=congrArg Addr.block hh;simp at this;exact h.ne this.symm)];exact hma g k (by have:=h.lt;omega) hk (fun j hj=>(World.cell?_alloc_past _ _ _ h.lt).trans (h.ma j hj)) j hj
end
theorem FI:(Tryz.prog.info? 156).map (fun i=>(i.zero,i.size,i.bytes))=Y (Y (.agg #[J Z 0 0,J Z 0 0,J Z 0 0,J Z 0 0,I T 0]),5,104):=by kernel_rfl
theorem FJ:(Tryz.prog.info? 159).map (fun i=>(i.zero,i.size,i.bytes))=Y (Y (.agg #[J Z 0 0,J Z 0 0,J Z 0 0,J Z 0 0,I T 0]),5,104):=by kernel_rfl
theorem FK:(Tryz.prog.info? 162).map (fun i=>(i.zero,i.size,i.bytes))=Y (Y (.agg #[J Z 0 0,J Z 0 0,J Z 0 0,J Z 0 0,I T 0]),5,104):=by kernel_rfl
theorem FL:(Tryz.prog.info? 172).map (fun i=>(i.zero,i.size,i.bytes))=Y (Y (.agg #[I T 0,J Z 0 0]),2,32):=by kernel_rfl
theorem l6:(Tryz.prog.info? 66).map (fun i=>(i.zero,i.size,i.bytes))=Y (Y (.agg #[I T 0,I T 0,I T 0]),3,24):=by kernel_rfl
theorem tA:(Tryz.prog.info? 76).map (fun i=>(i.zero,i.size,i.bytes))=Y (Y (.agg #[I T 0,I T 0,I T 0,I T 0,I T 0]),5,40):=by kernel_rfl
theorem aK.refl(A:Nat->Prop)(w:World):aK A w w:=⟨rfl,rfl,rfl,Nat.le_refl _,fun _ _ _=>rfl⟩
theorem aK.trans{A B C:Nat->Prop}{a b c:World}(h:aK A a b)(k:aK B b c)(h1:∀g,A g->C g)(h2:∀g,g<a.heap.size->B g->C g):aK C a c:=
 ⟨k.os.trans h.os,k.tape.trans h.tape,k.output.trans h.output,Nat.le_trans h.size k.size,fun g hg hC=>(k.block g (Nat.lt_of_lt_of_le hg h.size) (fun hh=>hC (h2 g hg hh))).trans (h.block g hg (fun hh=>hC (h1 g hh)))⟩
theorem aK.of_below{A:Nat->Prop}{w w':World}(h:Below w.heap.size w w'):aK A w w':=⟨h.os,h.tape,h.output,h.size,fun k hk _=>h.block k hk⟩
theorem gX{w:World}{base:Nat}{e:TypeId}{size g n cap:Nat}{xs:List Value}(h:w.ownsRow base e size (J (Y ⟨g,0,Z⟩) n cap) n xs)(j:Nat)(u:Value):((w.setCell ⟨g,j,Z⟩ u).ownsRow base e size (J (Y ⟨g,0,Z⟩) n cap) n (xs.set j u))/\w.grownBy (w.setCell ⟨g,j,Z⟩ u) (Y g):=h.stored j u
theorem jA{w:World}{base:Nat}{e:TypeId}{size n:Nat}{v:Value}{cs:List Value}(h:w.ownsRow base e size v n cs)(hn:0<n):∃g cap,v=J (Y ⟨g,0,Z⟩) n cap/\g<w.heap.size/\∀j u,cs[j]?=Y u->w.cell? ⟨g,j,Z⟩=Y u:=by
 rcases h.2 with⟨rfl,rfl⟩|⟨g,cap,cur,rfl,hb,hg,_⟩
 ·omega
 ·refine⟨g,cap,rfl,(h.lt g rfl).2,fun j u hj=>?_⟩;have:=h.cells (g:=g) rfl j u hj;rw[Go.WideShapes.add_plain]at this
  simpa using this
theorem nY{a b:World}{r:Option Nat}(h:a.grownBy b none):a.grownBy b r:=⟨h.os,h.tape,h.output,h.size,fun k hk _=>h.block k hk (by simp)⟩
section
set_option maxRecDepth 20000
theorem vJ(ext:Nat->Prop)(w:World)(base R:Nat)(v:Nat->Value)(es:Nat->List bU)(l:Value)(len:Nat)(xs:List Value)(hB:cD (fun g=>ext g∨l.ownBlock=Y g) w base R v es)(hl:w.ownsRow base 5 1 l len xs)(hlen:len<=1000000)(hxl:∀g,l.ownBlock=Y g->¬ext g)(hxn:∀g,w.heap.size<=g->¬ext g)(hsm:(es 0).length<4194304):
  Calls pG 100 #[P0 (Y ⟨R,4,Z⟩),l] w fun e w'=>e=.returned (.tuple #[])/\∃v' en,cD ext w' base R (dV v 0 v') (dV es 0 ((es 0)++[en]))/\(∀g,v'.ownBlock=Y g->(v 0).ownBlock=Y g∨w.heap.size<=g)/\aK (fun b=>b=R∨some b=(v 0).ownBlock∨some b=l.ownBlock) w w'/\∀i,i≠4->w'.cell? ⟨R,i,Z⟩=w.cell? ⟨R,i,Z⟩:=by
 obtain⟨i0,hi0,hz0,hz1,hz2⟩:=info_parts pI;obtain⟨la,lc,rfl,hrow⟩:=dN hl;obtain⟨av,cv,hvs,hrv⟩:=dN (hB.own 0 (by omega));have hRw:R<w.heap.size:=Nat.lt_of_lt_of_le hB.lt hB.le;have hRb:=hB.lt;have hbw:=hB.le;have hc4:=(hB.cell 0 (by omega)).trans (by rw[hvs]);have HB:Hid _:=hB;have HV:Hid _:=hvs;have HXL:Hid _:=hxl;have HXN:Hid _:=hxn;have HL:Hid _:=hl;clear hB hrv hvs hxl hxn;clear hl;go_enter Tryz.func100,Tryz.ntmps100;go_wp2
 go_loopw [6] (fun ix wr=>∃(t:Nat) (ys:List Value),t<=len/\ix=I T t/\wr.ownsRow base 5 1 (J la len lc) len ys/\(∀j,j<t*1->ys[j]?=Y (vB (es 0).length j))/\w.grownBy wr (Value.ownBlock (J la len lc))) (fun ix _=>len - (intOf ix).toNat)
 case atStart=>exact⟨0,xs,by omega,rfl,HL.out,fun j hj=>by omega,rfl,rfl,rfl,Nat.le_refl _,fun _ _ _=>rfl⟩
 case round=>
  obtain⟨t,ys,ht,rfl,ho,hys,hgr⟩:=hrel;have HO:=aA ho;have HY:Hid _:=hys;have HG:Hid _:=hgr;have hyl:ys.length=len*1:=ho.1;have hgs:=hgr.size;clear ho hys hgr hc4
  by_cases htl:t<len
  ·obtain⟨gl,rfl,hgl1,hgl2,_⟩:=hrow.resolve_left (by omega);have hct0:=HO.out.cellAt t (by omega);rw[List.getElem?_eq_getElem (by omega)]at hct0;have hft0:=HO.out.frozenAt t;have htl2:(t:Int)<(len:Int):=by omega
   go_wp2_with(first|(go_at_call 128;refine(oL _ _ _ (by omega) (by omega)).mono ?_;rintro e w' ⟨rfl,rfl⟩))
   obtain⟨ho2,hg2⟩:=HO.out.stored t (.int .u8 (mk (es 0).length t))
   go_roundw
   case rel=> 
    refine⟨t+1,_,by omega,by go_num,ho2,fun j hj=>?_,?_⟩
    ·by_cases hjt:j=t
     ·subst hjt;rw[List.getElem?_set_self (by omega)];rfl
     ·rw[List.getElem?_set_ne (by omega)];exact HY.out j (by omega)
    ·exact eX HG.out hg2
   case measure=>simp[intOf];omega
  ·obtain rfl:t=len:=by omega
   have hK0:KC 1 5 base wr (J la t lc) t ys (wr.alloc (G #[J la t lc,J Z 0 0,J Z 0 0,J Z 0 0,I T (es 0).length] 150)) [J la t lc,J Z 0 0,J Z 0 0,J Z 0 0,I T (es 0).length]:=
    ⟨HO.out.alloc _,fun i=>(World.cell?_alloc_at _ _ _ _ rfl).trans (by simp),fun i=>by simp,World.grownBy_alloc wr _ _,by simp,fun hh=>by have:=(HO.out.lt _ hh).2;omega⟩
   have hbr:base<=wr.heap.size:=by omega
   have HK0:Hid _:=hK0;clear hK0
   go_wp2_with(first|(go_at_call 128;refine(lG _ _ (t+0) _ (by omega) (by omega) (by omega)).mono ?_;rintro e w' ⟨rfl,rfl⟩)|(at_builtin;go_loud (refine gR rfl _ _ 148 rfl base 5 i0 (.int .u8 0) 1 1 (by omega) Tryz.underlying148 hi0 hz0 hz1 hz2 rfl (vB (es 0).length) (pB (es 0).length) _ t ys rfl (HK0.out.own.alloc _) HY.out ⟨wr.heap.size+1,0,Z⟩ 1 1 (by omega) rfl ?c1 ?c2 ?c3 ?c4 ?_)))
   case c1=> 
    intro j hj;rw[Go.WideShapes.add_plain,World.cell?_alloc_at _ _ _ _ (by simp[bL])];rcases(show j=0 by omega) with rfl
    all_goals(simp only[Nat.mul_one];rfl)
   case c2=>unfold maxLen;omega
   case c3=>omega
   case c4=>have:=HK0.out.lt;simp at this⊢;omega
   intro g1 cp1 x1 ho hg hb1 hb2 hb3 hma hall
   skip
   skip
   obtain⟨hsp,hfr⟩:=HK0.out.spot _ hg;have s1:=hsp 1;have f1:=hfr 1;simp at s1;have q1:wr.heap.size<x1.heap.size:=by have h1:=HK0.out.lt;have h2:=hg.size;simp at h1 h2;omega
   have hK1:=HK0.out.next _ ho hg 1 (by simp) (J (Y ⟨g1,0,Z⟩) (t+1) cp1);have hz1':(wr.alloc (G #[J la t lc,J Z 0 0,J Z 0 0,J Z 0 0,I T (es 0).length] 150)).heap.size+1<=x1.heap.size:=by have:=hg.size;simpa using this
   have hA1:=AM.newC HK0.out hb1 hb2 (by rcases hb3 with h|h;exact .inl h;exact .inr (by simp[bL]at h⊢;omega)) hma 1 (J (Y ⟨g1,0,Z⟩) (t+1) cp1);clear hsp hfr ho hg hb1 hb2 hb3 hma hall;have HA1:Hid _:=hA1;clear hA1;have HK1:Hid _:=hK1;clear hK1
   go_wp2_with(first|(go_at_call 128;refine(lG _ _ (t+0) _ (by omega) (by omega) (by omega)).mono ?_;rintro e w' ⟨rfl,rfl⟩)|(go_at_call 128;refine(lG _ _ (t+1) _ (by omega) (by omega) (by omega)).mono ?_;rintro e w' ⟨rfl,rfl⟩)|(at_builtin;go_loud (refine gR rfl _ _ 148 rfl base 5 i0 (.int .u8 0) 1 1 (by omega) Tryz.underlying148 hi0 hz0 hz1 hz2 rfl (vB (es 0).length) (pB (es 0).length) _ t ys rfl (HK1.out.own.alloc _) HY.out ⟨x1.heap.size,0,Z⟩ 2 2 (by omega) rfl ?c1 ?c2 ?c3 ?c4 ?_)))
   case c1=> 
    intro j hj;rw[Go.WideShapes.add_plain,World.cell?_alloc_at _ _ _ _ (by simp[bL])];rcases(show j=0∨j=1 by omega) with rfl|rfl
    all_goals(simp only[Nat.mul_one];rfl)
   case c2=>unfold maxLen;omega
   case c3=>omega
   case c4=>have:=HK1.out.lt;simp at this⊢;omega
   intro g2 cp2 x2 ho hg hb1 hb2 hb3 hma hall;clear s1 f1
   skip
   obtain⟨hsp,hfr⟩:=HK1.out.spot _ hg;have s1:=hsp 2;have f1:=hfr 2;simp at s1;have q1:wr.heap.size<x2.heap.size:=by have h1:=HK1.out.lt;have h2:=hg.size;simp at h1 h2;omega
   have hK2:=HK1.out.next _ ho hg 2 (by simp) (J (Y ⟨g2,0,Z⟩) (t+2) cp2);have hz2':(x1.setCell ⟨wr.heap.size,1,Z⟩ (J (Y ⟨g1,0,Z⟩) (t+1) cp1)).heap.size+1<=x2.heap.size:=by have:=hg.size;simpa using this
   have hA2:=AM.newC HK1.out hb1 hb2 (by rcases hb3 with h|h;exact .inl h;exact .inr (by simp[bL]at h⊢;omega)) hma 2 (J (Y ⟨g2,0,Z⟩) (t+2) cp2);have hA1:=HA1.out.nextC _ hz2' (by simp[bL];try omega) hall (by omega) 2 (J (Y ⟨g2,0,Z⟩) (t+2) cp2);clear HA1;clear hsp hfr ho hg hb1 hb2 hb3 hma hall;have HA1:Hid _:=hA1;clear hA1;have HA2:Hid _:=hA2;clear hA2;have HK2:Hid _:=hK2;clear hK2
   go_wp2_with(first|(go_at_call 128;refine(lG _ _ (t+0) _ (by omega) (by omega) (by omega)).mono ?_;rintro e w' ⟨rfl,rfl⟩)|(go_at_call 128;refine(lG _ _ (t+1) _ (by omega) (by omega) (by omega)).mono ?_;rintro e w' ⟨rfl,rfl⟩)|(go_at_call 128;refine(lG _ _ (t+2) _ (by omega) (by omega) (by omega)).mono ?_;rintro e w' ⟨rfl,rfl⟩)|(at_builtin;go_loud (refine gR rfl _ _ 148 rfl base 5 i0 (.int .u8 0) 1 1 (by omega) Tryz.underlying148 hi0 hz0 hz1 hz2 rfl (vB (es 0).length) (pB (es 0).length) _ t ys rfl (HK2.out.own.alloc _) HY.out ⟨x2.heap.size,0,Z⟩ 3 3 (by omega) rfl ?c1 ?c2 ?c3 ?c4 ?_)))
   case c1=> 
    intro j hj;rw[Go.WideShapes.add_plain,World.cell?_alloc_at _ _ _ _ (by simp[bL])];rcases(show j=0∨j=1∨j=2 by omega) with rfl|rfl|rfl
    all_goals(simp only[Nat.mul_one];rfl)
   case c2=>unfold maxLen;omega
   case c3=>omega
   case c4=>have:=HK2.out.lt;simp at this⊢;omega
   intro g3 cp3 x3 ho hg hb1 hb2 hb3 hma hall;clear s1 f1
   skip
   obtain⟨hsp,hfr⟩:=HK2.out.spot _ hg;have s1:=hsp 3;have f1:=hfr 3;simp at s1;have q1:wr.heap.size<x3.heap.size:=by have h1:=HK2.out.lt;have h2:=hg.size;simp at h1 h2;omega
   have hK3:=HK2.out.next _ ho hg 3 (by simp) (J (Y ⟨g3,0,Z⟩) (t+3) cp3);have hz3':(x2.setCell ⟨wr.heap.size,2,Z⟩ (J (Y ⟨g2,0,Z⟩) (t+2) cp2)).heap.size+1<=x3.heap.size:=by have:=hg.size;simpa using this
   have hA3:=AM.newC HK2.out hb1 hb2 (by rcases hb3 with h|h;exact .inl h;exact .inr (by simp[bL]at h⊢;omega)) hma 3 (J (Y ⟨g3,0,Z⟩) (t+3) cp3);have hA1:=HA1.out.nextC _ hz3' (by simp[bL];try omega) hall (by omega) 3 (J (Y ⟨g3,0,Z⟩) (t+3) cp3);clear HA1;have hA2:=HA2.out.nextC _ hz3' (by simp[bL];try omega) hall (by omega) 3 (J (Y ⟨g3,0,Z⟩) (t+3) cp3);clear HA2;clear hsp hfr ho hg hb1 hb2 hb3 hma hall;have HA1:Hid _:=hA1;clear hA1;have HA2:Hid _:=hA2;clear hA2;have HA3:Hid _:=hA3;clear hA3;have HK3:Hid _:=hK3;clear hK3
   go_wp2_with fail
   generalize x3.setCell ⟨wr.heap.size,3,Z⟩ (J (Y ⟨g3,0,Z⟩) (t+3) cp3)=y at*;clear s1 f1 hz1' hz2' hz3';obtain⟨i5,hi5,hy0,hy1,hy2⟩:=info_parts FE;have b0:=HK3.out.box 0;have b1:=HK3.out.box 1;have b2:=HK3.out.box 2;have b3:=HK3.out.box 3;have b4:=HK3.out.box 4;simp at b0 b1 b2 b3 b4;have hgy0:=eX (HG.out) HK3.out.gr;have hwy:=hgy0.size;have HBk:=aA (HB.out.shift hgy0.size (fun g h1 h2=>hgy0.block g h1 (fun hh=>h2 (.inr hh.symm))) (fun g _ hx=>.inl hx));have hRy:=(HBk.out.cell 0 (by omega)).trans (by rw[HV.out]);have hRf:=HBk.out.free 4;have OB:Hid (y.ownsRow base 150 5 (J av (es 0).length cv) (es 0).length ((es 0).flatMap bU.cells)):=by have:=HBk.out.own 0 (by omega);rw[HV.out]at this;exact this
   have hbase:=HBk.out.le;have hRlt:R<y.heap.size:=Nat.lt_of_lt_of_le HBk.out.lt hbase;have hXy:=HK3.out.lt;clear hrow
   go_region_law (refine gC rfl (.tmp 66) (.tmp 68) 82 rfl base 150 i5 (.agg #[J Z 0 0,J Z 0 0,J Z 0 0,J Z 0 0,I T 0]) 5 104 Tryz.underlying82 hi5 hy0 hy1 hy2 rfl (by decide) (J av (es 0).length cv) (es 0).length ((es 0).flatMap bU.cells) (by simp[Act.eval]) (by exact(World.ownsRow.alloc OB.out _).drew) ⟨y.heap.size,0,Z⟩ 1 1 [J la t lc,J (Y ⟨g1,0,Z⟩) (t+1) cp1,J (Y ⟨g2,0,Z⟩) (t+2) cp2,J (Y ⟨g3,0,Z⟩) (t+3) cp3,I T (es 0).length] (by omega) (by simp[Act.eval]) rfl (by intro j u hu;rw[Go.WideShapes.add_plain];refine(World.cell?_alloc_at _ _ _ _ rfl).trans ?_;simpa using hu) (by intro u hu;simp at hu;rcases hu with rfl|rfl|rfl|rfl|rfl<;>rfl) (by unfold maxLen;omega) (by omega) (by show _<=(World.alloc _ _).heap.size;simp;omega) ?_;intro v' w' ho' hg' hloc;obtain⟨va,vc,rfl⟩:=aO ho';have hRo:some R≠Value.ownBlock (J av (es 0).length cv):=(fun hh=>by have h1:=(OB.out.lt R hh.symm).1;have h2:=HBk.out.lt;omega);have hRb2:w'.heap[R]?=y.heap[R]?:=(hg'.block R (by show _<(World.alloc _ _).heap.size;simp;omega) hRo).trans (heap_alloc_old y _ hRlt);have hRw1:w'.cell? ⟨R,4,Z⟩=Y (J av (es 0).length cv):=((World.cell?_of_block (w:=y) (a:=⟨R,4,Z⟩) hRb2).trans hRy);have hRw2:w'.frozen? ⟨R,4,Z⟩=false:=((World.frozen?_of_block (w:=y) (a:=⟨R,4,Z⟩) hRb2).trans hRf))
   all_goals go_wp2
   all_goals refine bodyPost_end (v:=.tuple #[]) (by simp[results,Tryz.results100,go_sem]) rfl ?_
   all_goals
    have hgy:y.grownBy w' (Value.ownBlock (J av (es 0).length cv)):=⟨hg'.os,hg'.tape,hg'.output,Nat.le_trans (by show _<=(World.alloc _ _).heap.size;simp) hg'.size,fun k hk hne=>(hg'.block k (by show _<(World.alloc _ _).heap.size;simp;omega) hne).trans (heap_alloc_old y _ hk)⟩
    have hlocy:∃g,Value.ownBlock (J va ((es 0).length+1) vc)=Y g/\(Value.ownBlock (J av (es 0).length cv)=Y g∨y.heap.size<=g):=by
     obtain⟨g',h1,h2⟩:=hloc;refine⟨g',h1,?_⟩;rcases h2 with h2|⟨h2,_⟩
     ·exact .inl h2
     ·exact .inr (Nat.le_trans (by show _<=(World.alloc _ _).heap.size;simp) h2)
    have hextn:∀g,y.heap.size<=g->¬ext g:=fun g hg=>HXN.out g (by omega)
    have hbadg:∀g,base<=g->(Value.ownBlock (J la t lc)=Y g∨wr.heap.size<=g)->¬fC ext v g:=by
     intro g h1 h2 h3;rcases h3 with⟨q,hq,h3⟩|h3
     ·rcases h2 with h2|h2
      ·exact HB.out.ex q hq g h3 (.inr h2)
      ·have:=(HB.out.low hq h3).2;omega
     ·rcases h2 with h2|h2
      ·exact HXL.out g h2 h3
      ·exact HXN.out g (by omega) h3
    have am:∀g k,AM base wr (J la t lc) (vB (es 0).length) (k*1) y g->∀cp,k<=4194304->dU 1 (vB (es 0).length) y base (fC ext v) (J (Y ⟨g,0,Z⟩) k cp):=by
     intro g k hA cp hk;exact⟨_,_,_,rfl,hk,.inr ⟨g,rfl,hA.low,hA.lt,hbadg g hA.low hA.is,hA.ma⟩⟩
    have hsl:dU 1 (vB (es 0).length) y base (fC ext v) (J la t lc):=by
     refine⟨la,t,lc,rfl,by omega,?_⟩;obtain⟨la',lc',he,hrow'⟩:=dN HK3.out.own;cases he;rcases hrow' with h0|⟨g,h1,h2,h3,h4⟩
     ·exact .inl h0
     ·exact .inr ⟨g,h1,h2,h3,hbadg g h2 (.inl (by rw[h1];rfl)),fun j hj=>h4 j _ (HY.out j hj)⟩
    have hen:jC 0 y base (fC ext v) ⟨J la t lc,J (Y ⟨g1,0,Z⟩) (t+1) cp1,J (Y ⟨g2,0,Z⟩) (t+2) cp2,J (Y ⟨g3,0,Z⟩) (t+3) cp3,(es 0).length⟩:=⟨hsl,am g1 _ (by simpa using HA1.out) cp1 (by omega),am g2 _ (by simpa using HA2.out) cp2 (by omega),am g3 _ (by simpa using HA3.out) cp3 (by omega)⟩;refine⟨rfl,?_⟩;refine⟨J va ((es 0).length+1) vc,⟨J la t lc,J (Y ⟨g1,0,Z⟩) (t+1) cp1,J (Y ⟨g2,0,Z⟩) (t+2) cp2,J (Y ⟨g3,0,Z⟩) (t+3) cp3,(es 0).length⟩,?_,?_,?_,?_⟩
    ·exact HBk.out.push 0 (by omega) _ _ rfl ho' (by rw[HV.out];exact hgy) (by rw[HV.out];exact hlocy) hen hextn hsm
    ·intro g hg;obtain⟨g',h1,h2⟩:=hlocy;rw[h1]at hg;obtain rfl:g'=g:=by simpa using hg
     rcases h2 with h2|h2
     ·exact .inl (by rw[HV.out];exact h2)
     ·exact .inr (by omega)
    ·have hgs:=iZ w' ⟨R,4,Z⟩ (J va ((es 0).length+1) vc);refine⟨hgs.os.trans (hgy.os.trans hgy0.os),hgs.tape.trans (hgy.tape.trans hgy0.tape),hgs.output.trans (hgy.output.trans hgy0.output),Nat.le_trans hwy (Nat.le_trans hgy.size hgs.size),fun k hk hA=>?_⟩;have hk3:=hgy.size;exact(hgs.block k (by omega) (fun hh=>hA (.inl (by simpa using hh)))).trans ((hgy.block k (by omega) (fun hh=>hA (.inr (.inl (by rw[HV.out];exact hh))))).trans (hgy0.block k hk (fun hh=>hA (.inr (.inr hh)))))
    ·intro i hi;rw[World.cell?_setCell_other _ _ _ _ (by intro hh;have:=congrArg Addr.off hh;simp at this;omega)];have hRl:some R≠Value.ownBlock (J la t lc):=fun hh=>by have:=(World.ownsRow.lt HL.out R hh.symm).1;omega
     exact(World.cell?_of_block (w:=y) (a:=⟨R,i,Z⟩) hRb2).trans (World.cell?_of_block (w:=w) (a:=⟨R,i,Z⟩) (hgy0.block R hRw hRl))
structure dM where
 dst:Int
 d:Value
def dM.cells(p:dM):List Value:=[I T p.dst,p.d]
theorem nJ(p:dM):(dM.cells p).length=2:=rfl
theorem mO:∀(l:List dM) (i:Nat) (h:i<l.length) (k:Nat) (hk:k<2),(l.flatMap dM.cells)[i*2+k]?=Y ((dM.cells l[i]).getD k undef):=by
 intro l
 induction l with
 |nil=>intro i h;simp at h
 |cons x l ih=>
  intro i h k hk;rw[List.flatMap_cons]
  match i with
  |0=>
   rw[List.getElem?_append_left (by rw[nJ];omega)];simp only[Nat.zero_mul,Nat.zero_add,List.getElem_cons_zero];rw[List.getD_eq_getElem?_getD,List.getElem?_eq_getElem (by rw[nJ];exact hk)];rfl
  |i+1=>
   rw[List.getElem?_append_right (by rw[nJ];omega),nJ,show(i+1)*2+k - 2=i*2+k by omega];exact ih i (by simpa using h) k hk
def fM(ps:List dM)(t:Nat)(g:Nat):Prop:=∃j,t<=j/\∃h:j<ps.length,ps[j].d.ownBlock=Y g
theorem iU{w:World}{base base':Nat}{e e':TypeId}{size size' k k':Nat}{v v':Value}{xs xs':List Value}(h:w.ownsRow base e size v k xs)(h':w.ownsRow base' e' size' v' k' xs')(hne:e≠e')(g:Nat)(hg:v.ownBlock=Y g):v'.ownBlock≠some g:=by
 intro hg';rcases h.2 with⟨rfl,_⟩|⟨g1,cap,cur,rfl,_,h1,_⟩
 ·simp[Value.ownBlock]at hg
 ·simp[Value.ownBlock]at hg;subst hg;rcases h'.2 with⟨rfl,_⟩|⟨g2,cap',cur',rfl,_,h2,_⟩
  ·simp[Value.ownBlock]at hg'
  ·simp[Value.ownBlock]at hg';subst hg';rw[h1]at h2;simp at h2;exact hne h2.2
theorem uO(ext:Nat->Prop)(wp:World)(base R:Nat)(vp:Nat->Value)(ep:Nat->List bU)(l:Value)(ps:List dM)(hB:cD (fun g=>ext g∨l.ownBlock=Y g∨fM ps 0 g) wp base R vp ep)(hl:wp.ownsRow base 172 2 l ps.length (ps.flatMap dM.cells))(hlen:ps.length<=1000000)(hd:∀j (h:j<ps.length),∃n xs,wp.ownsRow base 5 1 ps[j].d n xs/\n<=1000000)(hap:∀i j (hi:i<ps.length) (hj:j<ps.length),i≠j->∀g,ps[i].d.ownBlock=Y g->ps[j].d.ownBlock≠some g)(hxl:∀g,l.ownBlock=Y g->¬ext g)(hxd:∀g,fM ps 0 g->¬ext g)(hxn:∀g,wp.heap.size<=g->¬ext g)(hsm0:(ep 0).length+ps.length<=4194304)(hsm2:(ep 2).length<4194304):
  Calls pG 173 #[P0 (Y ⟨R,4,Z⟩),l] wp fun e w'=>e=.returned (.tuple #[])/\∃v' es',cD ext w' base R v' es'/\(es' 0).length=(ep 0).length+ps.length/\(es' 2).length=(ep 2).length+1/\(∀k,k≠0->k≠2->es' k=ep k/\v' k=vp k)/\(∀k g,(v' k).ownBlock=Y g->(vp k).ownBlock=Y g∨wp.heap.size<=g)/\aK (fun b=>b=R∨some b=(vp 0).ownBlock∨some b=(vp 2).ownBlock∨some b=l.ownBlock∨fM ps 0 b) wp w'/\∀i,i<4->w'.cell? ⟨R,i,Z⟩=wp.cell? ⟨R,i,Z⟩:=by
 obtain⟨la,lc,hle0⟩:=aO hl;have HB0:Hid _:=hB;have HD0:Hid _:=hd;have HL0:=aA hl;have HXL0:Hid _:=hxl;have HXD0:Hid _:=hxd;have HXN0:Hid _:=hxn;have HAP:Hid _:=hap;clear hB hd hl hxl hxd hxn hap;subst hle0;have hRp:R<wp.heap.size:=Nat.lt_of_lt_of_le HB0.out.lt HB0.out.le;have hbp:=HB0.out.le;have hRb:=HB0.out.lt;go_enter Tryz.func173,Tryz.ntmps173;go_wp2
 go_loopw [4] (fun ix wr=>∃(t:Nat) (v:Nat->Value) (es:Nat->List bU),t<=ps.length/\ix=I T t/\cD (fun g=>ext g∨(J la ps.length lc).ownBlock=Y g∨fM ps t g) wr base R v es/\(es 0).length=(ep 0).length+t/\(∀k,k≠0->es k=ep k/\v k=vp k)/\(∀g,(v 0).ownBlock=Y g->(vp 0).ownBlock=Y g∨wp.heap.size<=g)/\aK (fun b=>b=R∨some b=(vp 0).ownBlock∨∃j,j<t/\∃h:j<ps.length,ps[j].d.ownBlock=Y b) wp wr/\∀i,i<4->wr.cell? ⟨R,i,Z⟩=wp.cell? ⟨R,i,Z⟩) (fun ix _=>ps.length - (intOf ix).toNat)
 case atStart=>exact⟨0,vp,ep,by omega,rfl,HB0.out,rfl,fun k _=>⟨rfl,rfl⟩,fun g hg=>.inl hg,aK.refl _ _,fun _ _=>rfl⟩
 case round=>
  obtain⟨t,v,es,ht,rfl,hLed,he0,hoth,hv0,hkept,hcel⟩:=hrel;have hks:=hkept.size
  have hlr:wr.ownsRow base 172 2 (J la ps.length lc) ps.length (ps.flatMap dM.cells):=aH HL0.out (fun g hg=>hkept.block g (World.ownsRow.lt HL0.out g hg).2 (by
   rintro(h1|h1|⟨j,_,h2,h3⟩)
   ·have:=(World.ownsRow.lt HL0.out g hg).1;omega
   ·exact HB0.out.ex 0 (by omega) g h1.symm (.inr (.inl hg))
   ·obtain⟨n,xs,h4,_⟩:=HD0.out j h2;exact iU HL0.out h4 (by decide) g hg h3))
  by_cases htl:t<ps.length
  ·obtain⟨nd,xd,hdr,aA⟩:=HD0.out t htl
   have hdt:∀g,ps[t].d.ownBlock=Y g->¬(g=R∨some g=(vp 0).ownBlock∨∃j,j<t/\∃h:j<ps.length,ps[j].d.ownBlock=Y g):=by
    intro g hg;rintro(h1|h1|⟨j,h0,h2,h3⟩)
    ·have:=(hdr.lt g hg).1;omega
    ·exact HB0.out.ex 0 (by omega) g h1.symm (.inr (.inr ⟨t,by omega,htl,hg⟩))
    ·exact HAP.out j t h2 htl (by omega) g h3 hg
   have hdw:=aH hdr (fun g hg=>hkept.block g (hdr.lt g hg).2 (hdt g hg))
   have hL2:cD (fun g=>(ext g∨(J la ps.length lc).ownBlock=Y g∨fM ps (t+1) g)∨ps[t].d.ownBlock=Y g) wr base R v es:=hLed.shift (Nat.le_refl _) (fun _ _ _=>rfl) (fun g _ hx=>by
    rcases hx with(hx|hx|⟨j,h1,h2,h3⟩)|hx
    ·exact .inl hx
    ·exact .inr (.inl hx)
    ·exact .inr (.inr ⟨j,by omega,h2,h3⟩)
    ·exact .inr (.inr ⟨t,by omega,htl,hx⟩))
   obtain⟨gl,capl,hgl,_,hcc⟩:=(jA hlr (by omega));cases hgl;have j1:=hcc _ _ (mO ps t htl 1 (by omega));simp[dM.cells]at j1;have htl2:(t:Int)<(ps.length:Int):=by omega
   have hk1:=vJ (fun g=>ext g∨(J (Y ⟨gl,0,Z⟩) ps.length lc).ownBlock=Y g∨fM ps (t+1) g) wr base R v es ps[t].d nd xd hL2 hdw aA (by
     intro g hg;rintro(h1|h1|⟨j,h1,h2,h3⟩)
     ·exact HXD0.out g ⟨t,by omega,htl,hg⟩ h1
     ·exact iU hdw hlr (by decide) g hg h1
     ·exact HAP.out t j htl h2 (by omega) g hg h3) (by
     intro g hg;rintro(h1|h1|⟨j,h1,h2,h3⟩)
     ·exact HXN0.out g (by omega) h1
     ·have:=(hlr.lt g h1).2;omega
     ·obtain⟨n,xs,h4,_⟩:=HD0.out j h2;have:=(h4.lt g h3).2;omega) (by omega)
   have HK:Hid _:=hkept;have HH:Hid _:=hoth;have HV0:Hid _:=hv0;have HC:Hid _:=hcel;have HHD:Hid _:=hdt;clear hcc hL2 hLed hlr hdr hdw hkept hoth hv0 hcel hdt;generalize hD:ps[t].d=D at*
   go_wp2_with(first|(go_at_call 100;refine hk1.mono ?_;rintro e w' ⟨rfl,v',en,hL',hv',hkk,hcl⟩))
   go_roundw
   case rel=>
    refine⟨t+1,_,_,by omega,by go_num,hL',?_,?_,?_,?_,?_⟩
    ·rw[fU];simp;omega
    ·intro k hk;rw[eP _ _ hk,eP _ _ hk];exact HH.out k hk
    ·intro g hg;rw[fU]at hg;rcases hv' g hg with h1|h1
     ·exact HV0.out g h1
     ·exact .inr (by omega)
    ·refine HK.out.trans hkk (fun g hg=>?_) (fun g hgs hg=>?_)
     ·rcases hg with h1|h1|⟨j,h1,h2⟩
      ·exact .inl h1
      ·exact .inr (.inl h1)
      ·exact .inr (.inr ⟨j,by omega,h2⟩)
     ·rcases hg with h1|h1|h1
      ·exact .inl h1
      ·rcases HV0.out g h1.symm with h2|h2
       ·exact .inr (.inl h2.symm)
       ·omega
      ·exact .inr (.inr ⟨t,by omega,htl,by rw[hD];exact h1.symm⟩)
    ·intro i hi;rw[hcl i (by omega)];exact HC.out i hi
   case measure=>simp[intOf];omega
  obtain rfl:t=ps.length:=by omega
  have hB:cD (fun g=>ext g∨(J la ps.length lc).ownBlock=Y g) wr base R v es:=hLed.shift (Nat.le_refl _) (fun _ _ _=>rfl) (fun g _ hx=>by
   rcases hx with hx|hx
   ·exact .inl hx
   ·exact .inr (.inl hx))
  have hl:wr.ownsRow base 172 2 (J la ps.length lc) ps.length (ps.flatMap dM.cells):=hlr;have hsm:(es 2).length<4194304:=by rw[(hoth 2 (by omega)).1];exact hsm2
  have hxn:∀g,wr.heap.size<=g->¬ext g:=fun g hg=>HXN0.out g (by omega);have hxl:=HXL0.out
  have FINP:∀W',(∃v' en,cD ext W' base R (dV v 2 v') (dV es 2 ((es 2)++[en]))/\(∀g,v'.ownBlock=Y g->(v 2).ownBlock=Y g∨wr.heap.size<=g)/\aK (fun b=>b=R∨some b=(v 2).ownBlock∨some b=(J la ps.length lc).ownBlock) wr W'/\∀i,i≠6->W'.cell? ⟨R,i,Z⟩=wr.cell? ⟨R,i,Z⟩)->(Ending.returned (Value.tuple #[])=Ending.returned (Value.tuple #[])/\∃v' es',cD ext W' base R v' es'/\(es' 0).length=(ep 0).length+ps.length/\(es' 2).length=(ep 2).length+1/\(∀k,k≠0->k≠2->es' k=ep k/\v' k=vp k)/\(∀k g,(v' k).ownBlock=Y g->(vp k).ownBlock=Y g∨wp.heap.size<=g)/\aK (fun b=>b=R∨some b=(vp 0).ownBlock∨some b=(vp 2).ownBlock∨some b=(J la ps.length lc).ownBlock∨fM ps 0 b) wp W'/\∀i,i<4->W'.cell? ⟨R,i,Z⟩=wp.cell? ⟨R,i,Z⟩):=by
   rintro W' ⟨v',en,hL',hv',hkk,hcl⟩;refine⟨rfl,_,_,hL',?_,?_,?_,?_,?_,?_⟩
   ·rw[eP _ _ (by omega)];omega
   ·rw[fU,(hoth 2 (by omega)).1];simp
   ·intro k h0 h2;rw[eP _ _ h2,eP _ _ h2];exact hoth k h0
   ·intro k g hg
    by_cases h2:k=2
    ·subst h2;rw[fU]at hg;rcases hv' g hg with h3|h3
     ·exact .inl (by rw[←(hoth 2 (by omega)).2];exact h3)
     ·exact .inr (by omega)
    ·rw[eP _ _ h2]at hg
     by_cases h0:k=0
     ·subst h0;exact hv0 g hg
     ·exact .inl (by rw[←(hoth k h0).2];exact hg)
   ·refine hkept.trans hkk (fun g hg=>?_) (fun g hgs hg=>?_)
    ·rcases hg with h1|h1|⟨j,_,h1,h2⟩
     ·exact .inl h1
     ·exact .inr (.inl h1)
     ·exact .inr (.inr (.inr (.inr ⟨j,by omega,h1,h2⟩)))
    ·rcases hg with h1|h1|h1
     ·exact .inl h1
     ·exact .inr (.inr (.inl (by rw[←(hoth 2 (by omega)).2];exact h1)))
     ·exact .inr (.inr (.inr (.inl h1)))
   ·intro i hi;rw[hcl i (by omega)];exact hcel i hi
  have HFP:Hid (∀W',(∃v' en,cD ext W' base R (dV v 2 v') (dV es 2 ((es 2)++[en]))/\(∀g,v'.ownBlock=Y g->(v 2).ownBlock=Y g∨wr.heap.size<=g)/\aK (fun b=>b=R∨some b=(v 2).ownBlock∨some b=(J la ps.length lc).ownBlock) wr W'/\∀i,i≠6->W'.cell? ⟨R,i,Z⟩=wr.cell? ⟨R,i,Z⟩)->(Ending.returned (Value.tuple #[])=Ending.returned (Value.tuple #[])/\∃v' es',cD ext W' base R v' es'/\(es' 0).length=(ep 0).length+ps.length/\(es' 2).length=(ep 2).length+1/\(∀k,k≠0->k≠2->es' k=ep k/\v' k=vp k)/\(∀k g,(v' k).ownBlock=Y g->(vp k).ownBlock=Y g∨wp.heap.size<=g)/\aK (fun b=>b=R∨some b=(vp 0).ownBlock∨some b=(vp 2).ownBlock∨some b=(J la ps.length lc).ownBlock∨fM ps 0 b) wp W'/\∀i,i<4->W'.cell? ⟨R,i,Z⟩=wp.cell? ⟨R,i,Z⟩)):=by
   exact FINP
  clear hLed hlr hkept hcel hv0 htl hoth FINP HB0 HD0 HL0 HXL0 HXD0 HXN0 HAP hsm0 hsm2 he0;obtain⟨w,hw⟩:∃w,w=wr:=⟨_,rfl⟩;subst hw;obtain⟨i0,hi0,hz0,hz1,hz2⟩:=info_parts FL;obtain⟨la',lc',hle,hrow⟩:=dN hl;cases hle;obtain⟨av,cv,hvs,hrv⟩:=dN (hB.own 2 (by omega));have hRw:R<w.heap.size:=Nat.lt_of_lt_of_le hB.lt hB.le;have hRb:=hB.lt;have hbw:=hB.le;have hc4:=(hB.cell 2 (by omega)).trans (by rw[hvs]);have HB:Hid _:=hB;have HV:Hid _:=hvs;have HXL:Hid _:=hxl;have HXN:Hid _:=hxn;have HL:Hid _:=hl;clear hB hrv hvs hxl hxn;have hl0:(w.alloc (G #[I T (-1000 - ((es 2).length:Int)),J Z 0 0] 172)).ownsRow base 172 2 (J la ps.length lc) ps.length (ps.flatMap dM.cells):=hl.alloc _;have hs0:(w.alloc (G #[I T (-1000 - ((es 2).length:Int)),J Z 0 0] 172)).heap.size=w.heap.size+1:=by simp
  have hg0:w.grownBy (w.alloc (G #[I T (-1000 - ((es 2).length:Int)),J Z 0 0] 172)) none:=World.grownBy_alloc w _ _;have hX0:∀i,(w.alloc (G #[I T (-1000 - ((es 2).length:Int)),J Z 0 0] 172)).cell? ⟨w.heap.size,i,Z⟩=#[I T (-1000 - ((es 2).length:Int)),J Z 0 0][i]?:=fun i=>World.cell?_alloc_at _ _ _ _ rfl;have hXl:Value.ownBlock (J la ps.length lc)≠some w.heap.size:=fun hh=>by have:=(hl.lt _ hh).2;omega
  clear hl;go_wp2;generalize (w.alloc (G #[I T (-1000 - ((es 2).length:Int)),J Z 0 0] 172))=W0 at*
  go_loopw [7] (fun ix wr=>∃(t:Nat) (ys:List Value),t<=ps.length/\ix=I T t/\wr.ownsRow base 172 2 (J la ps.length lc) ps.length ys/\(∀j,j<t*2->ys[j]?=Y (vP (es 2).length j))/\W0.grownBy wr (Value.ownBlock (J la ps.length lc))) (fun ix _=>ps.length - (intOf ix).toNat)
  case atStart=>exact⟨0,(ps.flatMap dM.cells),by omega,rfl,hl0,fun j hj=>by omega,rfl,rfl,rfl,Nat.le_refl _,fun _ _ _=>rfl⟩
  case round=>
   obtain⟨t,ys,ht,rfl,ho,hys,hgr⟩:=hrel;have HO:=aA ho;have HY:Hid _:=hys;have HG:Hid _:=hgr;have hyl:ys.length=ps.length*2:=ho.1;have hgs:=hgr.size;have hXr:∀i,wr.cell? ⟨w.heap.size,i,Z⟩=#[I T (-1000 - ((es 2).length:Int)),J Z 0 0][i]?:=fun i=>(World.cell?_of_block (w:=W0) (a:=⟨w.heap.size,i,Z⟩) (hgr.block _ (by show w.heap.size<_;omega) (Ne.symm hXl))).trans (hX0 i);clear ho hys hgr hc4
   by_cases htl:t<ps.length
   ·obtain⟨gl,rfl,hgl1,hgl2,_⟩:=hrow.resolve_left (by omega);have hct0:=HO.out.cellAt (t*2) (by omega);rw[List.getElem?_eq_getElem (by omega)]at hct0;have hft0:=HO.out.frozenAt (t*2);have hct1:=HO.out.cellAt (t*2+1) (by omega);rw[List.getElem?_eq_getElem (by omega)]at hct1;have hft1:=HO.out.frozenAt (t*2+1);have htl2:(t:Int)<(ps.length:Int):=by omega
    have m0:=hXr 0;have m1:=hXr 1;simp at m0 m1;go_wp2;obtain⟨ho0,hgg0⟩:=gX HO.out (t*2) (I T (-1000 - ((es 2).length:Int)));obtain⟨ho1,hgg1⟩:=gX ho0 (t*2+1) (J Z 0 0);have ho2:=ho1;have hg2:=(eX hgg0 hgg1)
    go_roundw
    case rel=> 
     refine⟨t+1,_,by omega,by go_num,ho2,fun j hj=>?_,?_⟩
     ·by_cases hjt:j<t*2
      ·rw[List.getElem?_set_ne (by omega),List.getElem?_set_ne (by omega)];exact HY.out j hjt
      ·rcases(show j=t*2∨j=t*2+1 by omega) with rfl|rfl
       ·rw[List.getElem?_set_ne (by omega),List.getElem?_set_self (by(try simp);omega)];unfold vP;rw[if_pos (by omega)]
       ·rw[List.getElem?_set_self (by(try simp);omega)];unfold vP;rw[if_neg (by omega)]
     ·exact eX HG.out hg2
    case measure=>simp[intOf];omega
   ·obtain rfl:t=ps.length:=by omega
    have hK0:KC 2 172 base wr (J la ps.length lc) ps.length ys (wr.alloc (G #[J la ps.length lc,J Z 0 0,J Z 0 0,J Z 0 0,I T (es 2).length] 156)) [J la ps.length lc,J Z 0 0,J Z 0 0,J Z 0 0,I T (es 2).length]:=
     ⟨HO.out.alloc _,fun i=>(World.cell?_alloc_at _ _ _ _ rfl).trans (by simp),fun i=>by simp,World.grownBy_alloc wr _ _,by simp,fun hh=>by have:=(HO.out.lt _ hh).2;omega⟩
    have hbr:base<=wr.heap.size:=by omega
    have HK0:Hid _:=hK0;clear hK0;have hx1:∀i,(wr.alloc (G #[J la ps.length lc,J Z 0 0,J Z 0 0,J Z 0 0,I T (es 2).length] 156)).cell? ⟨w.heap.size,i,Z⟩=#[I T (-1000 - ((es 2).length:Int)),J Z 0 0][i]?:=fun i=>(World.cell?_of_block (w:=wr) (a:=⟨w.heap.size,i,Z⟩) (HK0.out.old (by show w.heap.size<_;omega) hXl)).trans (hXr i);have m0:=hx1 0;have m1:=hx1 1;simp at m0 m1;clear hx1
    go_wp2_with(first|(at_builtin;go_loud (refine gR rfl _ _ 118 rfl base 172 i0 (.agg #[I T 0,J Z 0 0]) 2 32 (by omega) Tryz.underlying118 hi0 hz0 hz1 hz2 rfl (vP (es 2).length) (pC (es 2).length) _ ps.length ys rfl (HK0.out.own.alloc _) HY.out ⟨wr.heap.size+1,0,Z⟩ 1 1 (by omega) rfl ?c1 ?c2 ?c3 ?c4 ?_)))
    case c1=> 
     intro j hj;rw[Go.WideShapes.add_plain,World.cell?_alloc_at _ _ _ _ (by simp[bL])];rcases(show j=0∨j=1 by omega) with rfl|rfl
     ·unfold vP;rw[if_pos (by omega)];rfl
     ·unfold vP;rw[if_neg (by omega)];rfl
    case c2=>unfold maxLen;omega
    case c3=>omega
    case c4=>have:=HK0.out.lt;simp at this⊢;omega
    intro g1 cp1 x1 ho hg hb1 hb2 hb3 hma hall
    skip
    clear m0 m1;obtain⟨hsp,hfr⟩:=HK0.out.spot _ hg;have s1:=hsp 1;have f1:=hfr 1;simp at s1;have q1:wr.heap.size<x1.heap.size:=by have h1:=HK0.out.lt;have h2:=hg.size;simp at h1 h2;omega
    have hK1:=HK0.out.next _ ho hg 1 (by simp) (J (Y ⟨g1,0,Z⟩) (ps.length+1) cp1);have hz1':(wr.alloc (G #[J la ps.length lc,J Z 0 0,J Z 0 0,J Z 0 0,I T (es 2).length] 156)).heap.size+1<=x1.heap.size:=by have:=hg.size;simpa using this
    have hA1:=AM.newC HK0.out hb1 hb2 (by rcases hb3 with h|h;exact .inl h;exact .inr (by simp[bL]at h⊢;omega)) hma 1 (J (Y ⟨g1,0,Z⟩) (ps.length+1) cp1);clear hsp hfr ho hg hb1 hb2 hb3 hma hall;have HA1:Hid _:=hA1;clear hA1;have HK1:Hid _:=hK1;clear hK1;have hx2:∀i,(x1.setCell ⟨wr.heap.size,1,Z⟩ (J (Y ⟨g1,0,Z⟩) (ps.length+1) cp1)).cell? ⟨w.heap.size,i,Z⟩=#[I T (-1000 - ((es 2).length:Int)),J Z 0 0][i]?:=fun i=>(World.cell?_of_block (w:=wr) (a:=⟨w.heap.size,i,Z⟩) (HK1.out.old (by show w.heap.size<_;omega) hXl)).trans (hXr i);have m0:=hx2 0;have m1:=hx2 1;simp at m0 m1;clear hx2
    go_wp2_with(first|(at_builtin;go_loud (refine gR rfl _ _ 118 rfl base 172 i0 (.agg #[I T 0,J Z 0 0]) 2 32 (by omega) Tryz.underlying118 hi0 hz0 hz1 hz2 rfl (vP (es 2).length) (pC (es 2).length) _ ps.length ys rfl (HK1.out.own.alloc _) HY.out ⟨x1.heap.size,0,Z⟩ 2 2 (by omega) rfl ?c1 ?c2 ?c3 ?c4 ?_)))
    case c1=> 
     intro j hj;rw[Go.WideShapes.add_plain,World.cell?_alloc_at _ _ _ _ (by simp[bL])];rcases(show j=0∨j=1∨j=2∨j=3 by omega) with rfl|rfl|rfl|rfl
     ·unfold vP;rw[if_pos (by omega)];rfl
     ·unfold vP;rw[if_neg (by omega)];rfl
     ·unfold vP;rw[if_pos (by omega)];rfl
     ·unfold vP;rw[if_neg (by omega)];rfl
    case c2=>unfold maxLen;omega
    case c3=>omega
    case c4=>have:=HK1.out.lt;simp at this⊢;omega
    intro g2 cp2 x2 ho hg hb1 hb2 hb3 hma hall;clear s1 f1;clear m0 m1;obtain⟨hsp,hfr⟩:=HK1.out.spot _ hg;have s1:=hsp 2;have f1:=hfr 2;simp at s1;have q1:wr.heap.size<x2.heap.size:=by have h1:=HK1.out.lt;have h2:=hg.size;simp at h1 h2;omega
    have hK2:=HK1.out.next _ ho hg 2 (by simp) (J (Y ⟨g2,0,Z⟩) (ps.length+2) cp2);have hz2':(x1.setCell ⟨wr.heap.size,1,Z⟩ (J (Y ⟨g1,0,Z⟩) (ps.length+1) cp1)).heap.size+1<=x2.heap.size:=by have:=hg.size;simpa using this
    have hA2:=AM.newC HK1.out hb1 hb2 (by rcases hb3 with h|h;exact .inl h;exact .inr (by simp[bL]at h⊢;omega)) hma 2 (J (Y ⟨g2,0,Z⟩) (ps.length+2) cp2);have hA1:=HA1.out.nextC _ hz2' (by simp[bL];try omega) hall (by omega) 2 (J (Y ⟨g2,0,Z⟩) (ps.length+2) cp2);clear HA1;clear hsp hfr ho hg hb1 hb2 hb3 hma hall;have HA1:Hid _:=hA1;clear hA1;have HA2:Hid _:=hA2;clear hA2;have HK2:Hid _:=hK2;clear hK2;have hx3:∀i,(x2.setCell ⟨wr.heap.size,2,Z⟩ (J (Y ⟨g2,0,Z⟩) (ps.length+2) cp2)).cell? ⟨w.heap.size,i,Z⟩=#[I T (-1000 - ((es 2).length:Int)),J Z 0 0][i]?:=fun i=>(World.cell?_of_block (w:=wr) (a:=⟨w.heap.size,i,Z⟩) (HK2.out.old (by show w.heap.size<_;omega) hXl)).trans (hXr i);have m0:=hx3 0;have m1:=hx3 1;simp at m0 m1;clear hx3
    go_wp2_with(first|(at_builtin;go_loud (refine gR rfl _ _ 118 rfl base 172 i0 (.agg #[I T 0,J Z 0 0]) 2 32 (by omega) Tryz.underlying118 hi0 hz0 hz1 hz2 rfl (vP (es 2).length) (pC (es 2).length) _ ps.length ys rfl (HK2.out.own.alloc _) HY.out ⟨x2.heap.size,0,Z⟩ 3 3 (by omega) rfl ?c1 ?c2 ?c3 ?c4 ?_)))
    case c1=> 
     intro j hj;rw[Go.WideShapes.add_plain,World.cell?_alloc_at _ _ _ _ (by simp[bL])];rcases(show j=0∨j=1∨j=2∨j=3∨j=4∨j=5 by omega) with rfl|rfl|rfl|rfl|rfl|rfl
     ·unfold vP;rw[if_pos (by omega)];rfl
     ·unfold vP;rw[if_neg (by omega)];rfl
     ·unfold vP;rw[if_pos (by omega)];rfl
     ·unfold vP;rw[if_neg (by omega)];rfl
     ·unfold vP;rw[if_pos (by omega)];rfl
     ·unfold vP;rw[if_neg (by omega)];rfl
    case c2=>unfold maxLen;omega
    case c3=>omega
    case c4=>have:=HK2.out.lt;simp at this⊢;omega
    intro g3 cp3 x3 ho hg hb1 hb2 hb3 hma hall;clear s1 f1;clear m0 m1;obtain⟨hsp,hfr⟩:=HK2.out.spot _ hg;have s1:=hsp 3;have f1:=hfr 3;simp at s1;have q1:wr.heap.size<x3.heap.size:=by have h1:=HK2.out.lt;have h2:=hg.size;simp at h1 h2;omega
    have hK3:=HK2.out.next _ ho hg 3 (by simp) (J (Y ⟨g3,0,Z⟩) (ps.length+3) cp3);have hz3':(x2.setCell ⟨wr.heap.size,2,Z⟩ (J (Y ⟨g2,0,Z⟩) (ps.length+2) cp2)).heap.size+1<=x3.heap.size:=by have:=hg.size;simpa using this
    have hA3:=AM.newC HK2.out hb1 hb2 (by rcases hb3 with h|h;exact .inl h;exact .inr (by simp[bL]at h⊢;omega)) hma 3 (J (Y ⟨g3,0,Z⟩) (ps.length+3) cp3);have hA1:=HA1.out.nextC _ hz3' (by simp[bL];try omega) hall (by omega) 3 (J (Y ⟨g3,0,Z⟩) (ps.length+3) cp3);clear HA1;have hA2:=HA2.out.nextC _ hz3' (by simp[bL];try omega) hall (by omega) 3 (J (Y ⟨g3,0,Z⟩) (ps.length+3) cp3);clear HA2;clear hsp hfr ho hg hb1 hb2 hb3 hma hall;have HA1:Hid _:=hA1;clear hA1;have HA2:Hid _:=hA2;clear hA2;have HA3:Hid _:=hA3;clear hA3;have HK3:Hid _:=hK3;clear hK3
    go_wp2_with fail
    generalize x3.setCell ⟨wr.heap.size,3,Z⟩ (J (Y ⟨g3,0,Z⟩) (ps.length+3) cp3)=y at*;clear s1 f1 hz1' hz2' hz3';obtain⟨i5,hi5,hy0,hy1,hy2⟩:=info_parts FI;have b0:=HK3.out.box 0;have b1:=HK3.out.box 1;have b2:=HK3.out.box 2;have b3:=HK3.out.box 3;have b4:=HK3.out.box 4;simp at b0 b1 b2 b3 b4;have hgy0:=eX (eX (nY hg0) HG.out) HK3.out.gr;have hwy:=hgy0.size;have HBk:=aA (HB.out.shift hgy0.size (fun g h1 h2=>hgy0.block g h1 (fun hh=>h2 (.inr hh.symm))) (fun g _ hx=>.inl hx));have hRy:=(HBk.out.cell 2 (by omega)).trans (by rw[HV.out]);have hRf:=HBk.out.free 6;have OB:Hid (y.ownsRow base 156 5 (J av (es 2).length cv) (es 2).length ((es 2).flatMap bU.cells)):=by have:=HBk.out.own 2 (by omega);rw[HV.out]at this;exact this
    have hbase:=HBk.out.le;have hRlt:R<y.heap.size:=Nat.lt_of_lt_of_le HBk.out.lt hbase;have hXy:=HK3.out.lt;clear hrow
    go_region_law (refine gC rfl (.tmp 65) (.tmp 67) 84 rfl base 156 i5 (.agg #[J Z 0 0,J Z 0 0,J Z 0 0,J Z 0 0,I T 0]) 5 104 Tryz.underlying84 hi5 hy0 hy1 hy2 rfl (by decide) (J av (es 2).length cv) (es 2).length ((es 2).flatMap bU.cells) (by simp[Act.eval]) (by exact(World.ownsRow.alloc OB.out _).drew) ⟨y.heap.size,0,Z⟩ 1 1 [J la ps.length lc,J (Y ⟨g1,0,Z⟩) (ps.length+1) cp1,J (Y ⟨g2,0,Z⟩) (ps.length+2) cp2,J (Y ⟨g3,0,Z⟩) (ps.length+3) cp3,I T (es 2).length] (by omega) (by simp[Act.eval]) rfl (by intro j u hu;rw[Go.WideShapes.add_plain];refine(World.cell?_alloc_at _ _ _ _ rfl).trans ?_;simpa using hu) (by intro u hu;simp at hu;rcases hu with rfl|rfl|rfl|rfl|rfl<;>rfl) (by unfold maxLen;omega) (by omega) (by show _<=(World.alloc _ _).heap.size;simp;omega) ?_;intro v' w' ho' hg' hloc;obtain⟨va,vc,rfl⟩:=aO ho';have hRo:some R≠Value.ownBlock (J av (es 2).length cv):=(fun hh=>by have h1:=(OB.out.lt R hh.symm).1;have h2:=HBk.out.lt;omega);have hRb2:w'.heap[R]?=y.heap[R]?:=(hg'.block R (by show _<(World.alloc _ _).heap.size;simp;omega) hRo).trans (heap_alloc_old y _ hRlt);have hRw1:w'.cell? ⟨R,6,Z⟩=Y (J av (es 2).length cv):=((World.cell?_of_block (w:=y) (a:=⟨R,6,Z⟩) hRb2).trans hRy);have hRw2:w'.frozen? ⟨R,6,Z⟩=false:=((World.frozen?_of_block (w:=y) (a:=⟨R,6,Z⟩) hRb2).trans hRf))
    all_goals go_wp2
    all_goals refine bodyPost_end (v:=.tuple #[]) (by simp[results,Tryz.results173,go_sem]) rfl ?_
    all_goals
     have hgy:y.grownBy w' (Value.ownBlock (J av (es 2).length cv)):=⟨hg'.os,hg'.tape,hg'.output,Nat.le_trans (by show _<=(World.alloc _ _).heap.size;simp) hg'.size,fun k hk hne=>(hg'.block k (by show _<(World.alloc _ _).heap.size;simp;omega) hne).trans (heap_alloc_old y _ hk)⟩
     have hlocy:∃g,Value.ownBlock (J va ((es 2).length+1) vc)=Y g/\(Value.ownBlock (J av (es 2).length cv)=Y g∨y.heap.size<=g):=by
      obtain⟨g',h1,h2⟩:=hloc;refine⟨g',h1,?_⟩;rcases h2 with h2|⟨h2,_⟩
      ·exact .inl h2
      ·exact .inr (Nat.le_trans (by show _<=(World.alloc _ _).heap.size;simp) h2)
     have hextn:∀g,y.heap.size<=g->¬ext g:=fun g hg=>HXN.out g (by omega)
     have hbadg:∀g,base<=g->(Value.ownBlock (J la ps.length lc)=Y g∨wr.heap.size<=g)->¬fC ext v g:=by
      intro g h1 h2 h3;rcases h3 with⟨q,hq,h3⟩|h3
      ·rcases h2 with h2|h2
       ·exact HB.out.ex q hq g h3 (.inr h2)
       ·have:=(HB.out.low hq h3).2;omega
      ·rcases h2 with h2|h2
       ·exact HXL.out g h2 h3
       ·exact HXN.out g (by omega) h3
     have am:∀g k,AM base wr (J la ps.length lc) (vP (es 2).length) (k*2) y g->∀cp,k<=4194304->dU 2 (vP (es 2).length) y base (fC ext v) (J (Y ⟨g,0,Z⟩) k cp):=by
      intro g k hA cp hk;exact⟨_,_,_,rfl,hk,.inr ⟨g,rfl,hA.low,hA.lt,hbadg g hA.low hA.is,hA.ma⟩⟩
     have hsl:dU 2 (vP (es 2).length) y base (fC ext v) (J la ps.length lc):=by
      refine⟨la,ps.length,lc,rfl,by omega,?_⟩;obtain⟨la',lc',he,hrow'⟩:=dN HK3.out.own;cases he;rcases hrow' with h0|⟨g,h1,h2,h3,h4⟩
      ·exact .inl h0
      ·exact .inr ⟨g,h1,h2,h3,hbadg g h2 (.inl (by rw[h1];rfl)),fun j hj=>h4 j _ (HY.out j hj)⟩
     have hen:jC 2 y base (fC ext v) ⟨J la ps.length lc,J (Y ⟨g1,0,Z⟩) (ps.length+1) cp1,J (Y ⟨g2,0,Z⟩) (ps.length+2) cp2,J (Y ⟨g3,0,Z⟩) (ps.length+3) cp3,(es 2).length⟩:=⟨hsl,am g1 _ HA1.out cp1 (by omega),am g2 _ HA2.out cp2 (by omega),am g3 _ HA3.out cp3 (by omega)⟩
     suffices FIN:∃v' en,cD ext (w'.setCell ⟨R,6,Z⟩ (J va ((es 2).length+1) vc)) base R (dV v 2 v') (dV es 2 ((es 2)++[en]))/\(∀g,v'.ownBlock=Y g->(v 2).ownBlock=Y g∨w.heap.size<=g)/\aK (fun b=>b=R∨some b=(v 2).ownBlock∨some b=(J la ps.length lc).ownBlock) w (w'.setCell ⟨R,6,Z⟩ (J va ((es 2).length+1) vc))/\∀i,i≠6->(w'.setCell ⟨R,6,Z⟩ (J va ((es 2).length+1) vc)).cell? ⟨R,i,Z⟩=w.cell? ⟨R,i,Z⟩ from⟨rfl,(HFP.out _ FIN).2⟩
     refine⟨J va ((es 2).length+1) vc,⟨J la ps.length lc,J (Y ⟨g1,0,Z⟩) (ps.length+1) cp1,J (Y ⟨g2,0,Z⟩) (ps.length+2) cp2,J (Y ⟨g3,0,Z⟩) (ps.length+3) cp3,(es 2).length⟩,?_,?_,?_,?_⟩
     ·exact HBk.out.push 2 (by omega) _ _ rfl ho' (by rw[HV.out];exact hgy) (by rw[HV.out];exact hlocy) hen hextn hsm
     ·intro g hg;obtain⟨g',h1,h2⟩:=hlocy;rw[h1]at hg;obtain rfl:g'=g:=by simpa using hg
      rcases h2 with h2|h2
      ·exact .inl (by rw[HV.out];exact h2)
      ·exact .inr (by omega)
     ·have hgs:=iZ w' ⟨R,6,Z⟩ (J va ((es 2).length+1) vc);refine⟨hgs.os.trans (hgy.os.trans hgy0.os),hgs.tape.trans (hgy.tape.trans hgy0.tape),hgs.output.trans (hgy.output.trans hgy0.output),Nat.le_trans hwy (Nat.le_trans hgy.size hgs.size),fun k hk hA=>?_⟩;have hk3:=hgy.size;exact(hgs.block k (by omega) (fun hh=>hA (.inl (by simpa using hh)))).trans ((hgy.block k (by omega) (fun hh=>hA (.inr (.inl (by rw[HV.out];exact hh))))).trans (hgy0.block k hk (fun hh=>hA (.inr (.inr hh)))))
     ·intro i hi;rw[World.cell?_setCell_other _ _ _ _ (by intro hh;have:=congrArg Addr.off hh;simp at this;omega)];have hRl:some R≠Value.ownBlock (J la ps.length lc):=fun hh=>by have:=(World.ownsRow.lt HL.out R hh.symm).1;omega
      exact(World.cell?_of_block (w:=y) (a:=⟨R,i,Z⟩) hRb2).trans (World.cell?_of_block (w:=w) (a:=⟨R,i,Z⟩) (hgy0.block R hRw hRl))
theorem mD(x:Value)(n base:Nat)(bad:Nat->Prop)(w:World)(hn:n<=4611686018427387904)(h:dU 2 (vP n) w base bad x):
  Calls pG 73 #[x,I T n] w fun e w'=>e=.returned (.bool true)/\Below w.heap.size w w':=by
 obtain⟨a,len,cp,rfl,hl,hc⟩:=h;go_enter Tryz.func73,Tryz.ntmps73;go_wp2
 go_loopw [5] (fun i wr=>∃t m:Nat,t<=len/\i=I T t/\wr=w.drewN m) (fun i _=>len - (intOf i).toNat)
 case atStart=>exact⟨0,0,by omega,rfl,rfl⟩
 case round=>
  obtain⟨t,m,ht,rfl,rfl⟩:=hrel
  by_cases htl:t<len
  ·obtain⟨g,rfl,_,_,_,hcc⟩:=hc.resolve_left (by omega);have j0:=(hcc (t*2) (by omega)).trans (by unfold vP;rw[if_pos (by omega)]);have j1:=(hcc (t*2+1) (by omega)).trans (by unfold vP;rw[if_neg (by omega)]);have htl2:(t:Int)<(len:Int):=by omega
   clear hcc;go_wp2
   go_roundw
   case rel=>exact⟨t+1,m,by omega,by go_num,rfl⟩
   case measure=>simp[intOf];omega
  ·clear hc;go_wp2;go_ret;exact⟨rfl,below_drewN (Below.refl _ _) _⟩
theorem mE(x:Value)(n base:Nat)(bad:Nat->Prop)(w:World)(hn:n<=4611686018427387904)(h:dU 3 (vR n) w base bad x):
  Calls pG 74 #[x,I T n] w fun e w'=>e=.returned (.bool true)/\Below w.heap.size w w':=by
 obtain⟨a,len,cp,rfl,hl,hc⟩:=h;go_enter Tryz.func74,Tryz.ntmps74;go_wp2
 go_loopw [5] (fun i wr=>∃t m:Nat,t<=len/\i=I T t/\wr=w.drewN m) (fun i _=>len - (intOf i).toNat)
 case atStart=>exact⟨0,0,by omega,rfl,rfl⟩
 case round=>
  obtain⟨t,m,ht,rfl,rfl⟩:=hrel
  by_cases htl:t<len
  ·obtain⟨g,rfl,_,_,_,hcc⟩:=hc.resolve_left (by omega);have j0:=(hcc (t*3) (by omega)).trans (by unfold vR;rw[if_pos (by omega)]);have j1:=(hcc (t*3+1) (by omega)).trans (by unfold vR;rw[if_neg (by omega)]);have j2:=(hcc (t*3+2) (by omega)).trans (by unfold vR;rw[if_neg (by omega)]);have htl2:(t:Int)<(len:Int):=by omega
   clear hcc;go_wp2
   go_roundw
   case rel=>exact⟨t+1,m,by omega,by go_num,rfl⟩
   case measure=>simp[intOf];omega
  ·clear hc;go_wp2;go_ret;exact⟨rfl,below_drewN (Below.refl _ _) _⟩
theorem mF(x:Value)(n base:Nat)(bad:Nat->Prop)(w:World)(hn:n<=4611686018427387904)(h:dU 5 (vS n) w base bad x):
  Calls pG 75 #[x,I T n] w fun e w'=>e=.returned (.bool true)/\Below w.heap.size w w':=by
 obtain⟨a,len,cp,rfl,hl,hc⟩:=h;go_enter Tryz.func75,Tryz.ntmps75;go_wp2
 go_loopw [5] (fun i wr=>∃t m:Nat,t<=len/\i=I T t/\wr=w.drewN m) (fun i _=>len - (intOf i).toNat)
 case atStart=>exact⟨0,0,by omega,rfl,rfl⟩
 case round=>
  obtain⟨t,m,ht,rfl,rfl⟩:=hrel
  by_cases htl:t<len
  ·obtain⟨g,rfl,_,_,_,hcc⟩:=hc.resolve_left (by omega);have j0:=(hcc (t*5) (by omega)).trans (by unfold vS;rw[if_pos (by omega)]);have j1:=(hcc (t*5+1) (by omega)).trans (by unfold vS;rw[if_neg (by omega)]);have j2:=(hcc (t*5+2) (by omega)).trans (by unfold vS;rw[if_neg (by omega)]);have j3:=(hcc (t*5+3) (by omega)).trans (by unfold vS;rw[if_neg (by omega)]);have j4:=(hcc (t*5+4) (by omega)).trans (by unfold vS;rw[if_neg (by omega)]);have htl2:(t:Int)<(len:Int):=by omega
   clear hcc;go_wp2
   go_roundw
   case rel=>exact⟨t+1,m,by omega,by go_num,rfl⟩
   case measure=>simp[intOf];omega
  ·clear hc;go_wp2;go_ret;exact⟨rfl,below_drewN (Below.refl _ _) _⟩
end
end Go.Proofs.YtdcainmlcpafbaaGreatDoor
