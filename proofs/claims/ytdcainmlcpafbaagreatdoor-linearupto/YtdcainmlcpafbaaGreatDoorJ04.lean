import Derived.Test.YtdcainmlcpafbaaGreatDoorJ03
import Derived.Laws.CopyOwn
import Derived.Lib.BufferWrite
import Derived.Lib.LazyBuf
set_option linter.all false
set_option maxHeartbeats 8000000
set_option maxRecDepth 20000
namespace Go.Proofs.YtdcainmlcpafbaaGreatDoor
open Go.RowKit
open Value renaming slice->J,pointer->P0
open Tryz
open Tryz renaming prog->pG
open IntKind renaming i64->T
open Option renaming none->Z,some->Y
open Obj renaming cells->G
open Value (bool)
def BE(fs:List FD)(j:Nat):(fs.flatMap FD.cells)[j]?=if h:j / 3<fs.length then some (fs[j / 3].cells.getD (j%3) undef) else none:=by
 by_cases h:j / 3<fs.length;·rw[dif_pos h];have:=kS fs (j / 3) h (j%3) oG;rwa[show j / 3*3+j%3=j by omega]at this
 ·rw[dif_neg h,List.getElem?_eq_none (by rw[BC];omega)]
def KJ(fs:List FD)(i:Nat)(h:i<fs.length)(k:Nat)(l:k<3)(f':FD)(e:∀b,b<3->b≠k->f'.cells.getD b undef=fs[i].cells.getD b undef):(fs.flatMap FD.cells).set (i*3+k) (f'.cells.getD k undef)=(fs.set i f').flatMap FD.cells:=by
 apply List.ext_getElem?;intro j;rw[BE (fs.set i f') j];by_cases f:j=i*3+k;·subst f;rw[List.getElem?_set_self (by rw[BC];omega)];have c:(i*3+k) / 3=i:=oG;have g:(i*3+k)%3=k:=oG;rw[dif_pos (by rw[List.length_set,c];exact h)];simp only[c,g,List.getElem_set_self]
 ·rw[List.getElem?_set_ne oG,BE fs j];by_cases a:j / 3<fs.length
  ·rw[dif_pos a,dif_pos (by rw[List.length_set];exact a)];by_cases hi:j / 3=i;·have d:j%3≠k:=oG;have:=e (j%3) oG d;simp only[hi,List.getElem_set_self];rw[this]
   ·rw[List.getElem_set_ne oG]
  ·rw[dif_neg a,dif_neg (by rw[List.length_set];exact a)]
def DS.jw{ty e:TypeId}{low:Nat}{w:World}{S g c:Nat}{fs:List FD}{left:Int}(h:DS ty e low w S (J (Y ⟨g,0,Z⟩) fs.length c) fs left)(b:S≠g)(i:Nat)(hi:i<fs.length)(k:Nat)(d:k<3)(f':FD)(f:∀a,a<3->a≠k->f'.cells.getD a undef=fs[i].cells.getD a undef):DS ty e low (w.setCell ⟨g,i*3+k,Z⟩ (f'.cells.getD k undef)) S (J (Y ⟨g,0,Z⟩) fs.length c) (fs.set i f') left:=by refine⟨((dI.setCell w ⟨g,i*3+k,Z⟩ _).block S b).trans h.st,?_⟩;have:=(h.row.stored (i*3+k) (f'.cells.getD k undef)).1;rw[KJ fs i hi k d f' f]at this;rw[List.length_set];exact this
def fU.mono{A B:Nat->Prop}{w w':World}(h:fU A w w')(a:∀b,A b->B b):fU B w w':=⟨h.os,h.tape,h.output,h.size,λk c d=>h.block k c (λe=>d (a k e))⟩
def tW{w:World}{base e n g c:Nat}{xs:List Value}(h:w.ownsRow base e 3 (J (Y ⟨g,0,Z⟩) n c) n xs):∃a,w.heap[g]?=Y (.cells a e (0,0)):=by
 rcases h.2 with⟨b,_⟩|⟨g',d,a,b,_,f,_⟩;·cases b
 ·cases b;exact⟨a,f⟩
def eC.drew{ty e:TypeId}{low S:Nat}{w w':World}{v:Value}{fs':List FD}{left':Int}(h:eC ty e low w S v fs' left' w'):eC ty e low w S v fs' left' w'.drew:=by obtain⟨v',b,a,c⟩:=h;exact⟨v',b.drew,⟨a.os,a.tape,a.output,a.size,a.block⟩,c⟩
def fM(fs:List FD)(nm:List UInt8):List FD:=match gU fs nm with
 |none=>fs
 |some i=>fs.set i ⟨(fs.getD i jG).n,(fs.getD i jG).d,(fs.getD i jG).d.length⟩
def eO(fs:List FD)(nm dt:List UInt8):List FD:=match gU fs nm with
 |none=>fs++[⟨nm,dt,0⟩]
 |some i=>fs.set i ⟨(fs.getD i jG).n,(fs.getD i jG).d++dt,(fs.getD i jG).s⟩
def H0(low D H S:Nat)(v:Value)(fs:List FD)(e:List UInt8)(w:World)(c:fQ w D H S)(h:DS 98 107 low w S v fs 0):Calls pG 34 #[P0 (Y ⟨D,0,Z⟩),.string (dE e)] w λr w'=>r=.returned (.bool false)/\eC 98 107 low w S v fs (dL 0) w':=by have cd:=c.cd;clear c;go_enter func34,ntmps34;go_wp2_with fail;refine(oQ low S v fs 0 w h oG).mono ?_;rintro r w1 ⟨rfl,b⟩;obtain⟨d,a,f⟩:=oU h dG w1 b;clear b;rw[show decide ((0:Int)≠0)=false from rfl];have g:Hid _:=eC.same d a;clear d a h;go_wp2;go_ret;exact⟨rfl,g⟩
def KK(low D H S:Nat)(v:Value)(fs:List FD)(left:Int)(l:List UInt8)(w:World)(K:fQ w D H S)(L:D≠S)(h:DS 98 107 low w S v fs left)(h0:left≠0)(M:-9223372036854775808<=left/\left<=9223372036854775807)(hl:fs.length<=3000000000)(W:low<=w.heap.size)(B:∀f∈fs,f.d.length<=3000000000):Calls pG 34 #[P0 (Y ⟨D,0,Z⟩),.string (dE l)] w λr w'=>r=.returned (.bool true)/\eC 98 107 low w S v (fM fs l) (dL left) w':=by
 have cd:=K.cd;have u:D<w.heap.size:=(Array.getElem?_eq_some_iff.1 K.d).1;have x:=K.d;clear K;go_enter func34,ntmps34;go_wp2_with fail;refine(oQ low S v fs left w h M).mono ?_;rintro r w1 ⟨rfl,z⟩;obtain⟨s,p,a7⟩:=oU h dG w1 z;clear z;rw[show decide (left≠0)=true by simpa using h0];have q:=(p.block D u L).trans x;have Q:w1.cell? ⟨D,0,Z⟩=Y (P0 (Y ⟨S,0,Z⟩)):=by simp[World.cell?,q]
 have A:=s.cell 0;have a6:=s.free 0;simp at A;have m:=dA s;have HK:=dA p;have U:Hid _:=q;have a2:=s.lt;have a0:D<w1.heap.size:=oG;clear h s p cd x q;go_wp2_with fail;refine(rW low S v fs (dL left) l w1 m oG).mono ?_;rintro r w' ⟨rfl,e⟩;replace e:=e.symm;subst e;rcases sK fs l with⟨E,y⟩|⟨i,E,y,t⟩
 ·have O:Hid (fM fs l=fs):=by unfold Hid fM;rw[y]
  rw[E];have V:Hid (eC 98 107 low w S v (fM fs l) (dL left) w1):=by unfold Hid;rw[O.out];exact eC.same m HK
  clear E y;go_wp2;go_ret;exact⟨rfl,V⟩
 ·have a8:=B fs[i] (List.getElem_mem t);rw[E];have eD:fs.getD i jG=fs[i]:=by rw[List.getD_eq_getElem?_getD,List.getElem?_eq_getElem t,Option.getD_some]
  obtain⟨a,c,hv,o⟩:=lL m.row;subst hv;obtain⟨g,ha,_,a9,k⟩:=o.resolve_left oG;subst ha;obtain⟨a5,j⟩:=tW m.row;have R:S≠g:=by intro e;subst e;rw[m.st]at j;simp at j
  have a1:D≠g:=by intro e;subst e;rw[U.out]at j;simp at j
  have j0:=k _ _ (kS fs i t 0 oG);have X:=k _ _ (kS fs i t 1 oG);have j2:=k _ _ (kS fs i t 2 oG);simp[FD.cells]at j0 X j2;have k1:=m.row.frozenAt (i*3+1);have k2:=m.row.frozenAt (i*3+2);have a3:(i:Int)<(fs.length:Int):=oG;have O:Hid (fM fs l=fs.set i ⟨fs[i].n,fs[i].d,fs[i].d.length⟩):=by unfold Hid fM;rw[y];simp only[eD]
  have hp:=m.jw R i t 2 oG ⟨fs[i].n,fs[i].d,fs[i].d.length⟩ (by intro k' s h2;rcases(show k'=0∨k'=1 by omega) with rfl|rfl<;>rfl);have V:Hid (eC 98 107 low w S (J (Y ⟨g,0,Z⟩) fs.length c) (fM fs l) (dL left) (w1.setCell ⟨g,i*3+2,Z⟩ (I (fs[i].d.length:Int)))):=by unfold Hid;rw[O.out];exact eC.pre HK ⟨_,hp,(fU.set w1 g (i*3+2) _).mono (λb M=>.inr (by rw[M];rfl)),λg' N=>.inl N⟩
  have a4:(dE fs[i].d).size=fs[i].d.length:=nN _;clear hp k o E y j B eD;generalize fs[i]=F at*;have z1:(w1.setCell ⟨g,i*3+2,Z⟩ (I (F.d.length:Int))).drew.cell? ⟨D,0,Z⟩=Y (P0 (Y ⟨S,0,Z⟩)):=(World.cell?_setCell_other _ _ _ _ (by intro e;have C:=congrArg Addr.block e;simp at C;omega)).trans Q;have z2:(w1.setCell ⟨g,i*3+2,Z⟩ (I (F.d.length:Int))).drew.cell? ⟨S,0,Z⟩=Y (J (Y ⟨g,0,Z⟩) fs.length c):=(World.cell?_setCell_other _ _ _ _ (by intro e;have C:=congrArg Addr.block e;simp at C;omega)).trans A;have z3:(w1.setCell ⟨g,i*3+2,Z⟩ (I (F.d.length:Int))).drew.cell? ⟨g,i*3+1,Z⟩=Y (.string (dE F.d)):=(World.cell?_setCell_other _ _ _ _ (by intro e;have C:=congrArg Addr.off e;simp at C)).trans X;go_wp2_with fail;go_region_held3 (λw'=>w'.cell? ⟨D,0,Z⟩=Y (P0 (Y ⟨S,0,Z⟩))/\w'.cell? ⟨S,0,Z⟩=Y (J (Y ⟨g,0,Z⟩) fs.length c)/\w'.cell? ⟨g,i*3+1,Z⟩=Y (.string (dE F.d))) (first|(exact⟨z1,z2,z3⟩)|go_keep) (fail);all_goals go_wp2
  all_goals go_ret
  all_goals exact⟨rfl,V.drew⟩
def FO(low D H S:Nat)(v:Value)(fs:List FD)(e i:List UInt8)(w:World)(c:fQ w D H S)(h:DS 98 107 low w S v fs 0):Calls pG 32 #[P0 (Y ⟨D,0,Z⟩),.string (dE e),.string (dE i)] w λr w'=>r=.returned (.bool false)/\eC 98 107 low w S v fs (dL 0) w':=by have cd:=c.cd;clear c;go_enter func32,ntmps32;go_wp2_with fail;refine(oQ low S v fs 0 w h oG).mono ?_;rintro r w1 ⟨rfl,b⟩;obtain⟨d,a,f⟩:=oU h dG w1 b;clear b;rw[show decide ((0:Int)≠0)=false from rfl];have g:Hid _:=eC.same d a;clear d a h;go_wp2;go_ret;exact⟨rfl,g⟩
def H3(low D H S:Nat)(v:Value)(fs:List FD)(left:Int)(e m:List UInt8)(w:World)(hH:fQ w D H S)(a4:D≠S)(h:DS 98 107 low w S v fs left)(h0:left≠0)(hb:-9223372036854775808<=left/\left<=9223372036854775807)(hl:fs.length<=3000000000)(aw:low<=w.heap.size)(E:∀f∈fs,f.d.length+m.length<=3000000000)(ag:m.length<=3000000000):Calls pG 32 #[P0 (Y ⟨D,0,Z⟩),.string (dE e),.string (dE m)] w λr w'=>r=.returned (.bool true)/\eC 98 107 low w S v (eO fs e m) (dL left) w':=by
 have cd:=hH.cd;have aa:D<w.heap.size:=(Array.getElem?_eq_some_iff.1 hH.d).1;have a5:=hH.d;clear hH;go_enter func32,ntmps32;go_wp2_with fail;refine(oQ low S v fs left w h hb).mono ?_;rintro r w1 ⟨rfl,a8⟩;obtain⟨K,V,az⟩:=oU h dG w1 a8;clear a8;rw[show decide (left≠0)=true by simpa using h0];have U:=(V.block D aa a4).trans a5;have a1:w1.cell? ⟨D,0,Z⟩=Y (P0 (Y ⟨S,0,Z⟩)):=by simp[World.cell?,U]
 have a0:=K.cell 0;have al:=K.free 0;simp at a0;have B:=dA K;have HK:=dA V;have ae:Hid _:=U;have ad:=K.lt;have a6:D<w1.heap.size:=oG;clear h K V cd a5 U;go_wp2_with fail;refine(rW low S v fs (dL left) e w1 B oG).mono ?_;rintro r w' ⟨rfl,l⟩;replace l:=l.symm;subst l;rcases sK fs e with⟨M,p⟩|⟨i,M,p,L⟩
 ·have HR:Hid (eO fs e m=fs++[⟨e,m,0⟩]):=by unfold Hid eO;rw[p]
  rw[M];obtain⟨i0,ap,ar,au,ak⟩:=info_parts uL;obtain⟨a,c,hv,A⟩:=lL B.row;subst hv;have O:=B.off dG;have R:Value.ownBlock (J a fs.length c)≠some D:=by
   intro l;rcases B.row.2 with⟨K,_⟩|⟨g',aA,a7,K,_,hg,_⟩;·rw[K]at l;simp[Value.ownBlock]at l
   ·rw[K]at l;simp[Value.ownBlock]at l;subst l;rw[ae.out]at hg;simp at hg
  have q1:(w1.alloc (G #[Value.string (dE e),Value.string ⟨#[]⟩,I 0] 107)).drew.cell? ⟨S,0,Z⟩=Y (J a fs.length c):=(World.cell?_alloc_past _ _ _ ad).trans a0;have q2:(w1.alloc (G #[Value.string (dE e),Value.string ⟨#[]⟩,I 0] 107)).drew.cell? ⟨D,0,Z⟩=Y (P0 (Y ⟨S,0,Z⟩)):=(World.cell?_alloc_past _ _ _ a6).trans a1;clear M p A E;go_wp2_with fail;go_cut [7] from 22 to 38 (λx wc=>x=I (-1)/\∃v2,DS 98 107 low wc S v2 (fs++[⟨e,[],0⟩]) (dL left)/\fU (λb=>b=S∨some b=Value.ownBlock (J a fs.length c)) w1 wc/\(∀g,v2.ownBlock=Y g->Value.ownBlock (J a fs.length c)=Y g∨w1.heap.size<=g)/\wc.heap[D]?=w1.heap[D]?);case first=>
   go_region_law (refine iX rfl (.tmp 32) (.tmp 35) 96 rfl low 107 i0 (.agg #[.string ⟨#[]⟩,.string ⟨#[]⟩,I 0]) 3 40 underlying96 ap ar au ak rfl dG (J a fs.length c) fs.length (fs.flatMap FD.cells) eG (by exact(World.ownsRow.alloc B.row _).drew) ⟨w1.heap.size,0,Z⟩ 1 1 [Value.string (dE e),Value.string ⟨#[]⟩,I 0] oG eG rfl (by intro j u hu;rw[Go.WideShapes.add_plain];refine(World.cell?_alloc_at _ _ _ _ rfl).trans ?_;simpa using hu) (by intro u hu;simp at hu;rcases hu with rfl|rfl|rfl<;>rfl) xG oG (by show _<=(World.alloc _ _).heap.size;simp;omega) ?_;intro v' w2 af z Q;obtain⟨va,vc,rfl⟩:=dZ af;have X:w2.heap[S]?=w1.heap[S]?:=(z.block S (by show _<(World.alloc _ _).heap.size;simp;omega) (Ne.symm O)).trans (heap_alloc_old w1 _ ad);have ab:w2.heap[D]?=w1.heap[D]?:=(z.block D (by show _<(World.alloc _ _).heap.size;simp;omega) (Ne.symm R)).trans (heap_alloc_old w1 _ a6);have ks:w2.cell? ⟨S,0,Z⟩=Y (J a fs.length c):=(World.cell?_of_block (w:=w1) (a:=⟨S,0,Z⟩) X).trans a0;have kf:w2.frozen? ⟨S,0,Z⟩=false:=(World.frozen?_of_block (w:=w1) (a:=⟨S,0,Z⟩) X).trans al;have kd:w2.cell? ⟨D,0,Z⟩=Y (P0 (Y ⟨S,0,Z⟩)):=(World.cell?_of_block (w:=w1) (a:=⟨D,0,Z⟩) ab).trans a1);all_goals go_wp2_with fail
   all_goals go_meet
   all_goals
    refine⟨rfl,J va (fs.length+1) vc,DS.store (low:=low) (low':=low) (X.trans B.st) ?_ r_ ?_,?_,?_,?_⟩
    ·rw[List.length_append,List.flatMap_append];simp only[List.length_cons,List.length_nil,List.flatMap_cons,List.flatMap_nil,List.append_nil];exact af
    ·intro l;obtain⟨g',M,p⟩:=Q;rw[M]at l;have ai:g'=S:=by simpa using l
     subst ai;rcases p with p|⟨p,_⟩
     ·exact O p
     ·have:(World.alloc w1 (G #[Value.string (dE e),Value.string ⟨#[]⟩,I 0] 107)).heap.size<=g':=p;simp at this;omega
    ·have k1:fU (λb=>b=S∨some b=Value.ownBlock (J a fs.length c)) w1 w2:=⟨z.os,z.tape,z.output,Nat.le_trans (by show _<=(World.alloc _ _).heap.size;simp) z.size,λk hk hA=>(z.block k (by show _<(World.alloc _ _).heap.size;simp;omega) (λl=>hA (.inr l))).trans (heap_alloc_old w1 _ hk)⟩;exact k1.trans (fU.set w2 S 0 _) (λb _ hb=>.inl hb)
    ·intro g hg;obtain⟨g',M,p⟩:=Q;rw[M]at hg;have am:g'=g:=by simpa using hg
     subst am;rcases p with p|⟨p,_⟩
     ·exact .inl p
     ·right;have:(World.alloc w1 (G #[Value.string (dE e),Value.string ⟨#[]⟩,I 0] 107)).heap.size<=g':=p
      simp at this;omega
    ·exact((dI.setCell w2 ⟨S,0,Z⟩ _).block D a4).trans ab
  case rest=>
  obtain⟨rfl,v2,q,a9,t,N⟩:=hcut;have ax:(fs++[(⟨e,[],0⟩:FD)]).length=fs.length+1:=sG;have L:fs.length<(fs++[(⟨e,[],0⟩:FD)]).length:=oG;have eF:(fs++[(⟨e,[],0⟩:FD)])[fs.length]=⟨e,[],0⟩:=sG;have ac:Hid ((fs++[(⟨e,[],0⟩:FD)]).set fs.length ⟨e,m,0⟩=fs++[⟨e,m,0⟩]):=by simp[Hid]
  obtain⟨a2,c2,ah,C⟩:=lL q.row;subst ah;obtain⟨g,ha,_,ao,y⟩:=C.resolve_left oG;subst ha;obtain⟨a7,o⟩:=tW q.row;have a3:S≠g:=by intro l;subst l;rw[q.st]at o;simp at o
  have hp:=q.jw a3 fs.length L 1 oG ⟨e,m,0⟩ (by intro k' K h2;rw[eF];rcases(show k'=0∨k'=2 by omega) with rfl|rfl<;>rfl);rw[ac.out]at hp;have j1:=y _ _ (kS _ fs.length L 1 oG);rw[eF]at j1;have k1:=q.row.frozenAt (fs.length*3+1);have aq:=q.cell 0;simp at aq;have aC:=(World.cell?_of_block (w:=w1) (a:=⟨D,0,Z⟩) N).trans a1;have ee:dE []++dE m=dE m:=by rw[zB];rfl
  have HD:Hid (eC 98 107 low w S (J a fs.length c) (eO fs e m) (dL left) (wc.setCell ⟨g,fs.length*3+1,Z⟩ (.string (dE []++dE m)))):=by
   unfold Hid;rw[HR.out,ee];refine eC.pre HK ⟨_,hp,a9.trans (fU.set wc g (fs.length*3+1) _) (λb aD av=>?_),λg' W=>t g' W⟩;subst av;rcases t b rfl with l|l;·exact .inr l.symm
   ·omega
  have aj:(dE ([]:List UInt8)).size+(dE m).size<=3000000000:=by rw[nN,nN];simpa using ag
  simp[FD.cells]at j1;clear hp q y C o t a9 N eF L ee;go_wp2;go_ret;exact⟨rfl,HD⟩
 ·have an:=E fs[i] (List.getElem_mem L);rw[M];have eD:fs.getD i jG=fs[i]:=by rw[List.getD_eq_getElem?_getD,List.getElem?_eq_getElem L,Option.getD_some]
  obtain⟨a,c,hv,A⟩:=lL B.row;subst hv;obtain⟨g,ha,_,ao,y⟩:=A.resolve_left oG;subst ha;obtain⟨a7,o⟩:=tW B.row;have a3:S≠g:=by intro l;subst l;rw[B.st]at o;simp at o
  have aB:D≠g:=by intro l;subst l;rw[ae.out]at o;simp at o
  have j0:=y _ _ (kS fs i L 0 oG);have j1:=y _ _ (kS fs i L 1 oG);have j2:=y _ _ (kS fs i L 2 oG);simp[FD.cells]at j0 j1 j2;have k1:=B.row.frozenAt (i*3+1);have k2:=B.row.frozenAt (i*3+2);have ay:(i:Int)<(fs.length:Int):=oG;have HR:Hid (eO fs e m=fs.set i ⟨fs[i].n,fs[i].d++m,fs[i].s⟩):=by unfold Hid eO;rw[p];simp only[eD]
  have hp:=B.jw a3 i L 1 oG ⟨fs[i].n,fs[i].d++m,fs[i].s⟩ (by intro k' K h2;rcases(show k'=0∨k'=2 by omega) with rfl|rfl<;>rfl);have HD:Hid (eC 98 107 low w S (J (Y ⟨g,0,Z⟩) fs.length c) (eO fs e m) (dL left) (w1.setCell ⟨g,i*3+1,Z⟩ (.string (dE fs[i].d++dE m)))):=by unfold Hid;rw[HR.out,zB];exact eC.pre HK ⟨_,hp,(fU.set w1 g (i*3+1) _).mono (λb hb=>.inr (by rw[hb];rfl)),λg' W=>.inl W⟩
  have aj:(dE fs[i].d).size+(dE m).size<=3000000000:=by rw[nN,nN];exact an
  clear hp y A M p o E eD;generalize fs[i]=F at*;go_wp2;go_ret;exact⟨rfl,HD⟩
def iU(fs:List FD)(a b:List UInt8):List FD:=match gU fs a with
 |none=>fs
 |some i=>if a=b then fs else eB (eB fs a) b++[⟨b,(fs.getD i jG).d,(fs.getD i jG).s⟩]
def FP(low D H S:Nat)(v:Value)(fs:List FD)(e i:List UInt8)(w:World)(c:fQ w D H S)(h:DS 98 107 low w S v fs 0):Calls pG 36 #[P0 (Y ⟨D,0,Z⟩),.string (dE e),.string (dE i)] w λr w'=>r=.returned (.bool false)/\eC 98 107 low w S v fs (dL 0) w':=by have cd:=c.cd;clear c;go_enter func36,ntmps36;go_wp2_with fail;refine(oQ low S v fs 0 w h oG).mono ?_;rintro r w1 ⟨rfl,b⟩;obtain⟨d,a,f⟩:=oU h dG w1 b;clear b;rw[show decide ((0:Int)≠0)=false from rfl];have g:Hid _:=eC.same d a;clear d a h;go_wp2;go_ret;exact⟨rfl,g⟩
def H5(low D H S:Nat)(v:Value)(fs:List FD)(left:Int)(m l:List UInt8)(w:World)(hH:fQ w D H S)(av:D≠S)(h:DS 98 107 low w S v fs left)(h0:left≠0)(hb:-9223372036854775808<=left/\left<=9223372036854775807)(hl:fs.length<=3000000000)(bb:low<=w.heap.size):Calls pG 36 #[P0 (Y ⟨D,0,Z⟩),.string (dE m),.string (dE l)] w λr w'=>r=.returned (.bool true)/\eC 98 107 low w S v (iU fs m l) (dL left) w':=by
 have cd:=hH.cd;have aD:D<w.heap.size:=(Array.getElem?_eq_some_iff.1 hH.d).1;have aw:=hH.d;clear hH;go_enter func36,ntmps36;go_wp2_with fail;refine(oQ low S v fs left w h hb).mono ?_;rintro r w1 ⟨rfl,az⟩;obtain⟨h1,ao,b0⟩:=oU h dG w1 az;clear az;rw[show decide (left≠0)=true by simpa using h0];have al:w1.heap[D]?=Y (.cells #[P0 (Y ⟨S,0,Z⟩)] 100 (0,0)):=(ao.block D aD av).trans aw;have aH:w1.cell? ⟨D,0,Z⟩=Y (P0 (Y ⟨S,0,Z⟩)):=by simp[World.cell?,al]
 have aG:=h1.cell 0;have aZ:=h1.free 0;simp at aG;have H1:=dA h1;have HK:=dA ao;have aX:Hid _:=al;have bm:=h1.lt;have aK:D<w1.heap.size:=oG;clear h h1 ao cd aw al;go_wp2_with fail;refine(rW low S v fs (dL left) m w1 H1 oG).mono ?_;rintro r w' ⟨rfl,o⟩;replace o:=o.symm;subst o;rcases sK fs m with⟨e1,e2⟩|⟨i,e1,e2,e3⟩
 ·have HR:Hid (iU fs m l=fs):=by unfold Hid iU;rw[e2]
  rw[e1];have HD:Hid (eC 98 107 low w S v (iU fs m l) (dL left) w1):=by unfold Hid;rw[HR.out];exact eC.same H1 HK
  clear e1 e2;go_wp2;go_ret;exact⟨rfl,HD⟩
 ·by_cases Q:m=l
  ·have HR:Hid (iU fs m l=fs):=by unfold Hid iU;rw[e2];exact if_pos Q
   rw[e1];have HD:Hid (eC 98 107 low w S v (iU fs m l) (dL left) w1):=by unfold Hid;rw[HR.out];exact eC.same H1 HK
   have q:=qW m l;rw[show(m==l)=true by simpa using Q]at q;clear e1 e2 Q;go_wp2;go_ret;exact⟨rfl,HD⟩
  rw[e1];have eD:fs.getD i jG=fs[i]:=by rw[List.getD_eq_getElem?_getD,List.getElem?_eq_getElem e3,Option.getD_some]
  obtain⟨a,c,hv,af⟩:=lL H1.row;subst hv;obtain⟨g,ha,_,bi,a9⟩:=af.resolve_left oG;subst ha;obtain⟨bf,a0⟩:=tW H1.row;have bn:S≠g:=by intro o;subst o;rw[H1.st]at a0;simp at a0
  have bj:D≠g:=by intro o;subst o;rw[aX.out]at a0;simp at a0
  have j0:=a9 _ _ (kS fs i e3 0 oG);have j1:=a9 _ _ (kS fs i e3 1 oG);have j2:=a9 _ _ (kS fs i e3 2 oG);simp[FD.cells]at j0 j1 j2;have k1:=H1.row.frozenAt (i*3+1);have k2:=H1.row.frozenAt (i*3+2);have be:(i:Int)<(fs.length:Int):=oG;have HR:Hid (iU fs m l=eB (eB fs m) l++[⟨l,fs[i].d,fs[i].s⟩]):=by unfold Hid iU;rw[e2];simp only[eD];exact if_neg Q
  have q:=qW m l;rw[show(m==l)=false by simpa using Q]at q;obtain⟨i0,aO,aC,aP,aM⟩:=info_parts uL;clear a9 af e1 e2 a0 Q eD;generalize fs[i]=F at*;have V:=a_ w1 (G #[Value.string (dE l),Value.string (dE F.d),I (F.s:Int)] 107);have bg:(w1.alloc (G #[Value.string (dE l),Value.string (dE F.d),I (F.s:Int)] 107)).heap.size=w1.heap.size+1:=sG;have ax:∀i,(w1.alloc (G #[Value.string (dE l),Value.string (dE F.d),I (F.s:Int)] 107)).cell? ⟨w1.heap.size,i,Z⟩=#[Value.string (dE l),Value.string (dE F.d),I (F.s:Int)][i]?:=λi=>World.cell?_alloc_at _ _ _ _ rfl;have H2:=dA (H1.later V);have aq:(w1.alloc (G #[Value.string (dE l),Value.string (dE F.d),I (F.s:Int)] 107)).cell? ⟨D,0,Z⟩=Y (P0 (Y ⟨S,0,Z⟩)):=(V.cell (by exact aK)).trans aH;have aJ:(w1.alloc (G #[Value.string (dE l),Value.string (dE F.d),I (F.s:Int)] 107)).heap[D]?=w1.heap[D]?:=V.block D aK;have aB:fU (λb=>b=S) w (w1.alloc (G #[Value.string (dE l),Value.string (dE F.d),I (F.s:Int)] 107)):=HK.trans (fU.of_below (A:=λb=>b=S) V) (λ_ _ o=>o);have aL:Hid _:=aB;have aE:Hid _:=aJ;clear aB aJ V;go_wp2_with fail;generalize (w1.alloc (G #[Value.string (dE l),Value.string (dE F.d),I (F.s:Int)] 107))=W2 at*;have ah:∀i,W2.cell? ⟨w.heap.size,i,Z⟩=#[Value.string (dE l),Value.string (dE F.d),I (F.s:Int)][i]?:=by rw[←b0];exact ax
  have an:=H2.cell 0;have f2:=H2.free 0;simp at an;have aN:=H2.lt;have ay:D<W2.heap.size:=oG;have b9:w.heap.size<W2.heap.size:=oG;clear ax aG aZ aH j0 j1 j2 k1 k2;go_cut [8] from 40 to 51 (λx wc=>x=P0 (Y ⟨w.heap.size,0,Z⟩)/\∃v3,DS 98 107 low wc S v3 (eB fs m) (dL left)/\(∀i,wc.cell? ⟨w.heap.size,i,Z⟩=#[Value.string (dE l),Value.string (dE F.d),I (F.s:Int)][i]?)/\wc.heap[D]?=W2.heap[D]?/\fU (λb=>b=S) w wc/\(∀g,v3.ownBlock=Y g->w.heap.size<g)/\w.heap.size<wc.heap.size);case first=>
   go_region_held3 (λw'=>w'.cell? ⟨D,0,Z⟩=Y (P0 (Y ⟨S,0,Z⟩))) (first|assumption|(rw[World.cell?_setCell_other _ _ _ _ (by intro o;have h9:=congrArg Addr.block o;simp at h9;omega)];assumption)|go_keep) (first|(go_at_call 80;refine(tL low S _ fs (dL left) m W2.drew H2.drew hl).mono ?_;rintro r w3 ⟨v3,rfl,ap,t⟩;obtain⟨a3,c3,rfl,_⟩:=lL ap;have kd:w3.cell? ⟨D,0,Z⟩=Y (P0 (Y ⟨S,0,Z⟩)):=(t.cell (by exact ay)).trans aq;have ks:w3.cell? ⟨S,0,Z⟩=Y (J (Y ⟨g,0,Z⟩) fs.length c):=(t.cell (by exact aN)).trans an;have kf:w3.frozen? ⟨S,0,Z⟩=false:=(t.frozen (by exact aN)).trans f2));all_goals go_wp2_with fail
   all_goals go_meet
   all_goals
    have h3:DS 98 107 low w3 S (J (Y ⟨g,0,Z⟩) fs.length c) fs (dL left):=H2.drew.later t;have ag:∀g,Value.ownBlock (J a3 (eB fs m).length c3)=Y g->W2.heap.size<=g:=λg hg=>(World.ownsRow.lt ap g hg).1;have bd:W2.heap.size<=w3.heap.size:=t.size;refine⟨rfl,J a3 (eB fs m).length c3,DS.store (low:=low) (low':=W2.heap.size) h3.st ap oG (λo=>by have:=ag S o;omega),λi=>?_,?_,?_,λg hg=>by have:=ag g hg;omega,?_⟩
    ·exact(World.cell?_setCell_other _ _ _ _ (by intro o;have h9:=congrArg Addr.block o;simp at h9;omega)).trans ((t.cell (by exact b9)).trans (ah i))
    ·exact((dI.setCell w3 ⟨S,0,Z⟩ _).block D av).trans (t.block D ay)
    ·exact(aL.trans (B:=λb=>b=S) ⟨t.os,t.tape,t.output,t.size,λk hk _=>t.block k hk⟩ (λ_ _ o=>o)).trans (fU.set w3 S 0 _) (λ_ _ o=>o)
    ·rw[(dI.setCell w3 ⟨S,0,Z⟩ _).size];omega
  case rest=>
  obtain⟨rfl,v3,h4,N,ae,au,ad,C⟩:=hcut;have aI:wc.cell? ⟨D,0,Z⟩=Y (P0 (Y ⟨S,0,Z⟩)):=(World.cell?_of_block (w:=W2) (a:=⟨D,0,Z⟩) ae).trans aq;have am:=h4.cell 0;have f4:=h4.free 0;simp at am;have K:=h4.lt;have O:D<wc.heap.size:=by have:=au.size;omega
  have bl:(eB fs m).length<=fs.length:=List.length_filter_le _ _;have bc:(eB (eB fs m) l).length<=(eB fs m).length:=List.length_filter_le _ _;have H4:Hid _:=h4;have a6:Hid _:=au;have bh:Hid _:=ad;clear h4 au ad ae aq an f2 ah aL aE H2;have aQ:D<wc.drew.heap.size:=O;have ab:S<wc.drew.heap.size:=K;have a4:w.heap.size<wc.drew.heap.size:=C;have y:=a_ wc (G #[Value.string (dE l),Value.string (dE F.d),I (F.s:Int)] 107);have aA:D<(wc.alloc (G #[Value.string (dE l),Value.string (dE F.d),I (F.s:Int)] 107)).drew.heap.size:=by show _<(World.alloc _ _).heap.size;simp;omega
  have aa:S<(wc.alloc (G #[Value.string (dE l),Value.string (dE F.d),I (F.s:Int)] 107)).drew.heap.size:=by show _<(World.alloc _ _).heap.size;simp;omega
  have U:w.heap.size<(wc.alloc (G #[Value.string (dE l),Value.string (dE F.d),I (F.s:Int)] 107)).drew.heap.size:=by show _<(World.alloc _ _).heap.size;simp;omega
  have ba:(wc.alloc (G #[Value.string (dE l),Value.string (dE F.d),I (F.s:Int)] 107)).drew.cell? ⟨D,0,Z⟩=Y (P0 (Y ⟨S,0,Z⟩)):=(y.cell (by exact O)).trans aI;have aS:(wc.alloc (G #[Value.string (dE l),Value.string (dE F.d),I (F.s:Int)] 107)).drew.cell? ⟨S,0,Z⟩=Y v3:=(y.cell (by exact K)).trans am;have fb:(wc.alloc (G #[Value.string (dE l),Value.string (dE F.d),I (F.s:Int)] 107)).drew.frozen? ⟨S,0,Z⟩=false:=(y.frozen (by exact K)).trans f4;have ak:∀i,(wc.alloc (G #[Value.string (dE l),Value.string (dE F.d),I (F.s:Int)] 107)).drew.cell? ⟨w.heap.size,i,Z⟩=#[Value.string (dE l),Value.string (dE F.d),I (F.s:Int)][i]?:=λi=>(y.cell (by exact C)).trans (N i);have b2:=dA (H4.later y);have aY:=N 0;have aW:=N 1;have b5:=N 2;simp at aY aW b5;go_wp2_with fail;go_region_held3 (λw'=>w'.cell? ⟨D,0,Z⟩=Y (P0 (Y ⟨S,0,Z⟩))/\w'.cell? ⟨w.heap.size,0,Z⟩=Y (Value.string (dE l))/\w'.cell? ⟨w.heap.size,1,Z⟩=Y (Value.string (dE F.d))/\w'.cell? ⟨w.heap.size,2,Z⟩=Y (I (F.s:Int))) (first|(and_intros<;>assumption)|(and_intros<;>first|(exact(World.cell?_setCell_other _ _ _ _ (by intro o;have h9:=congrArg Addr.block o;simp at h9;omega)).trans (by assumption))|(exact(World.cell?_alloc_past _ _ _ (by first|assumption|omega)).trans (by assumption)))|go_keep) (first|(go_at_call 80;refine(tL low S _ (eB fs m) (dL left) l wc.drew H4.drew oG).mono ?_;rintro r n ⟨v5,rfl,L,e⟩;obtain⟨a5,c5,rfl,_⟩:=lL L;have kd:n.cell? ⟨D,0,Z⟩=Y (P0 (Y ⟨S,0,Z⟩)):=(e.cell (by exact aQ)).trans aI;have ks:n.cell? ⟨S,0,Z⟩=Y v3:=(e.cell (by exact ab)).trans am;have kf:n.frozen? ⟨S,0,Z⟩=false:=(e.frozen (by exact ab)).trans f4;have ar:n.cell? ⟨w.heap.size,0,Z⟩=Y (Value.string (dE l)):=(e.cell (by exact a4)).trans (N 0);have ai:n.cell? ⟨w.heap.size,1,Z⟩=Y (Value.string (dE F.d)):=(e.cell (by exact a4)).trans (N 1);have aj:n.cell? ⟨w.heap.size,2,Z⟩=Y (I (F.s:Int)):=(e.cell (by exact a4)).trans (N 2);have M:wc.heap.size<=n.heap.size:=Nat.le_trans r_ e.size;have a1:∀g,Value.ownBlock (J a5 (eB (eB fs m) l).length c5)=Y g->wc.heap.size<=g:=(λg hg=>Nat.le_trans r_ (World.ownsRow.lt L g hg).1);have p:Below wc.heap.size wc n:=(by first|exact⟨e.os,e.tape,e.output,e.size,e.block⟩|exact y.trans ⟨e.os,e.tape,e.output,e.size,λk hk=>e.block k (Nat.lt_of_lt_of_le hk (by show _<=(World.alloc _ _).heap.size;simp))⟩);have aR:w.heap.size<n.heap.size:=Nat.lt_of_lt_of_le C M;have b6:D<n.heap.size:=Nat.lt_of_lt_of_le O M)|(go_at_call 80;refine(tL low S _ (eB fs m) (dL left) l (wc.alloc (G #[Value.string (dE l),Value.string (dE F.d),I (F.s:Int)] 107)).drew b2.drew oG).mono ?_;rintro r n ⟨v5,rfl,L,e⟩;obtain⟨a5,c5,rfl,_⟩:=lL L;have kd:n.cell? ⟨D,0,Z⟩=Y (P0 (Y ⟨S,0,Z⟩)):=(e.cell (by exact aA)).trans ba;have ks:n.cell? ⟨S,0,Z⟩=Y v3:=(e.cell (by exact aa)).trans aS;have kf:n.frozen? ⟨S,0,Z⟩=false:=(e.frozen (by exact aa)).trans fb;have ar:n.cell? ⟨w.heap.size,0,Z⟩=Y (Value.string (dE l)):=(e.cell (by exact U)).trans (ak 0);have ai:n.cell? ⟨w.heap.size,1,Z⟩=Y (Value.string (dE F.d)):=(e.cell (by exact U)).trans (ak 1);have aj:n.cell? ⟨w.heap.size,2,Z⟩=Y (I (F.s:Int)):=(e.cell (by exact U)).trans (ak 2);have M:wc.heap.size<=n.heap.size:=Nat.le_trans sG e.size;have a1:∀g,Value.ownBlock (J a5 (eB (eB fs m) l).length c5)=Y g->wc.heap.size<=g:=(λg hg=>Nat.le_trans sG (World.ownsRow.lt L g hg).1);have p:Below wc.heap.size wc n:=(by first|exact⟨e.os,e.tape,e.output,e.size,e.block⟩|exact y.trans ⟨e.os,e.tape,e.output,e.size,λk hk=>e.block k (Nat.lt_of_lt_of_le hk (by show _<=(World.alloc _ _).heap.size;simp))⟩);have aR:w.heap.size<n.heap.size:=Nat.lt_of_lt_of_le C M;have b6:D<n.heap.size:=Nat.lt_of_lt_of_le O M)|(refine iX rfl (.tmp 61) (.tmp 63) 96 rfl wc.heap.size 107 i0 (.agg #[.string ⟨#[]⟩,.string ⟨#[]⟩,I 0]) 3 40 underlying96 aO aC aP aM rfl dG (J a5 (eB (eB fs m) l).length c5) (eB (eB fs m) l).length ((eB (eB fs m) l).flatMap FD.cells) eG (World.ownsRow.alloc L _) ⟨n.heap.size,0,Z⟩ 1 1 [Value.string (dE l),Value.string (dE F.d),I (F.s:Int)] oG eG rfl (by intro j u hu;rw[Go.WideShapes.add_plain];refine(World.cell?_alloc_at _ _ _ _ rfl).trans ?_;simpa using hu) (by intro u hu;simp at hu;rcases hu with rfl|rfl|rfl<;>rfl) xG oG (by first|exact M|exact e.size|(show _<=(World.alloc _ _).heap.size;simp;omega)) ?_;intro v6 z W E a7;obtain⟨a8,a2,rfl⟩:=dZ W;have f:∀k,k<wc.heap.size->z.heap[k]?=n.heap[k]?:=(λk hk=>(E.block k (by show _<(World.alloc _ _).heap.size;simp;omega) (λo=>by have h9:=a1 k o.symm;omega)).trans (heap_alloc_old n _ oG));have aT:n.heap.size<=z.heap.size:=Nat.le_trans (by first|exact Nat.le_refl _|(show _<=(World.alloc _ _).heap.size;simp)) E.size;have b3:z.cell? ⟨D,0,Z⟩=Y (P0 (Y ⟨S,0,Z⟩)):=(World.cell?_of_block (w:=n) (a:=⟨D,0,Z⟩) (f D O)).trans kd;have b1:z.cell? ⟨S,0,Z⟩=Y v3:=(World.cell?_of_block (w:=n) (a:=⟨S,0,Z⟩) (f S K)).trans ks;have aV:z.frozen? ⟨S,0,Z⟩=false:=(World.frozen?_of_block (w:=n) (a:=⟨S,0,Z⟩) (f S K)).trans kf;have b7:z.cell? ⟨w.heap.size,0,Z⟩=Y (Value.string (dE l)):=(World.cell?_of_block (w:=n) (a:=⟨w.heap.size,0,Z⟩) (f _ C)).trans ar;have b4:z.cell? ⟨w.heap.size,1,Z⟩=Y (Value.string (dE F.d)):=(World.cell?_of_block (w:=n) (a:=⟨w.heap.size,1,Z⟩) (f _ C)).trans ai;have b8:z.cell? ⟨w.heap.size,2,Z⟩=Y (I (F.s:Int)):=(World.cell?_of_block (w:=n) (a:=⟨w.heap.size,2,Z⟩) (f _ C)).trans aj)|(refine iX rfl (.tmp 61) (.tmp 63) 96 rfl (wc.alloc (G #[Value.string (dE l),Value.string (dE F.d),I (F.s:Int)] 107)).heap.size 107 i0 (.agg #[.string ⟨#[]⟩,.string ⟨#[]⟩,I 0]) 3 40 underlying96 aO aC aP aM rfl dG (J a5 (eB (eB fs m) l).length c5) (eB (eB fs m) l).length ((eB (eB fs m) l).flatMap FD.cells) eG L ⟨wc.heap.size,0,Z⟩ 1 1 [Value.string (dE l),Value.string (dE F.d),I (F.s:Int)] oG eG rfl (by intro j u hu;rw[Go.WideShapes.add_plain];refine(e.cell (by show wc.heap.size<(World.alloc _ _).heap.size;simp)).trans ((World.cell?_alloc_at _ _ _ _ rfl).trans ?_);simpa using hu) (by intro u hu;simp at hu;rcases hu with rfl|rfl|rfl<;>rfl) xG oG (by first|exact M|exact e.size|(show _<=(World.alloc _ _).heap.size;simp;omega)) ?_;intro v6 z W E a7;obtain⟨a8,a2,rfl⟩:=dZ W;have f:∀k,k<wc.heap.size->z.heap[k]?=n.heap[k]?:=(λk hk=>E.block k oG (λo=>by have h9:=a1 k o.symm;omega));have aT:n.heap.size<=z.heap.size:=Nat.le_trans (by first|exact Nat.le_refl _|(show _<=(World.alloc _ _).heap.size;simp)) E.size;have b3:z.cell? ⟨D,0,Z⟩=Y (P0 (Y ⟨S,0,Z⟩)):=(World.cell?_of_block (w:=n) (a:=⟨D,0,Z⟩) (f D O)).trans kd;have b1:z.cell? ⟨S,0,Z⟩=Y v3:=(World.cell?_of_block (w:=n) (a:=⟨S,0,Z⟩) (f S K)).trans ks;have aV:z.frozen? ⟨S,0,Z⟩=false:=(World.frozen?_of_block (w:=n) (a:=⟨S,0,Z⟩) (f S K)).trans kf;have b7:z.cell? ⟨w.heap.size,0,Z⟩=Y (Value.string (dE l)):=(World.cell?_of_block (w:=n) (a:=⟨w.heap.size,0,Z⟩) (f _ C)).trans ar;have b4:z.cell? ⟨w.heap.size,1,Z⟩=Y (Value.string (dE F.d)):=(World.cell?_of_block (w:=n) (a:=⟨w.heap.size,1,Z⟩) (f _ C)).trans ai;have b8:z.cell? ⟨w.heap.size,2,Z⟩=Y (I (F.s:Int)):=(World.cell?_of_block (w:=n) (a:=⟨w.heap.size,2,Z⟩) (f _ C)).trans aj));all_goals
   have R:z.ownsRow wc.heap.size 107 3 (J a8 ((eB (eB fs m) l).length+1) a2) ((eB (eB fs m) l).length+1) ((eB (eB fs m) l).flatMap FD.cells++[Value.string (dE l),Value.string (dE F.d),I (F.s:Int)]):=CF W (by first|exact Nat.le_refl _|simp);have X:∀g,Value.ownBlock (J a8 ((eB (eB fs m) l).length+1) a2)=Y g->wc.heap.size<=g:=λg hg=>(World.ownsRow.lt R g hg).1;have ac:z.heap[S]?=Y (.cells #[v3,I (dL left)] 98 (0,0)):=(f S K).trans ((p.block S K).trans H4.st);have bk:=a6.size;have aF:fU (λb=>b=S∨some b=Value.ownBlock (J (Y ⟨g,0,Z⟩) fs.length c)) w z:=⟨E.os.trans (p.os.trans a6.os),E.tape.trans (p.tape.trans a6.tape),E.output.trans (p.output.trans a6.output),by have:=p.size;omega,λk hk hA=>(f k oG).trans ((p.block k oG).trans (a6.block k hk (λo=>hA (.inl o))))⟩
   have HF:Hid (eC 98 107 low w S (J (Y ⟨g,0,Z⟩) fs.length c) (iU fs m l) (dL left) (z.setCell ⟨S,0,Z⟩ (J a8 ((eB (eB fs m) l).length+1) a2))):=by
    unfold Hid;rw[HR.out];refine⟨J a8 ((eB (eB fs m) l).length+1) a2,DS.store (low:=low) (low':=wc.heap.size) ac ?_ oG (λo=>by have:=X S o;omega),aF.trans (fU.set z S 0 _) (λb _ hb=>.inl hb),λg' aU=>.inr (by have:=X g' aU;omega)⟩;rw[List.length_append,List.flatMap_append];simp only[List.length_cons,List.length_nil,List.flatMap_cons,List.flatMap_nil,List.append_nil];exact R
   clear R X ac aF W E a7 f L e p
  all_goals go_wp2
  all_goals go_ret
  all_goals exact⟨rfl,HF⟩
structure dK where
 k:Int
 f:Int
 e:Int
 b:Int
 wa:Int
 p:Int
 s:Int
 q:Int
 bl:Int
 v:Int
 a:Option Addr
 c:Nat
 zs:List Int
def dK.cells(m:dK):List Value:=[I m.k,I m.f,I m.e,I m.b,I m.wa,I m.p,I m.s,I m.q,I m.bl,I m.v,J m.a m.zs.length m.c]
def dK.ok(m:dK):Prop:=(-9223372036854775808<=m.k/\m.k<=9223372036854775807)/\(-9223372036854775808<=m.v/\m.v<=9223372036854775807)/\m.zs.length<=2000000
def DS.rowAt{ty e:TypeId}{low:Nat}{w:World}{S:Nat}{v:Value}{fs:List FD}{left:Int}(h:DS ty e low w S v fs left){g:Nat}(b:v.ownBlock=Y g):∃a,w.heap[g]?=Y (.cells a e (0,0)):=by
 rcases h.row.2 with⟨c,_⟩|⟨g',f,a,c,_,d,_⟩;·rw[c]at b;simp[Value.ownBlock]at b
 ·rw[c]at b;simp[Value.ownBlock]at b;subst b;exact⟨a,d⟩
def vH(low D H S:Nat)(v:Value)(fs:List FD)(left:Int)(e a:List UInt8)(w:World)(l:fQ w D H S)(j:D≠S)(h:DS 98 107 low w S v fs left)(n:-9223372036854775808<=left/\left<=9223372036854775807)(m:fs.length<=3000000000)(b:low<=w.heap.size)(c:∀f∈fs,f.d.length+a.length<=3000000000)(k:a.length<=3000000000):Calls pG 32 #[P0 (Y ⟨D,0,Z⟩),.string (dE e),.string (dE a)] w λr w'=>r=.returned (.bool (decide (left≠0)))/\eC 98 107 low w S v (if left=0 then fs else eO fs e a) (dL left) w':=by
 by_cases g:left=0;·subst g;refine(FO low D H S v fs e a w l h).mono ?_;rintro r w' ⟨rfl,i⟩;exact⟨rfl,i⟩
 ·refine(H3 low D H S v fs left e a w l j h g n m b c k).mono ?_;rintro r w' ⟨rfl,i⟩;refine⟨?_,?_⟩;·rw[show decide (left≠0)=true by simpa using g]
  ·rw[if_neg g];exact i
def vT(low D H S:Nat)(v:Value)(fs:List FD)(left:Int)(b:List UInt8)(w:World)(j:fQ w D H S)(g:D≠S)(h:DS 98 107 low w S v fs left)(l:-9223372036854775808<=left/\left<=9223372036854775807)(k:fs.length<=3000000000)(a:low<=w.heap.size)(i:∀f∈fs,f.d.length<=3000000000):Calls pG 34 #[P0 (Y ⟨D,0,Z⟩),.string (dE b)] w λr w'=>r=.returned (.bool (decide (left≠0)))/\eC 98 107 low w S v (if left=0 then fs else fM fs b) (dL left) w':=by
 by_cases c:left=0;·subst c;refine(H0 low D H S v fs b w j h).mono ?_;rintro r w' ⟨rfl,e⟩;exact⟨rfl,e⟩
 ·refine(KK low D H S v fs left b w j g h c l k a i).mono ?_;rintro r w' ⟨rfl,e⟩;refine⟨?_,?_⟩;·rw[show decide (left≠0)=true by simpa using c]
  ·rw[if_neg c];exact e
def zJ(low D H S:Nat)(v:Value)(fs:List FD)(left:Int)(b d:List UInt8)(w:World)(g:fQ w D H S)(f:D≠S)(h:DS 98 107 low w S v fs left)(j:-9223372036854775808<=left/\left<=9223372036854775807)(i:fs.length<=3000000000)(a:low<=w.heap.size):Calls pG 36 #[P0 (Y ⟨D,0,Z⟩),.string (dE b),.string (dE d)] w λr w'=>r=.returned (.bool (decide (left≠0)))/\eC 98 107 low w S v (if left=0 then fs else iU fs b d) (dL left) w':=by
 by_cases c:left=0;·subst c;refine(FP low D H S v fs b d w g h).mono ?_;rintro r w' ⟨rfl,e⟩;exact⟨rfl,e⟩
 ·refine(H5 low D H S v fs left b d w g f h c j i a).mono ?_;rintro r w' ⟨rfl,e⟩;refine⟨?_,?_⟩;·rw[show decide (left≠0)=true by simpa using c]
  ·rw[if_neg c];exact e
structure PD where
 D:Nat
 H:Nat
 S:Nat
 R:Nat
 va:Value
 vr:Value
 fs:List FD
 gs:List FD
 left:Int
section
variable {low:Nat} {w w':World} {p:PD} {B N:Nat}
end
section
variable {low:Nat} {w w':World} {lv:Value} {ps:List PD} {B N:Nat}
end
def mk(n i:Nat):Nat:=if i%2=0 then 1+n%251 else 1+n / 251%251
def vB(n j:Nat):Value:=.int .u8 (mk n j)
def vI(n:Nat)(_:Nat):Value:=I (-1000 - (n:Int))
def AJ(k f:Nat)(b a:List Int)(c:k<11)(h:a.length<=4):(kB k f b a).length<=300:=by unfold kB;rw[List.length_append,lP,←zS k f b a c];have:=zR k f b a 5 c h;omega
def oA(bs:List UInt8)(k f n1 n2 n3 n4 n5 n6 n7 n8:Int)(zs:List Int)(ec:Int):Prop:=
 (lT bs=true/\k=jP bs/\f=lI bs/\nZ bs=[0,n1,n2,n3,n4,n5,n6,n7,n8,(zs.length:Int)]/\zs=(iT bs).vals/\ec=0)∨
 (lT bs=false/\k=0/\f=0/\n1=0/\n2=0/\n3=0/\n4=0/\n5=0/\n6=0/\n7=0/\n8=0/\zs=[]/\ec=2)
structure xK(w:World)(ao:Option Addr)(ms:List dK):Prop where
 arr:ms=[]∨∃g off,ao=Y ⟨g,off,Z⟩/\g<w.heap.size/\∀j (h:j<ms.length) i,i<11->w.cell? ⟨g,off+j*11+i,Z⟩=Y (ms[j].cells.getD i undef)
 vals:∀m∈ms,fB w m.a m.zs
def xK.later{w W:World}{b:Option Addr}{ms:List dK}(h:xK w b ms)(a:Below w.heap.size w W):xK W b ms:=by
 refine⟨?_,λm d=>(h.vals m d).later a⟩;rcases h.arr with k|⟨g,off,f,c,l⟩;·exact .inl k
 ·exact .inr ⟨g,off,f,Nat.lt_of_lt_of_le c a.size,λj e i hi=>(a.cell (by exact c)).trans (l j e i hi)⟩
def rL(bs:List UInt8)(o:Nat)(t:Nat):List UInt8:=(List.range t).map λi=>bs.getD (o+i) 0
def rn(bs:List UInt8)(o:Nat)(t:Nat):Int:=pT (rL bs o t)
def rf(bs:List UInt8):Nat:=(bs.getD 1 0).toNat
def EU(bs:List UInt8)(t:Nat):List Int:=(List.range t).map λi=>rn bs (19+8*i) 8
structure G9(w wr:World)(bs:List UInt8)(l:Value)(t:Nat):Prop where
 ten:∀i,i<10->wr.cell? ⟨w.heap.size+1,i,Z⟩=Y ([I 9,I ((rf bs:Nat):Int),I (rn bs 2 8),I 0,I 0,I 0,I 0,I (rn bs 10 8),I 0,I 0].getD i undef)
 at10:wr.cell? ⟨w.heap.size+1,10,Z⟩=Y l
 fr:∀i,wr.frozen? ⟨w.heap.size+1,i,Z⟩=false
 own:fI wr (w.heap.size+2) l (EU bs t)
 res:∀i,wr.cell? ⟨w.heap.size,i,Z⟩=mz[i]?
 rfr:∀i,wr.frozen? ⟨w.heap.size,i,Z⟩=false
 bel:Below w.heap.size w wr
 siz:w.heap.size+2<=wr.heap.size
def G9.next{w wr e:World}{f:List UInt8}{l v':Value}{t:Nat}(h:G9 w wr f l t)(c:Below (w.heap.size+2) wr e)(g:fI e (w.heap.size+2) v' (EU f (t+1))):G9 w (e.setCell ⟨w.heap.size+1,10,Z⟩ v') f v' (t+1):=by
 have a:w.heap.size+1<w.heap.size+2:=oG;have b:w.heap.size<w.heap.size+2:=oG;refine⟨λi hi=>?_,?_,λi=>?_,?_,λi=>?_,λi=>?_,?_,?_⟩;·rw[World.cell?_setCell_other _ _ _ _ (by intro d;have:=congrArg Addr.off d;simp at this;omega)];exact(c.cell (by exact a)).trans (h.ten i hi)
 ·exact World.cell?_setCell_same _ _ _ ((c.cell (by exact a)).trans h.at10)
 ·rw[World.frozen?_setCell];exact(c.frozen (by exact a)).trans (h.fr i)
 ·exact ownsRow_setCell_below g (by exact a) _
 ·rw[World.cell?_setCell_other _ _ _ _ (by intro d;have:=congrArg Addr.block d;simp at this)];exact(c.cell (by exact b)).trans (h.res i)
 ·rw[World.frozen?_setCell];exact(c.frozen (by exact b)).trans (h.rfr i)
 ·exact Below.setCell (h.bel.trans (c.mono oG)) (by show w.heap.size<=w.heap.size+1;omega) _
 ·have:=h.siz;have:=c.size;simp[World.setCell];omega
end Go.Proofs.YtdcainmlcpafbaaGreatDoor
