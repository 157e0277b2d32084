import Derived.Test.YtdcainmlcpafbaaGreatDoorJ03
import Derived.Laws.CopyOwn
import Derived.Lib.BufferWrite
import Derived.Lib.LazyBuf
set_option linter.all false
set_option maxHeartbeats 8000000
set_option maxRecDepth 20000
namespace Go.Proofs.YtdcainmlcpafbaaGreatDoor
open Go.RowKit
open Value renaming int->I,slice->J,pointer->P0
open Tryz
open Tryz renaming prog->pG
open IntKind renaming i64->T
open Option renaming none->Z,some->Y
open Obj renaming cells->G
open Value (bool)
theorem zV(fs:List FD)(j:Nat):(fs.flatMap FD.cells)[j]?=if h:j / 3<fs.length then some (fs[j / 3].cells.getD (j%3) undef) else none:=by
 by_cases h:j / 3<fs.length;·rw[dif_pos h];have:=kD fs (j / 3) h (j%3) (by omega);rwa[show j / 3*3+j%3=j by omega]at this
 ·rw[dif_neg h,List.getElem?_eq_none (by rw[zT];omega)]
theorem JJ(fs:List FD)(i:Nat)(h:i<fs.length)(k:Nat)(l:k<3)(f':FD)(f:∀a,a<3->a≠k->f'.cells.getD a undef=fs[i].cells.getD a undef):(fs.flatMap FD.cells).set (i*3+k) (f'.cells.getD k undef)=(fs.set i f').flatMap FD.cells:=by
 apply List.ext_getElem?;intro j;rw[zV (fs.set i f') j];by_cases g:j=i*3+k
 ·subst g;rw[List.getElem?_set_self (by rw[zT];omega)];have c:(i*3+k) / 3=i:=by omega
  have d:(i*3+k)%3=k:=by omega
  rw[dif_pos (by rw[List.length_set,c];exact h)];simp only[c,d,List.getElem_set_self]
 ·rw[List.getElem?_set_ne (by omega),zV fs j];by_cases b:j / 3<fs.length
  ·rw[dif_pos b,dif_pos (by rw[List.length_set];exact b)];by_cases hi:j / 3=i
   ·have e:j%3≠k:=by omega
    have:=f (j%3) (by omega) e;simp only[hi,List.getElem_set_self];rw[this]
   ·rw[List.getElem_set_ne (by omega)]
  ·rw[dif_neg b,dif_neg (by rw[List.length_set];exact b)]
theorem DS.kz{ty e:TypeId}{low:Nat}{w:World}{S g c:Nat}{fs:List FD}{left:Int}(h:DS ty e low w S (J (Y ⟨g,0,Z⟩) fs.length c) fs left)(b:S≠g)(i:Nat)(hi:i<fs.length)(k:Nat)(d:k<3)(f':FD)(f:∀a,a<3->a≠k->f'.cells.getD a undef=fs[i].cells.getD a undef):DS ty e low (w.setCell ⟨g,i*3+k,Z⟩ (f'.cells.getD k undef)) S (J (Y ⟨g,0,Z⟩) fs.length c) (fs.set i f') left:=by refine⟨((dH.setCell w ⟨g,i*3+k,Z⟩ _).block S b).trans h.st,?_⟩;have:=(h.row.stored (i*3+k) (f'.cells.getD k undef)).1;rw[JJ fs i hi k d f' f]at this;rw[List.length_set];exact this
theorem fR.mono{A B:Nat->Prop}{w w':World}(h:fR A w w')(a:∀b,A b->B b):fR B w w':=⟨h.os,h.tape,h.output,h.size,fun k c e=>h.block k c (fun d=>e (a k d))⟩
theorem sY{w:World}{base e n g c:Nat}{xs:List Value}(h:w.ownsRow base e 3 (J (Y ⟨g,0,Z⟩) n c) n xs):∃a,w.heap[g]?=Y (.cells a e (0,0)):=by
 rcases h.2 with⟨b,_⟩|⟨i,f,a,b,_,d,_⟩;·cases b
 ·cases b;exact⟨a,d⟩
theorem eA.drew{ty e:TypeId}{low S:Nat}{w w':World}{v:Value}{fs':List FD}{left':Int}(h:eA ty e low w S v fs' left' w'):eA ty e low w S v fs' left' w'.drew:=by obtain⟨v',b,a,c⟩:=h;exact⟨v',b.drew,⟨a.os,a.tape,a.output,a.size,a.block⟩,c⟩
def fI(fs:List FD)(nm:List UInt8):List FD:=match gM fs nm with
 |none=>fs
 |some i=>fs.set i ⟨(fs.getD i i5).n,(fs.getD i i5).d,(fs.getD i i5).d.length⟩
def eK(fs:List FD)(nm dt:List UInt8):List FD:=match gM fs nm with
 |none=>fs++[⟨nm,dt,0⟩]
 |some i=>fs.set i ⟨(fs.getD i i5).n,(fs.getD i i5).d++dt,(fs.getD i i5).s⟩
theorem F4(low D H S:Nat)(v:Value)(fs:List FD)(g:List UInt8)(w:World)(c:fN w D H S)(h:DS 98 107 low w S v fs 0):Calls pG 34 #[P0 (Y ⟨D,0,Z⟩),.string (dF g)] w fun r w'=>r=.returned (.bool false)/\eA 98 107 low w S v fs (dL 0) w':=by have cd:=c.cd;clear c;go_enter func34,ntmps34;go_wp2_with fail;refine(nV low S v fs 0 w h (by omega)).mono ?_;rintro r w1 ⟨rfl,b⟩;obtain⟨d,a,e⟩:=nX h (by decide) w1 b;clear b;rw[show decide ((0:Int)≠0)=false from rfl];have f:Hid _:=eA.same d a;clear d a h;go_wp2;go_ret;exact⟨rfl,f⟩
theorem JK(low D H S:Nat)(v:Value)(fs:List FD)(left:Int)(l:List UInt8)(w:World)(K:fN w D H S)(L:D≠S)(h:DS 98 107 low w S v fs left)(h0:left≠0)(O:-9223372036854775808<=left/\left<=9223372036854775807)(hl:fs.length<=3000000000)(a0:low<=w.heap.size)(u:∀f∈fs,f.d.length<=3000000000):Calls pG 34 #[P0 (Y ⟨D,0,Z⟩),.string (dF l)] w fun r w'=>r=.returned (.bool true)/\eA 98 107 low w S v (fI fs l) (dL left) w':=by
 have cd:=K.cd;have z:D<w.heap.size:=(Array.getElem?_eq_some_iff.1 K.d).1;have y:=K.d;clear K;go_enter func34,ntmps34;go_wp2_with fail;refine(nV low S v fs left w h O).mono ?_;rintro r w1 ⟨rfl,E⟩;obtain⟨t,p,a8⟩:=nX h (by decide) w1 E;clear E;rw[show decide (left≠0)=true by simpa using h0];have q:=(p.block D z L).trans y;have N:w1.cell? ⟨D,0,Z⟩=Y (P0 (Y ⟨S,0,Z⟩)):=by simp[World.cell?,q]
 have B:=t.cell 0;have a3:=t.free 0;simp at B;have m:=dA t;have X:=dA p;have M:Hid _:=q;have a7:=t.lt;have a5:D<w1.heap.size:=by omega
 clear h t p cd y q;go_wp2_with fail;refine(qV low S v fs (dL left) l w1 m (by omega)).mono ?_;rintro r w' ⟨rfl,e⟩;replace e:=e.symm;subst e;rcases rI fs l with⟨C,x⟩|⟨i,C,x,s⟩
 ·have V:Hid (fI fs l=fs):=by unfold Hid fI;rw[x]
  rw[C];have Q:Hid (eA 98 107 low w S v (fI fs l) (dL left) w1):=by unfold Hid;rw[V.out];exact eA.same m X
  clear C x;go_wp2;go_ret;exact⟨rfl,Q⟩
 ·have a4:=u fs[i] (List.getElem_mem s);rw[C];have W:fs.getD i i5=fs[i]:=by rw[List.getD_eq_getElem?_getD,List.getElem?_eq_getElem s,Option.getD_some]
  obtain⟨a,c,hv,o⟩:=k0 m.out.row;subst hv;obtain⟨g,ha,_,aa,k⟩:=o.resolve_left (by omega);subst ha;obtain⟨a9,j⟩:=sY m.out.row;have U:S≠g:=by intro e;subst e;rw[m.out.st]at j;simp at j
  have a1:D≠g:=by intro e;subst e;rw[M.out]at j;simp at j
  have j0:=k _ _ (kD fs i s 0 (by omega));have j1:=k _ _ (kD fs i s 1 (by omega));have j2:=k _ _ (kD fs i s 2 (by omega));simp[FD.cells]at j0 j1 j2;have k1:=m.out.row.frozenAt (i*3+1);have k2:=m.out.row.frozenAt (i*3+2);have a6:(i:Int)<(fs.length:Int):=by omega
  have V:Hid (fI fs l=fs.set i ⟨fs[i].n,fs[i].d,fs[i].d.length⟩):=by unfold Hid fI;rw[x];simp only[W]
  have hp:=m.out.kz U i s 2 (by omega) ⟨fs[i].n,fs[i].d,fs[i].d.length⟩ (by intro k' t h2;rcases(show k'=0∨k'=1 by omega) with rfl|rfl<;>rfl);have Q:Hid (eA 98 107 low w S (J (Y ⟨g,0,Z⟩) fs.length c) (fI fs l) (dL left) (w1.setCell ⟨g,i*3+2,Z⟩ (I T (fs[i].d.length:Int)))):=by unfold Hid;rw[V.out];exact eA.pre X ⟨_,hp,(fR.set w1 g (i*3+2) _).mono (fun b O=>.inr (by rw[O];rfl)),fun g' R=>.inl R⟩
  have a2:(dF fs[i].d).size=fs[i].d.length:=mU _;clear hp k o C x j u W;generalize fs[i]=F at*;have z1:(w1.setCell ⟨g,i*3+2,Z⟩ (I T (F.d.length:Int))).drew.cell? ⟨D,0,Z⟩=Y (P0 (Y ⟨S,0,Z⟩)):=(World.cell?_setCell_other _ _ _ _ (by intro e;have A:=congrArg Addr.block e;simp at A;omega)).trans N;have z2:(w1.setCell ⟨g,i*3+2,Z⟩ (I T (F.d.length:Int))).drew.cell? ⟨S,0,Z⟩=Y (J (Y ⟨g,0,Z⟩) fs.length c):=(World.cell?_setCell_other _ _ _ _ (by intro e;have A:=congrArg Addr.block e;simp at A;omega)).trans B;have z3:(w1.setCell ⟨g,i*3+2,Z⟩ (I T (F.d.length:Int))).drew.cell? ⟨g,i*3+1,Z⟩=Y (.string (dF F.d)):=(World.cell?_setCell_other _ _ _ _ (by intro e;have A:=congrArg Addr.off e;simp at A)).trans j1;go_wp2_with fail;go_region_held3 (fun w'=>w'.cell? ⟨D,0,Z⟩=Y (P0 (Y ⟨S,0,Z⟩))/\w'.cell? ⟨S,0,Z⟩=Y (J (Y ⟨g,0,Z⟩) fs.length c)/\w'.cell? ⟨g,i*3+1,Z⟩=Y (.string (dF F.d))) (first|(exact⟨z1,z2,z3⟩)|go_keep) (fail);all_goals go_wp2
  all_goals go_ret
  all_goals exact⟨rfl,Q.out.drew⟩
theorem EL(low D H S:Nat)(v:Value)(fs:List FD)(g i:List UInt8)(w:World)(c:fN w D H S)(h:DS 98 107 low w S v fs 0):Calls pG 32 #[P0 (Y ⟨D,0,Z⟩),.string (dF g),.string (dF i)] w fun r w'=>r=.returned (.bool false)/\eA 98 107 low w S v fs (dL 0) w':=by have cd:=c.cd;clear c;go_enter func32,ntmps32;go_wp2_with fail;refine(nV low S v fs 0 w h (by omega)).mono ?_;rintro r w1 ⟨rfl,b⟩;obtain⟨d,a,e⟩:=nX h (by decide) w1 b;clear b;rw[show decide ((0:Int)≠0)=false from rfl];have f:Hid _:=eA.same d a;clear d a h;go_wp2;go_ret;exact⟨rfl,f⟩
theorem F5(low D H S:Nat)(v:Value)(fs:List FD)(left:Int)(e m:List UInt8)(w:World)(hH:fN w D H S)(a5:D≠S)(h:DS 98 107 low w S v fs left)(h0:left≠0)(hb:-9223372036854775808<=left/\left<=9223372036854775807)(hl:fs.length<=3000000000)(ax:low<=w.heap.size)(C:∀f∈fs,f.d.length+m.length<=3000000000)(av:m.length<=3000000000):Calls pG 32 #[P0 (Y ⟨D,0,Z⟩),.string (dF e),.string (dF m)] w fun r w'=>r=.returned (.bool true)/\eA 98 107 low w S v (eK fs e m) (dL left) w':=by
 have cd:=hH.cd;have ab:D<w.heap.size:=(Array.getElem?_eq_some_iff.1 hH.d).1;have aa:=hH.d;clear hH;go_enter func32,ntmps32;go_wp2_with fail;refine(nV low S v fs left w h hb).mono ?_;rintro r w1 ⟨rfl,a7⟩;obtain⟨E,U,aA⟩:=nX h (by decide) w1 a7;clear a7;rw[show decide (left≠0)=true by simpa using h0];have X:=(U.block D ab a5).trans aa;have V:w1.cell? ⟨D,0,Z⟩=Y (P0 (Y ⟨S,0,Z⟩)):=by simp[World.cell?,X]
 have a1:=E.cell 0;have al:=E.free 0;simp at a1;have B:=dA E;have HK:=dA U;have a9:Hid _:=X;have ae:=E.lt;have ac:D<w1.heap.size:=by omega
 clear h E U cd aa X;go_wp2_with fail;refine(qV low S v fs (dL left) e w1 B (by omega)).mono ?_;rintro r w' ⟨rfl,l⟩;replace l:=l.symm;subst l;rcases rI fs e with⟨N,p⟩|⟨i,N,p,L⟩
 ·have HR:Hid (eK fs e m=fs++[⟨e,m,0⟩]):=by unfold Hid eK;rw[p]
  rw[N];obtain⟨i0,ak,am,ar,ah⟩:=info_parts tN;obtain⟨a,c,hv,A⟩:=k0 B.out.row;subst hv;have R:=B.out.off (by decide);have a3:Value.ownBlock (J a fs.length c)≠some D:=by
   intro l;rcases B.out.row.2 with⟨E,_⟩|⟨M,aE,ag,E,_,hg,_⟩;·rw[E]at l;simp[Value.ownBlock]at l
   ·rw[E]at l;simp[Value.ownBlock]at l;subst l;rw[a9.out]at hg;simp at hg
  have q1:(w1.alloc (G #[Value.string (dF e),Value.string ⟨#[]⟩,I T 0] 107)).drew.cell? ⟨S,0,Z⟩=Y (J a fs.length c):=(World.cell?_alloc_past _ _ _ ae).trans a1;have q2:(w1.alloc (G #[Value.string (dF e),Value.string ⟨#[]⟩,I T 0] 107)).drew.cell? ⟨D,0,Z⟩=Y (P0 (Y ⟨S,0,Z⟩)):=(World.cell?_alloc_past _ _ _ ac).trans V;clear N p A C;go_wp2_with fail;go_cut [7] from 22 to 38 (fun x wc=>x=I T (-1)/\∃v2,DS 98 107 low wc S v2 (fs++[⟨e,[],0⟩]) (dL left)/\fR (fun b=>b=S∨some b=Value.ownBlock (J a fs.length c)) w1 wc/\(∀g,v2.ownBlock=Y g->Value.ownBlock (J a fs.length c)=Y g∨w1.heap.size<=g)/\wc.heap[D]?=w1.heap[D]?);case first=>
   go_region_law (refine iQ rfl (.tmp 32) (.tmp 35) 96 rfl low 107 i0 (.agg #[.string ⟨#[]⟩,.string ⟨#[]⟩,I T 0]) 3 40 underlying96 ak am ar ah rfl (by decide) (J a fs.length c) fs.length (fs.flatMap FD.cells) (by simp[Act.eval]) (by exact(World.ownsRow.alloc B.out.row _).drew) ⟨w1.heap.size,0,Z⟩ 1 1 [Value.string (dF e),Value.string ⟨#[]⟩,I T 0] (by omega) (by simp[Act.eval]) rfl (by intro j u hu;rw[Go.WideShapes.add_plain];refine(World.cell?_alloc_at _ _ _ _ rfl).trans ?_;simpa using hu) (by intro u hu;simp at hu;rcases hu with rfl|rfl|rfl<;>rfl) (by unfold maxLen;omega) (by omega) (by show _<=(World.alloc _ _).heap.size;simp;omega) ?_;intro v' w2 a6 q O;obtain⟨va,vc,rfl⟩:=eB a6;have W:w2.heap[S]?=w1.heap[S]?:=(q.block S (by show _<(World.alloc _ _).heap.size;simp;omega) (Ne.symm R)).trans (heap_alloc_old w1 _ ae);have ad:w2.heap[D]?=w1.heap[D]?:=(q.block D (by show _<(World.alloc _ _).heap.size;simp;omega) (Ne.symm a3)).trans (heap_alloc_old w1 _ ac);have ks:w2.cell? ⟨S,0,Z⟩=Y (J a fs.length c):=(World.cell?_of_block (w:=w1) (a:=⟨S,0,Z⟩) W).trans a1;have kf:w2.frozen? ⟨S,0,Z⟩=false:=(World.frozen?_of_block (w:=w1) (a:=⟨S,0,Z⟩) W).trans al;have kd:w2.cell? ⟨D,0,Z⟩=Y (P0 (Y ⟨S,0,Z⟩)):=(World.cell?_of_block (w:=w1) (a:=⟨D,0,Z⟩) ad).trans V);all_goals go_wp2_with fail
   all_goals go_meet
   all_goals
    refine⟨rfl,J va (fs.length+1) vc,DS.store (low:=low) (low':=low) (W.trans B.out.st) ?_ r_ ?_,?_,?_,?_⟩
    ·rw[List.length_append,List.flatMap_append];simp only[List.length_cons,List.length_nil,List.flatMap_cons,List.flatMap_nil,List.append_nil];exact a6
    ·intro l;obtain⟨M,N,p⟩:=O;rw[N]at l;have aq:M=S:=by simpa using l
     subst aq;rcases p with p|⟨p,_⟩
     ·exact R p
     ·have:(World.alloc w1 (G #[Value.string (dF e),Value.string ⟨#[]⟩,I T 0] 107)).heap.size<=M:=p;simp at this;omega
    ·have k1:fR (fun b=>b=S∨some b=Value.ownBlock (J a fs.length c)) w1 w2:=⟨q.os,q.tape,q.output,Nat.le_trans (by show _<=(World.alloc _ _).heap.size;simp) q.size,fun k hk hA=>(q.block k (by show _<(World.alloc _ _).heap.size;simp;omega) (fun l=>hA (.inr l))).trans (heap_alloc_old w1 _ hk)⟩;exact k1.trans (fR.set w2 S 0 _) (fun b _ hb=>.inl hb)
    ·intro g hg;obtain⟨M,N,p⟩:=O;rw[N]at hg;have an:M=g:=by simpa using hg
     subst an;rcases p with p|⟨p,_⟩
     ·exact .inl p
     ·right;have:(World.alloc w1 (G #[Value.string (dF e),Value.string ⟨#[]⟩,I T 0] 107)).heap.size<=M:=p
      simp at this;omega
    ·exact((dH.setCell w2 ⟨S,0,Z⟩ _).block D a5).trans ad
  case rest=>
  obtain⟨rfl,v2,z,af,t,Q⟩:=hcut;have az:(fs++[(⟨e,[],0⟩:FD)]).length=fs.length+1:=by simp
  have L:fs.length<(fs++[(⟨e,[],0⟩:FD)]).length:=by omega
  have eF:(fs++[(⟨e,[],0⟩:FD)])[fs.length]=⟨e,[],0⟩:=by simp
  have a8:Hid ((fs++[(⟨e,[],0⟩:FD)]).set fs.length ⟨e,m,0⟩=fs++[⟨e,m,0⟩]):=by simp[Hid]
  obtain⟨a2,c2,ai,K⟩:=k0 z.row;subst ai;obtain⟨g,ha,_,aw,y⟩:=K.resolve_left (by omega);subst ha;obtain⟨ag,o⟩:=sY z.row;have a4:S≠g:=by intro l;subst l;rw[z.st]at o;simp at o
  have hp:=z.kz a4 fs.length L 1 (by omega) ⟨e,m,0⟩ (by intro k' E h2;rw[eF];rcases(show k'=0∨k'=2 by omega) with rfl|rfl<;>rfl);rw[a8.out]at hp;have j1:=y _ _ (kD _ fs.length L 1 (by omega));rw[eF]at j1;have k1:=z.row.frozenAt (fs.length*3+1);have ap:=z.cell 0;simp at ap;have aC:=(World.cell?_of_block (w:=w1) (a:=⟨D,0,Z⟩) Q).trans V;have ee:dF []++dF m=dF m:=by rw[xS];rfl
  have HD:Hid (eA 98 107 low w S (J a fs.length c) (eK fs e m) (dL left) (wc.setCell ⟨g,fs.length*3+1,Z⟩ (.string (dF []++dF m)))):=by
   unfold Hid;rw[HR.out,ee];refine eA.pre HK ⟨_,hp,af.trans (fR.set wc g (fs.length*3+1) _) (fun b aB ao=>?_),fun M a0=>t M a0⟩;subst ao;rcases t b rfl with l|l;·exact .inr l.symm
   ·omega
  have aj:(dF ([]:List UInt8)).size+(dF m).size<=3000000000:=by rw[mU,mU];simpa using av
  simp[FD.cells]at j1;clear hp z y K o t af Q eF L ee;go_wp2;go_ret;exact⟨rfl,HD⟩
 ·have au:=C fs[i] (List.getElem_mem L);rw[N];have eD:fs.getD i i5=fs[i]:=by rw[List.getD_eq_getElem?_getD,List.getElem?_eq_getElem L,Option.getD_some]
  obtain⟨a,c,hv,A⟩:=k0 B.out.row;subst hv;obtain⟨g,ha,_,aw,y⟩:=A.resolve_left (by omega);subst ha;obtain⟨ag,o⟩:=sY B.out.row;have a4:S≠g:=by intro l;subst l;rw[B.out.st]at o;simp at o
  have ay:D≠g:=by intro l;subst l;rw[a9.out]at o;simp at o
  have j0:=y _ _ (kD fs i L 0 (by omega));have j1:=y _ _ (kD fs i L 1 (by omega));have j2:=y _ _ (kD fs i L 2 (by omega));simp[FD.cells]at j0 j1 j2;have k1:=B.out.row.frozenAt (i*3+1);have k2:=B.out.row.frozenAt (i*3+2);have aD:(i:Int)<(fs.length:Int):=by omega
  have HR:Hid (eK fs e m=fs.set i ⟨fs[i].n,fs[i].d++m,fs[i].s⟩):=by unfold Hid eK;rw[p];simp only[eD]
  have hp:=B.out.kz a4 i L 1 (by omega) ⟨fs[i].n,fs[i].d++m,fs[i].s⟩ (by intro k' E h2;rcases(show k'=0∨k'=2 by omega) with rfl|rfl<;>rfl);have HD:Hid (eA 98 107 low w S (J (Y ⟨g,0,Z⟩) fs.length c) (eK fs e m) (dL left) (w1.setCell ⟨g,i*3+1,Z⟩ (.string (dF fs[i].d++dF m)))):=by unfold Hid;rw[HR.out,xS];exact eA.pre HK ⟨_,hp,(fR.set w1 g (i*3+1) _).mono (fun b hb=>.inr (by rw[hb];rfl)),fun M a0=>.inl a0⟩
  have aj:(dF fs[i].d).size+(dF m).size<=3000000000:=by rw[mU,mU];exact au
  clear hp y A N p o C eD;generalize fs[i]=F at*;go_wp2;go_ret;exact⟨rfl,HD⟩
def iN(fs:List FD)(a b:List UInt8):List FD:=match gM fs a with
 |none=>fs
 |some i=>if a=b then fs else dY (dY fs a) b++[⟨b,(fs.getD i i5).d,(fs.getD i i5).s⟩]
theorem EM(low D H S:Nat)(v:Value)(fs:List FD)(g i:List UInt8)(w:World)(c:fN w D H S)(h:DS 98 107 low w S v fs 0):Calls pG 36 #[P0 (Y ⟨D,0,Z⟩),.string (dF g),.string (dF i)] w fun r w'=>r=.returned (.bool false)/\eA 98 107 low w S v fs (dL 0) w':=by have cd:=c.cd;clear c;go_enter func36,ntmps36;go_wp2_with fail;refine(nV low S v fs 0 w h (by omega)).mono ?_;rintro r w1 ⟨rfl,b⟩;obtain⟨d,a,e⟩:=nX h (by decide) w1 b;clear b;rw[show decide ((0:Int)≠0)=false from rfl];have f:Hid _:=eA.same d a;clear d a h;go_wp2;go_ret;exact⟨rfl,f⟩
theorem F6(low D H S:Nat)(v:Value)(fs:List FD)(left:Int)(m l:List UInt8)(w:World)(hH:fN w D H S)(aw:D≠S)(h:DS 98 107 low w S v fs left)(h0:left≠0)(hb:-9223372036854775808<=left/\left<=9223372036854775807)(hl:fs.length<=3000000000)(bb:low<=w.heap.size):Calls pG 36 #[P0 (Y ⟨D,0,Z⟩),.string (dF m),.string (dF l)] w fun r w'=>r=.returned (.bool true)/\eA 98 107 low w S v (iN fs m l) (dL left) w':=by
 have cd:=hH.cd;have aN:D<w.heap.size:=(Array.getElem?_eq_some_iff.1 hH.d).1;have aM:=hH.d;clear hH;go_enter func36,ntmps36;go_wp2_with fail;refine(nV low S v fs left w h hb).mono ?_;rintro r w1 ⟨rfl,aJ⟩;obtain⟨h1,an,b5⟩:=nX h (by decide) w1 aJ;clear aJ;rw[show decide (left≠0)=true by simpa using h0];have ao:w1.heap[D]?=Y (.cells #[P0 (Y ⟨S,0,Z⟩)] 100 (0,0)):=(an.block D aN aw).trans aM;have aG:w1.cell? ⟨D,0,Z⟩=Y (P0 (Y ⟨S,0,Z⟩)):=by simp[World.cell?,ao]
 have aP:=h1.cell 0;have b3:=h1.free 0;simp at aP;have H1:=dA h1;have HK:=dA an;have b8:Hid _:=ao;have bg:=h1.lt;have aA:D<w1.heap.size:=by omega
 clear h h1 an cd aM ao;go_wp2_with fail;refine(qV low S v fs (dL left) m w1 H1 (by omega)).mono ?_;rintro r w' ⟨rfl,o⟩;replace o:=o.symm;subst o;rcases rI fs m with⟨e1,e2⟩|⟨i,e1,e2,e3⟩
 ·have HR:Hid (iN fs m l=fs):=by unfold Hid iN;rw[e2]
  rw[e1];have HD:Hid (eA 98 107 low w S v (iN fs m l) (dL left) w1):=by unfold Hid;rw[HR.out];exact eA.same H1 HK
  clear e1 e2;go_wp2;go_ret;exact⟨rfl,HD⟩
 ·by_cases O:m=l
  ·have HR:Hid (iN fs m l=fs):=by unfold Hid iN;rw[e2];exact if_pos O
   rw[e1];have HD:Hid (eA 98 107 low w S v (iN fs m l) (dL left) w1):=by unfold Hid;rw[HR.out];exact eA.same H1 HK
   have q:=p9 m l;rw[show(m==l)=true by simpa using O]at q;clear e1 e2 O;go_wp2;go_ret;exact⟨rfl,HD⟩
  rw[e1];have eD:fs.getD i i5=fs[i]:=by rw[List.getD_eq_getElem?_getD,List.getElem?_eq_getElem e3,Option.getD_some]
  obtain⟨a,c,hv,af⟩:=k0 H1.out.row;subst hv;obtain⟨g,ha,_,bl,a9⟩:=af.resolve_left (by omega);subst ha;obtain⟨bk,a2⟩:=sY H1.out.row;have bn:S≠g:=by intro o;subst o;rw[H1.out.st]at a2;simp at a2
  have bd:D≠g:=by intro o;subst o;rw[b8.out]at a2;simp at a2
  have j0:=a9 _ _ (kD fs i e3 0 (by omega));have j1:=a9 _ _ (kD fs i e3 1 (by omega));have j2:=a9 _ _ (kD fs i e3 2 (by omega));simp[FD.cells]at j0 j1 j2;have k1:=H1.out.row.frozenAt (i*3+1);have k2:=H1.out.row.frozenAt (i*3+2);have bj:(i:Int)<(fs.length:Int):=by omega
  have HR:Hid (iN fs m l=dY (dY fs m) l++[⟨l,fs[i].d,fs[i].s⟩]):=by unfold Hid iN;rw[e2];simp only[eD];exact if_neg O
  have q:=p9 m l;rw[show(m==l)=false by simpa using O]at q;obtain⟨i0,aH,ay,aK,aE⟩:=info_parts tN;clear a9 af e1 e2 a2 O eD;generalize fs[i]=F at*;have X:=a_ w1 (G #[Value.string (dF l),Value.string (dF F.d),I T (F.s:Int)] 107);have bf:(w1.alloc (G #[Value.string (dF l),Value.string (dF F.d),I T (F.s:Int)] 107)).heap.size=w1.heap.size+1:=by simp
  have av:∀i,(w1.alloc (G #[Value.string (dF l),Value.string (dF F.d),I T (F.s:Int)] 107)).cell? ⟨w1.heap.size,i,Z⟩=#[Value.string (dF l),Value.string (dF F.d),I T (F.s:Int)][i]?:=fun i=>World.cell?_alloc_at _ _ _ _ rfl;have H2:=dA (H1.out.later X);have au:(w1.alloc (G #[Value.string (dF l),Value.string (dF F.d),I T (F.s:Int)] 107)).cell? ⟨D,0,Z⟩=Y (P0 (Y ⟨S,0,Z⟩)):=(X.cell (by exact aA)).trans aG;have aO:(w1.alloc (G #[Value.string (dF l),Value.string (dF F.d),I T (F.s:Int)] 107)).heap[D]?=w1.heap[D]?:=X.block D aA;have aB:fR (fun b=>b=S) w (w1.alloc (G #[Value.string (dF l),Value.string (dF F.d),I T (F.s:Int)] 107)):=HK.out.trans (fR.of_below (A:=fun b=>b=S) X) (fun _ _ o=>o);have ax:Hid _:=aB;have aL:Hid _:=aO;clear aB aO X;go_wp2_with fail;generalize (w1.alloc (G #[Value.string (dF l),Value.string (dF F.d),I T (F.s:Int)] 107))=W2 at*;have ae:∀i,W2.cell? ⟨w.heap.size,i,Z⟩=#[Value.string (dF l),Value.string (dF F.d),I T (F.s:Int)][i]?:=by rw[←b5];exact av
  have ar:=H2.out.cell 0;have f2:=H2.out.free 0;simp at ar;have aC:=H2.out.lt;have aI:D<W2.heap.size:=by omega
  have b0:w.heap.size<W2.heap.size:=by omega
  clear av aP b3 aG j0 j1 j2 k1 k2;go_cut [8] from 40 to 51 (fun x wc=>x=P0 (Y ⟨w.heap.size,0,Z⟩)/\∃v3,DS 98 107 low wc S v3 (dY fs m) (dL left)/\(∀i,wc.cell? ⟨w.heap.size,i,Z⟩=#[Value.string (dF l),Value.string (dF F.d),I T (F.s:Int)][i]?)/\wc.heap[D]?=W2.heap[D]?/\fR (fun b=>b=S) w wc/\(∀g,v3.ownBlock=Y g->w.heap.size<g)/\w.heap.size<wc.heap.size);case first=>
   go_region_held3 (fun w'=>w'.cell? ⟨D,0,Z⟩=Y (P0 (Y ⟨S,0,Z⟩))) (first|assumption|(rw[World.cell?_setCell_other _ _ _ _ (by intro o;have h9:=congrArg Addr.block o;simp at h9;omega)];assumption)|go_keep) (first|(go_at_call 80;refine(sN low S _ fs (dL left) m W2.drew H2.out.drew hl).mono ?_;rintro r w3 ⟨v3,rfl,aq,t⟩;obtain⟨a3,c3,rfl,_⟩:=k0 aq;have kd:w3.cell? ⟨D,0,Z⟩=Y (P0 (Y ⟨S,0,Z⟩)):=(t.cell (by exact aI)).trans au;have ks:w3.cell? ⟨S,0,Z⟩=Y (J (Y ⟨g,0,Z⟩) fs.length c):=(t.cell (by exact aC)).trans ar;have kf:w3.frozen? ⟨S,0,Z⟩=false:=(t.frozen (by exact aC)).trans f2));all_goals go_wp2_with fail
   all_goals go_meet
   all_goals
    have h3:DS 98 107 low w3 S (J (Y ⟨g,0,Z⟩) fs.length c) fs (dL left):=H2.out.drew.later t;have aa:∀g,Value.ownBlock (J a3 (dY fs m).length c3)=Y g->W2.heap.size<=g:=fun g hg=>(World.ownsRow.lt aq g hg).1;have be:W2.heap.size<=w3.heap.size:=t.size;refine⟨rfl,J a3 (dY fs m).length c3,DS.store (low:=low) (low':=W2.heap.size) h3.st aq (by omega) (fun o=>by have:=aa S o;omega),fun i=>?_,?_,?_,fun g hg=>by have:=aa g hg;omega,?_⟩
    ·exact(World.cell?_setCell_other _ _ _ _ (by intro o;have h9:=congrArg Addr.block o;simp at h9;omega)).trans ((t.cell (by exact b0)).trans (ae i))
    ·exact((dH.setCell w3 ⟨S,0,Z⟩ _).block D aw).trans (t.block D aI)
    ·exact(ax.out.trans (B:=fun b=>b=S) ⟨t.os,t.tape,t.output,t.size,fun k hk _=>t.block k hk⟩ (fun _ _ o=>o)).trans (fR.set w3 S 0 _) (fun _ _ o=>o)
    ·rw[(dH.setCell w3 ⟨S,0,Z⟩ _).size];omega
  case rest=>
  obtain⟨rfl,v3,h4,M,ah,ai,ab,C⟩:=hcut;have aQ:wc.cell? ⟨D,0,Z⟩=Y (P0 (Y ⟨S,0,Z⟩)):=(World.cell?_of_block (w:=W2) (a:=⟨D,0,Z⟩) ah).trans au;have aj:=h4.cell 0;have f4:=h4.free 0;simp at aj;have E:=h4.lt;have Q:D<wc.heap.size:=by have:=ai.size;omega
  have bi:(dY fs m).length<=fs.length:=List.length_filter_le _ _;have bc:(dY (dY fs m) l).length<=(dY fs m).length:=List.length_filter_le _ _;have H4:Hid _:=h4;have W:Hid _:=ai;have bm:Hid _:=ab;clear h4 ai ab ah au ar f2 ae ax aL H2;have az:D<wc.drew.heap.size:=Q;have ag:S<wc.drew.heap.size:=E;have U:w.heap.size<wc.drew.heap.size:=C;have y:=a_ wc (G #[Value.string (dF l),Value.string (dF F.d),I T (F.s:Int)] 107);have aF:D<(wc.alloc (G #[Value.string (dF l),Value.string (dF F.d),I T (F.s:Int)] 107)).drew.heap.size:=by show _<(World.alloc _ _).heap.size;simp;omega
  have ad:S<(wc.alloc (G #[Value.string (dF l),Value.string (dF F.d),I T (F.s:Int)] 107)).drew.heap.size:=by show _<(World.alloc _ _).heap.size;simp;omega
  have V:w.heap.size<(wc.alloc (G #[Value.string (dF l),Value.string (dF F.d),I T (F.s:Int)] 107)).drew.heap.size:=by show _<(World.alloc _ _).heap.size;simp;omega
  have aU:(wc.alloc (G #[Value.string (dF l),Value.string (dF F.d),I T (F.s:Int)] 107)).drew.cell? ⟨D,0,Z⟩=Y (P0 (Y ⟨S,0,Z⟩)):=(y.cell (by exact Q)).trans aQ;have b1:(wc.alloc (G #[Value.string (dF l),Value.string (dF F.d),I T (F.s:Int)] 107)).drew.cell? ⟨S,0,Z⟩=Y v3:=(y.cell (by exact E)).trans aj;have fb:(wc.alloc (G #[Value.string (dF l),Value.string (dF F.d),I T (F.s:Int)] 107)).drew.frozen? ⟨S,0,Z⟩=false:=(y.frozen (by exact E)).trans f4;have al:∀i,(wc.alloc (G #[Value.string (dF l),Value.string (dF F.d),I T (F.s:Int)] 107)).drew.cell? ⟨w.heap.size,i,Z⟩=#[Value.string (dF l),Value.string (dF F.d),I T (F.s:Int)][i]?:=fun i=>(y.cell (by exact C)).trans (M i);have b9:=dA (H4.out.later y);have aS:=M 0;have b2:=M 1;have aR:=M 2;simp at aS b2 aR;go_wp2_with fail;go_region_held3 (fun w'=>w'.cell? ⟨D,0,Z⟩=Y (P0 (Y ⟨S,0,Z⟩))/\w'.cell? ⟨w.heap.size,0,Z⟩=Y (Value.string (dF l))/\w'.cell? ⟨w.heap.size,1,Z⟩=Y (Value.string (dF F.d))/\w'.cell? ⟨w.heap.size,2,Z⟩=Y (I T (F.s:Int))) (first|(and_intros<;>assumption)|(and_intros<;>first|(exact(World.cell?_setCell_other _ _ _ _ (by intro o;have h9:=congrArg Addr.block o;simp at h9;omega)).trans (by assumption))|(exact(World.cell?_alloc_past _ _ _ (by first|assumption|omega)).trans (by assumption)))|go_keep) (first|(go_at_call 80;refine(sN low S _ (dY fs m) (dL left) l wc.drew H4.out.drew (by omega)).mono ?_;rintro r n ⟨v5,rfl,L,e⟩;obtain⟨a5,c5,rfl,_⟩:=k0 L;have kd:n.cell? ⟨D,0,Z⟩=Y (P0 (Y ⟨S,0,Z⟩)):=(e.cell (by exact az)).trans aQ;have ks:n.cell? ⟨S,0,Z⟩=Y v3:=(e.cell (by exact ag)).trans aj;have kf:n.frozen? ⟨S,0,Z⟩=false:=(e.frozen (by exact ag)).trans f4;have ap:n.cell? ⟨w.heap.size,0,Z⟩=Y (Value.string (dF l)):=(e.cell (by exact U)).trans (M 0);have am:n.cell? ⟨w.heap.size,1,Z⟩=Y (Value.string (dF F.d)):=(e.cell (by exact U)).trans (M 1);have ak:n.cell? ⟨w.heap.size,2,Z⟩=Y (I T (F.s:Int)):=(e.cell (by exact U)).trans (M 2);have N:wc.heap.size<=n.heap.size:=Nat.le_trans r_ e.size;have a1:∀g,Value.ownBlock (J a5 (dY (dY fs m) l).length c5)=Y g->wc.heap.size<=g:=(fun g hg=>Nat.le_trans r_ (World.ownsRow.lt L g hg).1);have p:Below wc.heap.size wc n:=(by first|exact⟨e.os,e.tape,e.output,e.size,e.block⟩|exact y.trans ⟨e.os,e.tape,e.output,e.size,fun k hk=>e.block k (Nat.lt_of_lt_of_le hk (by show _<=(World.alloc _ _).heap.size;simp))⟩);have b4:w.heap.size<n.heap.size:=Nat.lt_of_lt_of_le C N;have ba:D<n.heap.size:=Nat.lt_of_lt_of_le Q N)|(go_at_call 80;refine(sN low S _ (dY fs m) (dL left) l (wc.alloc (G #[Value.string (dF l),Value.string (dF F.d),I T (F.s:Int)] 107)).drew b9.out.drew (by omega)).mono ?_;rintro r n ⟨v5,rfl,L,e⟩;obtain⟨a5,c5,rfl,_⟩:=k0 L;have kd:n.cell? ⟨D,0,Z⟩=Y (P0 (Y ⟨S,0,Z⟩)):=(e.cell (by exact aF)).trans aU;have ks:n.cell? ⟨S,0,Z⟩=Y v3:=(e.cell (by exact ad)).trans b1;have kf:n.frozen? ⟨S,0,Z⟩=false:=(e.frozen (by exact ad)).trans fb;have ap:n.cell? ⟨w.heap.size,0,Z⟩=Y (Value.string (dF l)):=(e.cell (by exact V)).trans (al 0);have am:n.cell? ⟨w.heap.size,1,Z⟩=Y (Value.string (dF F.d)):=(e.cell (by exact V)).trans (al 1);have ak:n.cell? ⟨w.heap.size,2,Z⟩=Y (I T (F.s:Int)):=(e.cell (by exact V)).trans (al 2);have N:wc.heap.size<=n.heap.size:=Nat.le_trans (by simp) e.size;have a1:∀g,Value.ownBlock (J a5 (dY (dY fs m) l).length c5)=Y g->wc.heap.size<=g:=(fun g hg=>Nat.le_trans (by simp) (World.ownsRow.lt L g hg).1);have p:Below wc.heap.size wc n:=(by first|exact⟨e.os,e.tape,e.output,e.size,e.block⟩|exact y.trans ⟨e.os,e.tape,e.output,e.size,fun k hk=>e.block k (Nat.lt_of_lt_of_le hk (by show _<=(World.alloc _ _).heap.size;simp))⟩);have b4:w.heap.size<n.heap.size:=Nat.lt_of_lt_of_le C N;have ba:D<n.heap.size:=Nat.lt_of_lt_of_le Q N)|(refine iQ rfl (.tmp 61) (.tmp 63) 96 rfl wc.heap.size 107 i0 (.agg #[.string ⟨#[]⟩,.string ⟨#[]⟩,I T 0]) 3 40 underlying96 aH ay aK aE rfl (by decide) (J a5 (dY (dY fs m) l).length c5) (dY (dY fs m) l).length ((dY (dY fs m) l).flatMap FD.cells) (by simp[Act.eval]) (World.ownsRow.alloc L _) ⟨n.heap.size,0,Z⟩ 1 1 [Value.string (dF l),Value.string (dF F.d),I T (F.s:Int)] (by omega) (by simp[Act.eval]) rfl (by intro j u hu;rw[Go.WideShapes.add_plain];refine(World.cell?_alloc_at _ _ _ _ rfl).trans ?_;simpa using hu) (by intro u hu;simp at hu;rcases hu with rfl|rfl|rfl<;>rfl) (by unfold maxLen;omega) (by omega) (by first|exact N|exact e.size|(show _<=(World.alloc _ _).heap.size;simp;omega)) ?_;intro v6 z a6 K a8;obtain⟨a0,R,rfl⟩:=eB a6;have f:∀k,k<wc.heap.size->z.heap[k]?=n.heap[k]?:=(fun k hk=>(K.block k (by show _<(World.alloc _ _).heap.size;simp;omega) (fun o=>by have h9:=a1 k o.symm;omega)).trans (heap_alloc_old n _ (by omega)));have aT:n.heap.size<=z.heap.size:=Nat.le_trans (by first|exact Nat.le_refl _|(show _<=(World.alloc _ _).heap.size;simp)) K.size;have aX:z.cell? ⟨D,0,Z⟩=Y (P0 (Y ⟨S,0,Z⟩)):=(World.cell?_of_block (w:=n) (a:=⟨D,0,Z⟩) (f D Q)).trans kd;have aV:z.cell? ⟨S,0,Z⟩=Y v3:=(World.cell?_of_block (w:=n) (a:=⟨S,0,Z⟩) (f S E)).trans ks;have aZ:z.frozen? ⟨S,0,Z⟩=false:=(World.frozen?_of_block (w:=n) (a:=⟨S,0,Z⟩) (f S E)).trans kf;have b6:z.cell? ⟨w.heap.size,0,Z⟩=Y (Value.string (dF l)):=(World.cell?_of_block (w:=n) (a:=⟨w.heap.size,0,Z⟩) (f _ C)).trans ap;have b7:z.cell? ⟨w.heap.size,1,Z⟩=Y (Value.string (dF F.d)):=(World.cell?_of_block (w:=n) (a:=⟨w.heap.size,1,Z⟩) (f _ C)).trans am;have aW:z.cell? ⟨w.heap.size,2,Z⟩=Y (I T (F.s:Int)):=(World.cell?_of_block (w:=n) (a:=⟨w.heap.size,2,Z⟩) (f _ C)).trans ak)|(refine iQ rfl (.tmp 61) (.tmp 63) 96 rfl (wc.alloc (G #[Value.string (dF l),Value.string (dF F.d),I T (F.s:Int)] 107)).heap.size 107 i0 (.agg #[.string ⟨#[]⟩,.string ⟨#[]⟩,I T 0]) 3 40 underlying96 aH ay aK aE rfl (by decide) (J a5 (dY (dY fs m) l).length c5) (dY (dY fs m) l).length ((dY (dY fs m) l).flatMap FD.cells) (by simp[Act.eval]) L ⟨wc.heap.size,0,Z⟩ 1 1 [Value.string (dF l),Value.string (dF F.d),I T (F.s:Int)] (by omega) (by simp[Act.eval]) rfl (by intro j u hu;rw[Go.WideShapes.add_plain];refine(e.cell (by show wc.heap.size<(World.alloc _ _).heap.size;simp)).trans ((World.cell?_alloc_at _ _ _ _ rfl).trans ?_);simpa using hu) (by intro u hu;simp at hu;rcases hu with rfl|rfl|rfl<;>rfl) (by unfold maxLen;omega) (by omega) (by first|exact N|exact e.size|(show _<=(World.alloc _ _).heap.size;simp;omega)) ?_;intro v6 z a6 K a8;obtain⟨a0,R,rfl⟩:=eB a6;have f:∀k,k<wc.heap.size->z.heap[k]?=n.heap[k]?:=(fun k hk=>K.block k (by omega) (fun o=>by have h9:=a1 k o.symm;omega));have aT:n.heap.size<=z.heap.size:=Nat.le_trans (by first|exact Nat.le_refl _|(show _<=(World.alloc _ _).heap.size;simp)) K.size;have aX:z.cell? ⟨D,0,Z⟩=Y (P0 (Y ⟨S,0,Z⟩)):=(World.cell?_of_block (w:=n) (a:=⟨D,0,Z⟩) (f D Q)).trans kd;have aV:z.cell? ⟨S,0,Z⟩=Y v3:=(World.cell?_of_block (w:=n) (a:=⟨S,0,Z⟩) (f S E)).trans ks;have aZ:z.frozen? ⟨S,0,Z⟩=false:=(World.frozen?_of_block (w:=n) (a:=⟨S,0,Z⟩) (f S E)).trans kf;have b6:z.cell? ⟨w.heap.size,0,Z⟩=Y (Value.string (dF l)):=(World.cell?_of_block (w:=n) (a:=⟨w.heap.size,0,Z⟩) (f _ C)).trans ap;have b7:z.cell? ⟨w.heap.size,1,Z⟩=Y (Value.string (dF F.d)):=(World.cell?_of_block (w:=n) (a:=⟨w.heap.size,1,Z⟩) (f _ C)).trans am;have aW:z.cell? ⟨w.heap.size,2,Z⟩=Y (I T (F.s:Int)):=(World.cell?_of_block (w:=n) (a:=⟨w.heap.size,2,Z⟩) (f _ C)).trans ak));all_goals
   have a4:z.ownsRow wc.heap.size 107 3 (J a0 ((dY (dY fs m) l).length+1) R) ((dY (dY fs m) l).length+1) ((dY (dY fs m) l).flatMap FD.cells++[Value.string (dF l),Value.string (dF F.d),I T (F.s:Int)]):=BA a6 (by first|exact Nat.le_refl _|simp);have a7:∀g,Value.ownBlock (J a0 ((dY (dY fs m) l).length+1) R)=Y g->wc.heap.size<=g:=fun g hg=>(World.ownsRow.lt a4 g hg).1;have ac:z.heap[S]?=Y (.cells #[v3,I T (dL left)] 98 (0,0)):=(f S E).trans ((p.block S E).trans H4.out.st);have bh:=W.out.size;have aD:fR (fun b=>b=S∨some b=Value.ownBlock (J (Y ⟨g,0,Z⟩) fs.length c)) w z:=⟨K.os.trans (p.os.trans W.out.os),K.tape.trans (p.tape.trans W.out.tape),K.output.trans (p.output.trans W.out.output),by have:=p.size;omega,fun k hk hA=>(f k (by omega)).trans ((p.block k (by omega)).trans (W.out.block k hk (fun o=>hA (.inl o))))⟩
   have HF:Hid (eA 98 107 low w S (J (Y ⟨g,0,Z⟩) fs.length c) (iN fs m l) (dL left) (z.setCell ⟨S,0,Z⟩ (J a0 ((dY (dY fs m) l).length+1) R))):=by
    unfold Hid;rw[HR.out];refine⟨J a0 ((dY (dY fs m) l).length+1) R,DS.store (low:=low) (low':=wc.heap.size) ac ?_ (by omega) (fun o=>by have:=a7 S o;omega),aD.trans (fR.set z S 0 _) (fun b _ hb=>.inl hb),fun g' aY=>.inr (by have:=a7 g' aY;omega)⟩;rw[List.length_append,List.flatMap_append];simp only[List.length_cons,List.length_nil,List.flatMap_cons,List.flatMap_nil,List.append_nil];exact a4
   clear a4 a7 ac aD a6 K a8 f L e p
  all_goals go_wp2
  all_goals go_ret
  all_goals exact⟨rfl,HF⟩
structure dI where
 k:Int
 f:Int
 e:Int
 b:Int
 wa:Int
 p:Int
 s:Int
 q:Int
 bl:Int
 v:Int
 a:Option Addr
 c:Nat
 zs:List Int
def dI.cells(m:dI):List Value:=[I T m.k,I T m.f,I T m.e,I T m.b,I T m.wa,I T m.p,I T m.s,I T m.q,I T m.bl,I T m.v,J m.a m.zs.length m.c]
def dI.ok(m:dI):Prop:=(-9223372036854775808<=m.k/\m.k<=9223372036854775807)/\(-9223372036854775808<=m.v/\m.v<=9223372036854775807)/\m.zs.length<=2000000
theorem DS.rowAt{ty e:TypeId}{low:Nat}{w:World}{S:Nat}{v:Value}{fs:List FD}{left:Int}(h:DS ty e low w S v fs left){g:Nat}(b:v.ownBlock=Y g):∃a,w.heap[g]?=Y (.cells a e (0,0)):=by
 rcases h.row.2 with⟨d,_⟩|⟨i,f,a,d,_,c,_⟩;·rw[d]at b;simp[Value.ownBlock]at b
 ·rw[d]at b;simp[Value.ownBlock]at b;subst b;exact⟨a,c⟩
theorem uJ(low D H S:Nat)(v:Value)(fs:List FD)(left:Int)(e a:List UInt8)(w:World)(l:fN w D H S)(j:D≠S)(h:DS 98 107 low w S v fs left)(m:-9223372036854775808<=left/\left<=9223372036854775807)(n:fs.length<=3000000000)(c:low<=w.heap.size)(b:∀f∈fs,f.d.length+a.length<=3000000000)(i:a.length<=3000000000):Calls pG 32 #[P0 (Y ⟨D,0,Z⟩),.string (dF e),.string (dF a)] w fun r w'=>r=.returned (.bool (decide (left≠0)))/\eA 98 107 low w S v (if left=0 then fs else eK fs e a) (dL left) w':=by
 by_cases g:left=0;·subst g;refine(EL low D H S v fs e a w l h).mono ?_;rintro r w' ⟨rfl,k⟩;exact⟨rfl,k⟩
 ·refine(F5 low D H S v fs left e a w l j h g m n c b i).mono ?_;rintro r w' ⟨rfl,k⟩;refine⟨?_,?_⟩;·rw[show decide (left≠0)=true by simpa using g]
  ·rw[if_neg g];exact k
theorem uR(low D H S:Nat)(v:Value)(fs:List FD)(left:Int)(b:List UInt8)(w:World)(j:fN w D H S)(e:D≠S)(h:DS 98 107 low w S v fs left)(k:-9223372036854775808<=left/\left<=9223372036854775807)(l:fs.length<=3000000000)(a:low<=w.heap.size)(i:∀f∈fs,f.d.length<=3000000000):Calls pG 34 #[P0 (Y ⟨D,0,Z⟩),.string (dF b)] w fun r w'=>r=.returned (.bool (decide (left≠0)))/\eA 98 107 low w S v (if left=0 then fs else fI fs b) (dL left) w':=by
 by_cases c:left=0;·subst c;refine(F4 low D H S v fs b w j h).mono ?_;rintro r w' ⟨rfl,g⟩;exact⟨rfl,g⟩
 ·refine(JK low D H S v fs left b w j e h c k l a i).mono ?_;rintro r w' ⟨rfl,g⟩;refine⟨?_,?_⟩;·rw[show decide (left≠0)=true by simpa using c]
  ·rw[if_neg c];exact g
theorem yA(low D H S:Nat)(v:Value)(fs:List FD)(left:Int)(b c:List UInt8)(w:World)(g:fN w D H S)(e:D≠S)(h:DS 98 107 low w S v fs left)(i:-9223372036854775808<=left/\left<=9223372036854775807)(j:fs.length<=3000000000)(a:low<=w.heap.size):Calls pG 36 #[P0 (Y ⟨D,0,Z⟩),.string (dF b),.string (dF c)] w fun r w'=>r=.returned (.bool (decide (left≠0)))/\eA 98 107 low w S v (if left=0 then fs else iN fs b c) (dL left) w':=by
 by_cases d:left=0;·subst d;refine(EM low D H S v fs b c w g h).mono ?_;rintro r w' ⟨rfl,f⟩;exact⟨rfl,f⟩
 ·refine(F6 low D H S v fs left b c w g e h d i j a).mono ?_;rintro r w' ⟨rfl,f⟩;refine⟨?_,?_⟩;·rw[show decide (left≠0)=true by simpa using d]
  ·rw[if_neg d];exact f
structure PD where
 D:Nat
 H:Nat
 S:Nat
 R:Nat
 va:Value
 vr:Value
 fs:List FD
 gs:List FD
 left:Int
section
variable {low:Nat} {w w':World} {p:PD} {B N:Nat}
end
section
variable {low:Nat} {w w':World} {lv:Value} {ps:List PD} {B N:Nat}
end
def mk(n i:Nat):Nat:=if i%2=0 then 1+n%251 else 1+n / 251%251
def vB(n j:Nat):Value:=.int .u8 (mk n j)
def vI(n:Nat)(_:Nat):Value:=I T (-1000 - (n:Int))
theorem yZ(k f:Nat)(b a:List Int)(c:k<11)(h:a.length<=4):(jM k f b a).length<=300:=by unfold jM;rw[List.length_append,lA,←yJ k f b a c];have:=yI k f b a 5 c h;omega
def nI(bs:List UInt8)(k f n1 n2 n3 n4 n5 n6 n7 n8:Int)(zs:List Int)(ec:Int):Prop:=
 (lD bs=true/\k=jC bs/\f=kX bs/\nH bs=[0,n1,n2,n3,n4,n5,n6,n7,n8,(zs.length:Int)]/\zs=(iM bs).vals/\ec=0)∨
 (lD bs=false/\k=0/\f=0/\n1=0/\n2=0/\n3=0/\n4=0/\n5=0/\n6=0/\n7=0/\n8=0/\zs=[]/\ec=2)
structure wC(w:World)(ao:Option Addr)(ms:List dI):Prop where
 arr:ms=[]∨∃g off,ao=Y ⟨g,off,Z⟩/\g<w.heap.size/\∀j (h:j<ms.length) i,i<11->w.cell? ⟨g,off+j*11+i,Z⟩=Y (ms[j].cells.getD i undef)
 vals:∀m∈ms,eX w m.a m.zs
theorem wC.later{w W:World}{c:Option Addr}{ms:List dI}(h:wC w c ms)(a:Below w.heap.size w W):wC W c ms:=by
 refine⟨?_,fun m d=>(h.vals m d).later a⟩;rcases h.arr with l|⟨g,off,f,b,k⟩;·exact .inl l
 ·exact .inr ⟨g,off,f,Nat.lt_of_lt_of_le b a.size,fun j e i hi=>(a.cell (by exact b)).trans (k j e i hi)⟩
def rL(bs:List UInt8)(o:Nat)(t:Nat):List UInt8:=(List.range t).map fun i=>bs.getD (o+i) 0
def rn(bs:List UInt8)(o:Nat)(t:Nat):Int:=oX (rL bs o t)
def rf(bs:List UInt8):Nat:=(bs.getD 1 0).toNat
def DT(bs:List UInt8)(t:Nat):List Int:=(List.range t).map fun i=>rn bs (19+8*i) 8
structure G9(w wr:World)(bs:List UInt8)(l:Value)(t:Nat):Prop where
 ten:∀i,i<10->wr.cell? ⟨w.heap.size+1,i,Z⟩=Y ([I T 9,I T ((rf bs:Nat):Int),I T (rn bs 2 8),I T 0,I T 0,I T 0,I T 0,I T (rn bs 10 8),I T 0,I T 0].getD i undef)
 at10:wr.cell? ⟨w.heap.size+1,10,Z⟩=Y l
 fr:∀i,wr.frozen? ⟨w.heap.size+1,i,Z⟩=false
 own:fL wr (w.heap.size+2) l (DT bs t)
 res:∀i,wr.cell? ⟨w.heap.size,i,Z⟩=#[I T 0,I T 0,I T 0,I T 0,I T 0,I T 0,I T 0,I T 0,I T 0,I T 0,J Z 0 0][i]?
 rfr:∀i,wr.frozen? ⟨w.heap.size,i,Z⟩=false
 bel:Below w.heap.size w wr
 siz:w.heap.size+2<=wr.heap.size
theorem G9.next{w wr d:World}{f:List UInt8}{l v':Value}{t:Nat}(h:G9 w wr f l t)(c:Below (w.heap.size+2) wr d)(g:fL d (w.heap.size+2) v' (DT f (t+1))):G9 w (d.setCell ⟨w.heap.size+1,10,Z⟩ v') f v' (t+1):=by
 have a:w.heap.size+1<w.heap.size+2:=by omega
 have b:w.heap.size<w.heap.size+2:=by omega
 refine⟨fun i hi=>?_,?_,fun i=>?_,?_,fun i=>?_,fun i=>?_,?_,?_⟩;·rw[World.cell?_setCell_other _ _ _ _ (by intro e;have:=congrArg Addr.off e;simp at this;omega)];exact(c.cell (by exact a)).trans (h.ten i hi)
 ·exact World.cell?_setCell_same _ _ _ ((c.cell (by exact a)).trans h.at10)
 ·rw[World.frozen?_setCell];exact(c.frozen (by exact a)).trans (h.fr i)
 ·exact ownsRow_setCell_below g (by exact a) _
 ·rw[World.cell?_setCell_other _ _ _ _ (by intro e;have:=congrArg Addr.block e;simp at this)];exact(c.cell (by exact b)).trans (h.res i)
 ·rw[World.frozen?_setCell];exact(c.frozen (by exact b)).trans (h.rfr i)
 ·exact Below.setCell (h.bel.trans (c.mono (by omega))) (by show w.heap.size<=w.heap.size+1;omega) _
 ·have:=h.siz;have:=c.size;simp[World.setCell];omega
end Go.Proofs.YtdcainmlcpafbaaGreatDoor
