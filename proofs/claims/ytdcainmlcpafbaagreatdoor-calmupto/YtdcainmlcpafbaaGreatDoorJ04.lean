import Derived.Test.YtdcainmlcpafbaaGreatDoorJ03
import Derived.Laws.CopyOwn
import Derived.Lib.BufferWrite
import Derived.Lib.LazyBuf
set_option linter.all false
set_option maxHeartbeats 8000000
set_option maxRecDepth 20000
namespace Go.Proofs.YtdcainmlcpafbaaGreatDoor
open Go.RowKit
open Value renaming slice->J,pointer->P0
open Tryz
open Tryz renaming prog->pG
open IntKind renaming i64->T
open Option renaming none->Z,some->Y
open Obj renaming cells->G
open Value (bool)
def CF(fs:List FD)(j:Nat):(fs.flatMap FD.cells)[j]?=if h:j / 3<fs.length then some (fs[j / 3].cells.getD (j%3) undef) else none:=by
 by_cases h:j / 3<fs.length;·rw[dif_pos h];have:=kZ fs (j / 3) h (j%3) oG;rwa[show j / 3*3+j%3=j by omega]at this
 ·rw[dif_neg h,List.getElem?_eq_none (by rw[CD];omega)]
def LX(fs:List FD)(i:Nat)(h:i<fs.length)(k:Nat)(l:k<3)(f':FD)(e:∀b,b<3->b≠k->f'.cells.getD b undef=fs[i].cells.getD b undef):(fs.flatMap FD.cells).set (i*3+k) (f'.cells.getD k undef)=(fs.set i f').flatMap FD.cells:=by
 apply List.ext_getElem?;intro j;rw[CF (fs.set i f') j];by_cases f:j=i*3+k;·subst f;rw[List.getElem?_set_self (by rw[CD];omega)];have c:(i*3+k) / 3=i:=oG;have g:(i*3+k)%3=k:=oG;rw[dif_pos (by rw[List.length_set,c];exact h)];simp only[c,g,List.getElem_set_self]
 ·rw[List.getElem?_set_ne oG,CF fs j];by_cases a:j / 3<fs.length
  ·rw[dif_pos a,dif_pos (by rw[List.length_set];exact a)];by_cases hi:j / 3=i;·have d:j%3≠k:=oG;have:=e (j%3) oG d;simp only[hi,List.getElem_set_self];rw[this]
   ·rw[List.getElem_set_ne oG]
  ·rw[dif_neg a,dif_neg (by rw[List.length_set];exact a)]
def DS.lm{ty e:TypeId}{low:Nat}{w:World}{S g c:Nat}{fs:List FD}{left:Int}(h:DS ty e low w S (J (Y ⟨g,0,Z⟩) fs.length c) fs left)(b:S≠g)(i:Nat)(hi:i<fs.length)(k:Nat)(d:k<3)(f':FD)(f:∀a,a<3->a≠k->f'.cells.getD a undef=fs[i].cells.getD a undef):DS ty e low (w.setCell ⟨g,i*3+k,Z⟩ (f'.cells.getD k undef)) S (J (Y ⟨g,0,Z⟩) fs.length c) (fs.set i f') left:=by refine⟨((dM.setCell w ⟨g,i*3+k,Z⟩ _).block S b).trans h.st,?_⟩;have:=(h.row.stored (i*3+k) (f'.cells.getD k undef)).1;rw[LX fs i hi k d f' f]at this;rw[List.length_set];exact this
def gA.mono{A B:Nat->Prop}{w w':World}(h:gA A w w')(a:∀b,A b->B b):gA B w w':=⟨h.os,h.tape,h.output,h.size,λk c d=>h.block k c (λe=>d (a k e))⟩
def uJ{w:World}{base e n g c:Nat}{xs:List Value}(h:w.ownsRow base e 3 (J (Y ⟨g,0,Z⟩) n c) n xs):∃a,w.1[g]?=Y (.cells a e (0,0)):=by
 rcases h.2 with⟨b,_⟩|⟨i,d,a,b,_,f,_⟩;·cases b
 ·cases b;exact⟨a,f⟩
def eL.drew{ty e:TypeId}{low S:Nat}{w w':World}{v:Value}{fs':List FD}{left':Int}(h:eL ty e low w S v fs' left' w'):eL ty e low w S v fs' left' w'.drew:=by obtain⟨v',b,a,c⟩:=h;exact⟨v',b.drew,⟨a.os,a.tape,a.output,a.size,a.block⟩,c⟩
def gK(fs:List FD)(nm:List UInt8):List FD:=match gX fs nm with
 |none=>fs
 |some i=>fs.set i ⟨(fs.getD i jJ).n,(fs.getD i jJ).d,(fs.getD i jJ).d.length⟩
def fJ(fs:List FD)(nm dt:List UInt8):List FD:=match gX fs nm with
 |none=>fs++[⟨nm,dt,0⟩]
 |some i=>fs.set i ⟨(fs.getD i jJ).n,(fs.getD i jJ).d++dt,(fs.getD i jJ).s⟩
def JB(low D H S:Nat)(v:Value)(fs:List FD)(e:List UInt8)(w:World)(c:fW w D H S)(h:DS 98 107 low w S v fs 0):Calls pG 34 #[P0 (Y ⟨D,0,Z⟩),.string (dL e)] w λr w'=>r=.returned (.bool false)/\eL 98 107 low w S v fs (eA 0) w':=by have cd:=c.cd;clear c;go_enter func34,ntmps34;go_wp2_with fail;refine(oY low S v fs 0 w h oG).mono ?_;rintro r w1 ⟨rfl,b⟩;obtain⟨d,a,f⟩:=pA h dG w1 b;clear b;rw[show decide ((0:Int)≠0)=false from rfl];have g:Hid _:=eL.same d a;clear d a h;go_wp2;go_ret;exact⟨rfl,g⟩
def LY(low D H S:Nat)(v:Value)(fs:List FD)(left:Int)(l:List UInt8)(w:World)(K:fW w D H S)(L:D≠S)(h:DS 98 107 low w S v fs left)(h0:left≠0)(M:-9223372036854775808<=left/\left<=9223372036854775807)(hl:fs.length<=60000000000)(W:low<=w.1.size)(B:∀f∈fs,f.d.length<=60000000000):Calls pG 34 #[P0 (Y ⟨D,0,Z⟩),.string (dL l)] w λr w'=>r=.returned (.bool true)/\eL 98 107 low w S v (gK fs l) (eA left) w':=by
 have cd:=K.cd;have u:D<w.1.size:=(Array.getElem?_eq_some_iff.1 K.d).1;have x:=K.d;clear K;go_enter func34,ntmps34;go_wp2_with fail;refine(oY low S v fs left w h M).mono ?_;rintro r w1 ⟨rfl,z⟩;obtain⟨s,p,a7⟩:=pA h dG w1 z;clear z;rw[show decide (left≠0)=true by simpa using h0];have q:=(p.block D u L).trans x;have Q:w1.cell? ⟨D,0,Z⟩=Y (P0 (Y ⟨S,0,Z⟩)):=by simp[World.cell?,q]
 have A:=s.cell 0;have a6:=s.free 0;simp at A;have m:=dF s;have HK:=dF p;have U:Hid _:=q;have a2:=s.lt;have a0:D<w1.1.size:=oG;clear h s p cd x q;go_wp2_with fail;refine(sR low S v fs (eA left) l w1 m oG).mono ?_;rintro r w' ⟨rfl,e⟩;replace e:=e.symm;subst e;rcases tD fs l with⟨E,y⟩|⟨i,E,y,t⟩
 ·have O:Hid (gK fs l=fs):=by unfold Hid gK;rw[y]
  rw[E];have V:Hid (eL 98 107 low w S v (gK fs l) (eA left) w1):=by unfold Hid;rw[O.out];exact eL.same m HK
  clear E y;go_wp2;go_ret;exact⟨rfl,V⟩
 ·have a8:=B fs[i] (List.getElem_mem t);rw[E];have eD:fs.getD i jJ=fs[i]:=by rw[List.getD_eq_getElem?_getD,List.getElem?_eq_getElem t,Option.getD_some]
  obtain⟨a,c,hv,o⟩:=lT m.row;subst hv;obtain⟨g,ha,_,a9,k⟩:=o.resolve_left oG;subst ha;obtain⟨a5,j⟩:=uJ m.row;have R:S≠g:=by intro e;subst e;rw[m.st]at j;simp at j
  have a1:D≠g:=by intro e;subst e;rw[U.out]at j;simp at j
  have j0:=k _ _ (kZ fs i t 0 oG);have X:=k _ _ (kZ fs i t 1 oG);have j2:=k _ _ (kZ fs i t 2 oG);simp[FD.cells]at j0 X j2;have k1:=m.row.frozenAt (i*3+1);have k2:=m.row.frozenAt (i*3+2);have a3:(i:Int)<(fs.length:Int):=oG;have O:Hid (gK fs l=fs.set i ⟨fs[i].n,fs[i].d,fs[i].d.length⟩):=by unfold Hid gK;rw[y];simp only[eD]
  have hp:=m.lm R i t 2 oG ⟨fs[i].n,fs[i].d,fs[i].d.length⟩ (by intro k' s h2;rcases(show k'=0∨k'=1 by omega) with rfl|rfl<;>rfl);have V:Hid (eL 98 107 low w S (J (Y ⟨g,0,Z⟩) fs.length c) (gK fs l) (eA left) (w1.setCell ⟨g,i*3+2,Z⟩ (I (fs[i].d.length:Int)))):=by unfold Hid;rw[O.out];exact eL.pre HK ⟨_,hp,(gA.set w1 g (i*3+2) _).mono (λb M=>.inr (by rw[M];rfl)),λg' N=>.inl N⟩
  have a4:(dL fs[i].d).size=fs[i].d.length:=oB _;clear hp k o E y j B eD;generalize fs[i]=F at*;have z1:(w1.setCell ⟨g,i*3+2,Z⟩ (I (F.d.length:Int))).drew.cell? ⟨D,0,Z⟩=Y (P0 (Y ⟨S,0,Z⟩)):=(World.cell?_setCell_other _ _ _ _ (by intro e;have C:=congrArg Addr.block e;simp at C;omega)).trans Q;have z2:(w1.setCell ⟨g,i*3+2,Z⟩ (I (F.d.length:Int))).drew.cell? ⟨S,0,Z⟩=Y (J (Y ⟨g,0,Z⟩) fs.length c):=(World.cell?_setCell_other _ _ _ _ (by intro e;have C:=congrArg Addr.block e;simp at C;omega)).trans A;have z3:(w1.setCell ⟨g,i*3+2,Z⟩ (I (F.d.length:Int))).drew.cell? ⟨g,i*3+1,Z⟩=Y (.string (dL F.d)):=(World.cell?_setCell_other _ _ _ _ (by intro e;have C:=congrArg Addr.off e;simp at C)).trans X;go_wp2_with fail;go_region_held3 (λw'=>w'.cell? ⟨D,0,Z⟩=Y (P0 (Y ⟨S,0,Z⟩))/\w'.cell? ⟨S,0,Z⟩=Y (J (Y ⟨g,0,Z⟩) fs.length c)/\w'.cell? ⟨g,i*3+1,Z⟩=Y (.string (dL F.d))) (first|(exact⟨z1,z2,z3⟩)|go_keep) (fail);all_goals go_wp2
  all_goals go_ret
  all_goals exact⟨rfl,V.drew⟩
def G4(low D H S:Nat)(v:Value)(fs:List FD)(e i:List UInt8)(w:World)(c:fW w D H S)(h:DS 98 107 low w S v fs 0):Calls pG 32 #[P0 (Y ⟨D,0,Z⟩),.string (dL e),.string (dL i)] w λr w'=>r=.returned (.bool false)/\eL 98 107 low w S v fs (eA 0) w':=by have cd:=c.cd;clear c;go_enter func32,ntmps32;go_wp2_with fail;refine(oY low S v fs 0 w h oG).mono ?_;rintro r w1 ⟨rfl,b⟩;obtain⟨d,a,f⟩:=pA h dG w1 b;clear b;rw[show decide ((0:Int)≠0)=false from rfl];have g:Hid _:=eL.same d a;clear d a h;go_wp2;go_ret;exact⟨rfl,g⟩
def JC(low D H S:Nat)(v:Value)(fs:List FD)(left:Int)(e m:List UInt8)(w:World)(hH:fW w D H S)(a5:D≠S)(h:DS 98 107 low w S v fs left)(h0:left≠0)(hb:-9223372036854775808<=left/\left<=9223372036854775807)(hl:fs.length<=60000000000)(ax:low<=w.1.size)(E:∀f∈fs,f.d.length+m.length<=60000000000)(ah:m.length<=60000000000):Calls pG 32 #[P0 (Y ⟨D,0,Z⟩),.string (dL e),.string (dL m)] w λr w'=>r=.returned (.bool true)/\eL 98 107 low w S v (fJ fs e m) (eA left) w':=by
 have cd:=hH.cd;have ab:D<w.1.size:=(Array.getElem?_eq_some_iff.1 hH.d).1;have a6:=hH.d;clear hH;go_enter func32,ntmps32;go_wp2_with fail;refine(oY low S v fs left w h hb).mono ?_;rintro r w1 ⟨rfl,a9⟩;obtain⟨K,W,aA⟩:=pA h dG w1 a9;clear a9;rw[show decide (left≠0)=true by simpa using h0];have V:=(W.block D ab a5).trans a6;have a3:w1.cell? ⟨D,0,Z⟩=Y (P0 (Y ⟨S,0,Z⟩)):=by simp[World.cell?,V]
 have a1:=K.cell 0;have am:=K.free 0;simp at a1;have B:=dF K;have HK:=dF W;have af:Hid _:=V;have ae:=K.lt;have a7:D<w1.1.size:=oG;clear h K W cd a6 V;go_wp2_with fail;refine(sR low S v fs (eA left) e w1 B oG).mono ?_;rintro r w' ⟨rfl,l⟩;replace l:=l.symm;subst l;rcases tD fs e with⟨N,p⟩|⟨i,N,p,L⟩
 ·have HR:Hid (fJ fs e m=fs++[⟨e,m,0⟩]):=by unfold Hid fJ;rw[p]
  rw[N];obtain⟨i0,aq,au,av,al⟩:=info_parts u6;obtain⟨a,c,hv,A⟩:=lT B.row;subst hv;have Q:=B.off dG;have U:Value.ownBlock (J a fs.length c)≠some D:=by
   intro l;rcases B.row.2 with⟨K,_⟩|⟨M,aB,a8,K,_,hg,_⟩;·rw[K]at l;simp[Value.ownBlock]at l
   ·rw[K]at l;simp[Value.ownBlock]at l;subst l;rw[af.out]at hg;simp at hg
  have q1:(w1.alloc (G #[Value.string (dL e),Value.string ⟨#[]⟩,I 0] 107)).drew.cell? ⟨S,0,Z⟩=Y (J a fs.length c):=(World.cell?_alloc_past _ _ _ ae).trans a1;have q2:(w1.alloc (G #[Value.string (dL e),Value.string ⟨#[]⟩,I 0] 107)).drew.cell? ⟨D,0,Z⟩=Y (P0 (Y ⟨S,0,Z⟩)):=(World.cell?_alloc_past _ _ _ a7).trans a3;clear N p A E;go_wp2_with fail;go_cut [7] from 22 to 38 (λx wc=>x=I (-1)/\∃v2,DS 98 107 low wc S v2 (fs++[⟨e,[],0⟩]) (eA left)/\gA (λb=>b=S∨some b=Value.ownBlock (J a fs.length c)) w1 wc/\(∀g,v2.ownBlock=Y g->Value.ownBlock (J a fs.length c)=Y g∨w1.1.size<=g)/\wc.1[D]?=w1.1[D]?);case first=>
   go_region_law (refine lG rfl (.tmp 32) (.tmp 35) 96 rfl low 107 i0 (.agg #[.string ⟨#[]⟩,.string ⟨#[]⟩,I 0]) 3 40 underlying96 aq au av al rfl dG (J a fs.length c) fs.length (fs.flatMap FD.cells) eG (by exact(World.ownsRow.alloc B.row _).drew) ⟨w1.1.size,0,Z⟩ 1 1 [Value.string (dL e),Value.string ⟨#[]⟩,I 0] oG eG rfl (by intro j u hu;rw[Go.WideShapes.add_plain];refine(World.cell?_alloc_at _ _ _ _ rfl).trans ?_;simpa using hu) (by intro u hu;simp at hu;rcases hu with rfl|rfl|rfl<;>rfl) xG oG (by show _<=(World.alloc _ _).1.size;simp;omega) ?_;intro v' w2 ag z R;obtain⟨va,vc,rfl⟩:=eK ag;have a0:w2.1[S]?=w1.1[S]?:=(z.block S (by show _<(World.alloc _ _).1.size;simp;omega) (Ne.symm Q)).trans (heap_alloc_old w1 _ ae);have ac:w2.1[D]?=w1.1[D]?:=(z.block D (by show _<(World.alloc _ _).1.size;simp;omega) (Ne.symm U)).trans (heap_alloc_old w1 _ a7);have ks:w2.cell? ⟨S,0,Z⟩=Y (J a fs.length c):=(World.cell?_of_block (w:=w1) (a:=⟨S,0,Z⟩) a0).trans a1;have kf:w2.frozen? ⟨S,0,Z⟩=false:=(World.frozen?_of_block (w:=w1) (a:=⟨S,0,Z⟩) a0).trans am;have kd:w2.cell? ⟨D,0,Z⟩=Y (P0 (Y ⟨S,0,Z⟩)):=(World.cell?_of_block (w:=w1) (a:=⟨D,0,Z⟩) ac).trans a3);all_goals go_wp2_with fail
   all_goals go_meet
   all_goals
    refine⟨rfl,J va (fs.length+1) vc,DS.store (low:=low) (low':=low) (a0.trans B.st) ?_ r_ ?_,?_,?_,?_⟩
    ·rw[List.length_append,List.flatMap_append];simp only[List.length_cons,List.length_nil,List.flatMap_cons,List.flatMap_nil,List.append_nil];exact ag
    ·intro l;obtain⟨M,N,p⟩:=R;rw[N]at l;have aj:M=S:=by simpa using l
     subst aj;rcases p with p|⟨p,_⟩
     ·exact Q p
     ·have:(World.alloc w1 (G #[Value.string (dL e),Value.string ⟨#[]⟩,I 0] 107)).1.size<=M:=p;simp at this;omega
    ·have k1:gA (λb=>b=S∨some b=Value.ownBlock (J a fs.length c)) w1 w2:=⟨z.os,z.tape,z.output,Nat.le_trans (by show _<=(World.alloc _ _).1.size;simp) z.size,λk hk hA=>(z.block k (by show _<(World.alloc _ _).1.size;simp;omega) (λl=>hA (.inr l))).trans (heap_alloc_old w1 _ hk)⟩;exact k1.trans (gA.set w2 S 0 _) (λb _ hb=>.inl hb)
    ·intro g hg;obtain⟨M,N,p⟩:=R;rw[N]at hg;have an:M=g:=by simpa using hg
     subst an;rcases p with p|⟨p,_⟩
     ·exact .inl p
     ·right;have:(World.alloc w1 (G #[Value.string (dL e),Value.string ⟨#[]⟩,I 0] 107)).1.size<=M:=p
      simp at this;omega
    ·exact((dM.setCell w2 ⟨S,0,Z⟩ _).block D a5).trans ac
  case rest=>
  obtain⟨rfl,v2,q,aa,t,O⟩:=hcut;have ay:(fs++[(⟨e,[],0⟩:FD)]).length=fs.length+1:=sG;have L:fs.length<(fs++[(⟨e,[],0⟩:FD)]).length:=oG;have eF:(fs++[(⟨e,[],0⟩:FD)])[fs.length]=⟨e,[],0⟩:=sG;have ad:Hid ((fs++[(⟨e,[],0⟩:FD)]).set fs.length ⟨e,m,0⟩=fs++[⟨e,m,0⟩]):=by simp[Hid]
  obtain⟨a2,c2,ai,C⟩:=lT q.row;subst ai;obtain⟨g,ha,_,ap,y⟩:=C.resolve_left oG;subst ha;obtain⟨a8,o⟩:=uJ q.row;have a4:S≠g:=by intro l;subst l;rw[q.st]at o;simp at o
  have hp:=q.lm a4 fs.length L 1 oG ⟨e,m,0⟩ (by intro k' K h2;rw[eF];rcases(show k'=0∨k'=2 by omega) with rfl|rfl<;>rfl);rw[ad.out]at hp;have j1:=y _ _ (kZ _ fs.length L 1 oG);rw[eF]at j1;have k1:=q.row.frozenAt (fs.length*3+1);have ar:=q.cell 0;simp at ar;have aD:=(World.cell?_of_block (w:=w1) (a:=⟨D,0,Z⟩) O).trans a3;have ee:dL []++dL m=dL m:=by rw[AA];rfl
  have HD:Hid (eL 98 107 low w S (J a fs.length c) (fJ fs e m) (eA left) (wc.setCell ⟨g,fs.length*3+1,Z⟩ (.string (dL []++dL m)))):=by
   unfold Hid;rw[HR.out,ee];refine eL.pre HK ⟨_,hp,aa.trans (gA.set wc g (fs.length*3+1) _) (λb aE aw=>?_),λM X=>t M X⟩;subst aw;rcases t b rfl with l|l;·exact .inr l.symm
   ·omega
  have ak:(dL ([]:List UInt8)).size+(dL m).size<=60000000000:=by rw[oB,oB];simpa using ah
  simp[FD.cells]at j1;clear hp q y C o t aa O eF L ee;go_wp2;go_ret;exact⟨rfl,HD⟩
 ·have ao:=E fs[i] (List.getElem_mem L);rw[N];have eD:fs.getD i jJ=fs[i]:=by rw[List.getD_eq_getElem?_getD,List.getElem?_eq_getElem L,Option.getD_some]
  obtain⟨a,c,hv,A⟩:=lT B.row;subst hv;obtain⟨g,ha,_,ap,y⟩:=A.resolve_left oG;subst ha;obtain⟨a8,o⟩:=uJ B.row;have a4:S≠g:=by intro l;subst l;rw[B.st]at o;simp at o
  have aC:D≠g:=by intro l;subst l;rw[af.out]at o;simp at o
  have j0:=y _ _ (kZ fs i L 0 oG);have j1:=y _ _ (kZ fs i L 1 oG);have j2:=y _ _ (kZ fs i L 2 oG);simp[FD.cells]at j0 j1 j2;have k1:=B.row.frozenAt (i*3+1);have k2:=B.row.frozenAt (i*3+2);have az:(i:Int)<(fs.length:Int):=oG;have HR:Hid (fJ fs e m=fs.set i ⟨fs[i].n,fs[i].d++m,fs[i].s⟩):=by unfold Hid fJ;rw[p];simp only[eD]
  have hp:=B.lm a4 i L 1 oG ⟨fs[i].n,fs[i].d++m,fs[i].s⟩ (by intro k' K h2;rcases(show k'=0∨k'=2 by omega) with rfl|rfl<;>rfl);have HD:Hid (eL 98 107 low w S (J (Y ⟨g,0,Z⟩) fs.length c) (fJ fs e m) (eA left) (w1.setCell ⟨g,i*3+1,Z⟩ (.string (dL fs[i].d++dL m)))):=by unfold Hid;rw[HR.out,AA];exact eL.pre HK ⟨_,hp,(gA.set w1 g (i*3+1) _).mono (λb hb=>.inr (by rw[hb];rfl)),λM X=>.inl X⟩
  have ak:(dL fs[i].d).size+(dL m).size<=60000000000:=by rw[oB,oB];exact ao
  clear hp y A N p o E eD;generalize fs[i]=F at*;go_wp2;go_ret;exact⟨rfl,HD⟩
def jF(fs:List FD)(a b:List UInt8):List FD:=match gX fs a with
 |none=>fs
 |some i=>if a=b then fs else eC (eC fs a) b++[⟨b,(fs.getD i jJ).d,(fs.getD i jJ).s⟩]
def G5(low D H S:Nat)(v:Value)(fs:List FD)(e i:List UInt8)(w:World)(c:fW w D H S)(h:DS 98 107 low w S v fs 0):Calls pG 36 #[P0 (Y ⟨D,0,Z⟩),.string (dL e),.string (dL i)] w λr w'=>r=.returned (.bool false)/\eL 98 107 low w S v fs (eA 0) w':=by have cd:=c.cd;clear c;go_enter func36,ntmps36;go_wp2_with fail;refine(oY low S v fs 0 w h oG).mono ?_;rintro r w1 ⟨rfl,b⟩;obtain⟨d,a,f⟩:=pA h dG w1 b;clear b;rw[show decide ((0:Int)≠0)=false from rfl];have g:Hid _:=eL.same d a;clear d a h;go_wp2;go_ret;exact⟨rfl,g⟩
def JE(low D H S:Nat)(v:Value)(fs:List FD)(left:Int)(m l:List UInt8)(w:World)(hH:fW w D H S)(av:D≠S)(h:DS 98 107 low w S v fs left)(h0:left≠0)(hb:-9223372036854775808<=left/\left<=9223372036854775807)(hl:fs.length<=60000000000)(bb:low<=w.1.size):Calls pG 36 #[P0 (Y ⟨D,0,Z⟩),.string (dL m),.string (dL l)] w λr w'=>r=.returned (.bool true)/\eL 98 107 low w S v (jF fs m l) (eA left) w':=by
 have cd:=hH.cd;have aD:D<w.1.size:=(Array.getElem?_eq_some_iff.1 hH.d).1;have aw:=hH.d;clear hH;go_enter func36,ntmps36;go_wp2_with fail;refine(oY low S v fs left w h hb).mono ?_;rintro r w1 ⟨rfl,az⟩;obtain⟨h1,ao,b0⟩:=pA h dG w1 az;clear az;rw[show decide (left≠0)=true by simpa using h0];have al:w1.1[D]?=Y (.cells #[P0 (Y ⟨S,0,Z⟩)] 100 (0,0)):=(ao.block D aD av).trans aw;have aH:w1.cell? ⟨D,0,Z⟩=Y (P0 (Y ⟨S,0,Z⟩)):=by simp[World.cell?,al]
 have aG:=h1.cell 0;have aZ:=h1.free 0;simp at aG;have H1:=dF h1;have HK:=dF ao;have aX:Hid _:=al;have bm:=h1.lt;have aK:D<w1.1.size:=oG;clear h h1 ao cd aw al;go_wp2_with fail;refine(sR low S v fs (eA left) m w1 H1 oG).mono ?_;rintro r w' ⟨rfl,o⟩;replace o:=o.symm;subst o;rcases tD fs m with⟨e1,e2⟩|⟨i,e1,e2,e3⟩
 ·have HR:Hid (jF fs m l=fs):=by unfold Hid jF;rw[e2]
  rw[e1];have HD:Hid (eL 98 107 low w S v (jF fs m l) (eA left) w1):=by unfold Hid;rw[HR.out];exact eL.same H1 HK
  clear e1 e2;go_wp2;go_ret;exact⟨rfl,HD⟩
 ·by_cases Q:m=l
  ·have HR:Hid (jF fs m l=fs):=by unfold Hid jF;rw[e2];exact if_pos Q
   rw[e1];have HD:Hid (eL 98 107 low w S v (jF fs m l) (eA left) w1):=by unfold Hid;rw[HR.out];exact eL.same H1 HK
   have q:=rH m l;rw[show(m==l)=true by simpa using Q]at q;clear e1 e2 Q;go_wp2;go_ret;exact⟨rfl,HD⟩
  rw[e1];have eD:fs.getD i jJ=fs[i]:=by rw[List.getD_eq_getElem?_getD,List.getElem?_eq_getElem e3,Option.getD_some]
  obtain⟨a,c,hv,af⟩:=lT H1.row;subst hv;obtain⟨g,ha,_,bi,a9⟩:=af.resolve_left oG;subst ha;obtain⟨bf,a0⟩:=uJ H1.row;have bn:S≠g:=by intro o;subst o;rw[H1.st]at a0;simp at a0
  have bj:D≠g:=by intro o;subst o;rw[aX.out]at a0;simp at a0
  have j0:=a9 _ _ (kZ fs i e3 0 oG);have j1:=a9 _ _ (kZ fs i e3 1 oG);have j2:=a9 _ _ (kZ fs i e3 2 oG);simp[FD.cells]at j0 j1 j2;have k1:=H1.row.frozenAt (i*3+1);have k2:=H1.row.frozenAt (i*3+2);have be:(i:Int)<(fs.length:Int):=oG;have HR:Hid (jF fs m l=eC (eC fs m) l++[⟨l,fs[i].d,fs[i].s⟩]):=by unfold Hid jF;rw[e2];simp only[eD];exact if_neg Q
  have q:=rH m l;rw[show(m==l)=false by simpa using Q]at q;obtain⟨i0,aO,aC,aP,aM⟩:=info_parts u6;clear a9 af e1 e2 a0 Q eD;generalize fs[i]=F at*;have V:=(Below.refl w1.1.size w1).alloc r_ (G #[Value.string (dL l),Value.string (dL F.d),I (F.s:Int)] 107);have bg:(w1.alloc (G #[Value.string (dL l),Value.string (dL F.d),I (F.s:Int)] 107)).1.size=w1.1.size+1:=sG;have ax:∀i,(w1.alloc (G #[Value.string (dL l),Value.string (dL F.d),I (F.s:Int)] 107)).cell? ⟨w1.1.size,i,Z⟩=#[Value.string (dL l),Value.string (dL F.d),I (F.s:Int)][i]?:=λi=>World.cell?_alloc_at _ _ _ _ rfl;have H2:=dF (H1.later V);have aq:(w1.alloc (G #[Value.string (dL l),Value.string (dL F.d),I (F.s:Int)] 107)).cell? ⟨D,0,Z⟩=Y (P0 (Y ⟨S,0,Z⟩)):=(V.cell (by exact aK)).trans aH;have aJ:(w1.alloc (G #[Value.string (dL l),Value.string (dL F.d),I (F.s:Int)] 107)).1[D]?=w1.1[D]?:=V.block D aK;have aB:gA (λb=>b=S) w (w1.alloc (G #[Value.string (dL l),Value.string (dL F.d),I (F.s:Int)] 107)):=HK.trans (gA.of_below (A:=λb=>b=S) V) (λ_ _ o=>o);have aL:Hid _:=aB;have aE:Hid _:=aJ;clear aB aJ V;go_wp2_with fail;generalize (w1.alloc (G #[Value.string (dL l),Value.string (dL F.d),I (F.s:Int)] 107))=W2 at*;have ah:∀i,W2.cell? ⟨w.1.size,i,Z⟩=#[Value.string (dL l),Value.string (dL F.d),I (F.s:Int)][i]?:=by rw[←b0];exact ax
  have an:=H2.cell 0;have f2:=H2.free 0;simp at an;have aN:=H2.lt;have ay:D<W2.1.size:=oG;have b9:w.1.size<W2.1.size:=oG;clear ax aG aZ aH j0 j1 j2 k1 k2;go_cut [8] from 40 to 51 (λx wc=>x=P0 (Y ⟨w.1.size,0,Z⟩)/\∃v3,DS 98 107 low wc S v3 (eC fs m) (eA left)/\(∀i,wc.cell? ⟨w.1.size,i,Z⟩=#[Value.string (dL l),Value.string (dL F.d),I (F.s:Int)][i]?)/\wc.1[D]?=W2.1[D]?/\gA (λb=>b=S) w wc/\(∀g,v3.ownBlock=Y g->w.1.size<g)/\w.1.size<wc.1.size);case first=>
   go_region_held3 (λw'=>w'.cell? ⟨D,0,Z⟩=Y (P0 (Y ⟨S,0,Z⟩))) (first|assumption|(rw[World.cell?_setCell_other _ _ _ _ (by intro o;have h9:=congrArg Addr.block o;simp at h9;omega)];assumption)|go_keep) (first|(go_at_call 80;refine(t6 low S _ fs (eA left) m W2.drew H2.drew hl).mono ?_;rintro r w3 ⟨v3,rfl,ap,t⟩;obtain⟨a3,c3,rfl,_⟩:=lT ap;have kd:w3.cell? ⟨D,0,Z⟩=Y (P0 (Y ⟨S,0,Z⟩)):=(t.cell (by exact ay)).trans aq;have ks:w3.cell? ⟨S,0,Z⟩=Y (J (Y ⟨g,0,Z⟩) fs.length c):=(t.cell (by exact aN)).trans an;have kf:w3.frozen? ⟨S,0,Z⟩=false:=(t.frozen (by exact aN)).trans f2));all_goals go_wp2_with fail
   all_goals go_meet
   all_goals
    have h3:DS 98 107 low w3 S (J (Y ⟨g,0,Z⟩) fs.length c) fs (eA left):=H2.drew.later t;have ag:∀g,Value.ownBlock (J a3 (eC fs m).length c3)=Y g->W2.1.size<=g:=λg hg=>(World.ownsRow.lt ap g hg).1;have bd:W2.1.size<=w3.1.size:=t.size;refine⟨rfl,J a3 (eC fs m).length c3,DS.store (low:=low) (low':=W2.1.size) h3.st ap oG (λo=>by have:=ag S o;omega),λi=>?_,?_,?_,λg hg=>by have:=ag g hg;omega,?_⟩
    ·exact(World.cell?_setCell_other _ _ _ _ (by intro o;have h9:=congrArg Addr.block o;simp at h9;omega)).trans ((t.cell (by exact b9)).trans (ah i))
    ·exact((dM.setCell w3 ⟨S,0,Z⟩ _).block D av).trans (t.block D ay)
    ·exact(aL.trans (B:=λb=>b=S) ⟨t.os,t.tape,t.output,t.size,λk hk _=>t.block k hk⟩ (λ_ _ o=>o)).trans (gA.set w3 S 0 _) (λ_ _ o=>o)
    ·rw[(dM.setCell w3 ⟨S,0,Z⟩ _).size];omega
  case rest=>
  obtain⟨rfl,v3,h4,N,ae,au,ad,C⟩:=hcut;have aI:wc.cell? ⟨D,0,Z⟩=Y (P0 (Y ⟨S,0,Z⟩)):=(World.cell?_of_block (w:=W2) (a:=⟨D,0,Z⟩) ae).trans aq;have am:=h4.cell 0;have f4:=h4.free 0;simp at am;have K:=h4.lt;have O:D<wc.1.size:=by have:=au.size;omega
  have bl:(eC fs m).length<=fs.length:=List.length_filter_le _ _;have bc:(eC (eC fs m) l).length<=(eC fs m).length:=List.length_filter_le _ _;have H4:Hid _:=h4;have a6:Hid _:=au;have bh:Hid _:=ad;clear h4 au ad ae aq an f2 ah aL aE H2;have aQ:D<wc.drew.1.size:=O;have ab:S<wc.drew.1.size:=K;have a4:w.1.size<wc.drew.1.size:=C;have y:=(Below.refl wc.1.size wc).alloc r_ (G #[Value.string (dL l),Value.string (dL F.d),I (F.s:Int)] 107);have aA:D<(wc.alloc (G #[Value.string (dL l),Value.string (dL F.d),I (F.s:Int)] 107)).drew.1.size:=by show _<(World.alloc _ _).1.size;simp;omega
  have aa:S<(wc.alloc (G #[Value.string (dL l),Value.string (dL F.d),I (F.s:Int)] 107)).drew.1.size:=by show _<(World.alloc _ _).1.size;simp;omega
  have U:w.1.size<(wc.alloc (G #[Value.string (dL l),Value.string (dL F.d),I (F.s:Int)] 107)).drew.1.size:=by show _<(World.alloc _ _).1.size;simp;omega
  have ba:(wc.alloc (G #[Value.string (dL l),Value.string (dL F.d),I (F.s:Int)] 107)).drew.cell? ⟨D,0,Z⟩=Y (P0 (Y ⟨S,0,Z⟩)):=(y.cell (by exact O)).trans aI;have aS:(wc.alloc (G #[Value.string (dL l),Value.string (dL F.d),I (F.s:Int)] 107)).drew.cell? ⟨S,0,Z⟩=Y v3:=(y.cell (by exact K)).trans am;have fb:(wc.alloc (G #[Value.string (dL l),Value.string (dL F.d),I (F.s:Int)] 107)).drew.frozen? ⟨S,0,Z⟩=false:=(y.frozen (by exact K)).trans f4;have ak:∀i,(wc.alloc (G #[Value.string (dL l),Value.string (dL F.d),I (F.s:Int)] 107)).drew.cell? ⟨w.1.size,i,Z⟩=#[Value.string (dL l),Value.string (dL F.d),I (F.s:Int)][i]?:=λi=>(y.cell (by exact C)).trans (N i);have b2:=dF (H4.later y);have aY:=N 0;have aW:=N 1;have b5:=N 2;simp at aY aW b5;go_wp2_with fail;go_region_held3 (λw'=>w'.cell? ⟨D,0,Z⟩=Y (P0 (Y ⟨S,0,Z⟩))/\w'.cell? ⟨w.1.size,0,Z⟩=Y (Value.string (dL l))/\w'.cell? ⟨w.1.size,1,Z⟩=Y (Value.string (dL F.d))/\w'.cell? ⟨w.1.size,2,Z⟩=Y (I (F.s:Int))) (first|(and_intros<;>assumption)|(and_intros<;>first|(exact(World.cell?_setCell_other _ _ _ _ (by intro o;have h9:=congrArg Addr.block o;simp at h9;omega)).trans (by assumption))|(exact(World.cell?_alloc_past _ _ _ (by first|assumption|omega)).trans (by assumption)))|go_keep) (first|(go_at_call 80;refine(t6 low S _ (eC fs m) (eA left) l wc.drew H4.drew oG).mono ?_;rintro r n ⟨v5,rfl,L,e⟩;obtain⟨a5,c5,rfl,_⟩:=lT L;have kd:n.cell? ⟨D,0,Z⟩=Y (P0 (Y ⟨S,0,Z⟩)):=(e.cell (by exact aQ)).trans aI;have ks:n.cell? ⟨S,0,Z⟩=Y v3:=(e.cell (by exact ab)).trans am;have kf:n.frozen? ⟨S,0,Z⟩=false:=(e.frozen (by exact ab)).trans f4;have ar:n.cell? ⟨w.1.size,0,Z⟩=Y (Value.string (dL l)):=(e.cell (by exact a4)).trans (N 0);have ai:n.cell? ⟨w.1.size,1,Z⟩=Y (Value.string (dL F.d)):=(e.cell (by exact a4)).trans (N 1);have aj:n.cell? ⟨w.1.size,2,Z⟩=Y (I (F.s:Int)):=(e.cell (by exact a4)).trans (N 2);have M:wc.1.size<=n.1.size:=Nat.le_trans r_ e.size;have a1:∀g,Value.ownBlock (J a5 (eC (eC fs m) l).length c5)=Y g->wc.1.size<=g:=(λg hg=>Nat.le_trans r_ (World.ownsRow.lt L g hg).1);have p:Bw wc n:=(by first|exact⟨e.os,e.tape,e.output,e.size,e.block⟩|exact y.trans ⟨e.os,e.tape,e.output,e.size,λk hk=>e.block k (Nat.lt_of_lt_of_le hk (by show _<=(World.alloc _ _).1.size;simp))⟩);have aR:w.1.size<n.1.size:=Nat.lt_of_lt_of_le C M;have b6:D<n.1.size:=Nat.lt_of_lt_of_le O M)|(go_at_call 80;refine(t6 low S _ (eC fs m) (eA left) l (wc.alloc (G #[Value.string (dL l),Value.string (dL F.d),I (F.s:Int)] 107)).drew b2.drew oG).mono ?_;rintro r n ⟨v5,rfl,L,e⟩;obtain⟨a5,c5,rfl,_⟩:=lT L;have kd:n.cell? ⟨D,0,Z⟩=Y (P0 (Y ⟨S,0,Z⟩)):=(e.cell (by exact aA)).trans ba;have ks:n.cell? ⟨S,0,Z⟩=Y v3:=(e.cell (by exact aa)).trans aS;have kf:n.frozen? ⟨S,0,Z⟩=false:=(e.frozen (by exact aa)).trans fb;have ar:n.cell? ⟨w.1.size,0,Z⟩=Y (Value.string (dL l)):=(e.cell (by exact U)).trans (ak 0);have ai:n.cell? ⟨w.1.size,1,Z⟩=Y (Value.string (dL F.d)):=(e.cell (by exact U)).trans (ak 1);have aj:n.cell? ⟨w.1.size,2,Z⟩=Y (I (F.s:Int)):=(e.cell (by exact U)).trans (ak 2);have M:wc.1.size<=n.1.size:=Nat.le_trans sG e.size;have a1:∀g,Value.ownBlock (J a5 (eC (eC fs m) l).length c5)=Y g->wc.1.size<=g:=(λg hg=>Nat.le_trans sG (World.ownsRow.lt L g hg).1);have p:Bw wc n:=(by first|exact⟨e.os,e.tape,e.output,e.size,e.block⟩|exact y.trans ⟨e.os,e.tape,e.output,e.size,λk hk=>e.block k (Nat.lt_of_lt_of_le hk (by show _<=(World.alloc _ _).1.size;simp))⟩);have aR:w.1.size<n.1.size:=Nat.lt_of_lt_of_le C M;have b6:D<n.1.size:=Nat.lt_of_lt_of_le O M)|(refine lG rfl (.tmp 61) (.tmp 63) 96 rfl wc.1.size 107 i0 (.agg #[.string ⟨#[]⟩,.string ⟨#[]⟩,I 0]) 3 40 underlying96 aO aC aP aM rfl dG (J a5 (eC (eC fs m) l).length c5) (eC (eC fs m) l).length ((eC (eC fs m) l).flatMap FD.cells) eG (World.ownsRow.alloc L _) ⟨n.1.size,0,Z⟩ 1 1 [Value.string (dL l),Value.string (dL F.d),I (F.s:Int)] oG eG rfl (by intro j u hu;rw[Go.WideShapes.add_plain];refine(World.cell?_alloc_at _ _ _ _ rfl).trans ?_;simpa using hu) (by intro u hu;simp at hu;rcases hu with rfl|rfl|rfl<;>rfl) xG oG (by first|exact M|exact e.size|(show _<=(World.alloc _ _).1.size;simp;omega)) ?_;intro v6 z W E a7;obtain⟨a8,a2,rfl⟩:=eK W;have f:∀k,k<wc.1.size->z.1[k]?=n.1[k]?:=(λk hk=>(E.block k (by show _<(World.alloc _ _).1.size;simp;omega) (λo=>by have h9:=a1 k o.symm;omega)).trans (heap_alloc_old n _ oG));have aT:n.1.size<=z.1.size:=Nat.le_trans (by first|exact Nat.le_refl _|(show _<=(World.alloc _ _).1.size;simp)) E.size;have b3:z.cell? ⟨D,0,Z⟩=Y (P0 (Y ⟨S,0,Z⟩)):=(World.cell?_of_block (w:=n) (a:=⟨D,0,Z⟩) (f D O)).trans kd;have b1:z.cell? ⟨S,0,Z⟩=Y v3:=(World.cell?_of_block (w:=n) (a:=⟨S,0,Z⟩) (f S K)).trans ks;have aV:z.frozen? ⟨S,0,Z⟩=false:=(World.frozen?_of_block (w:=n) (a:=⟨S,0,Z⟩) (f S K)).trans kf;have b7:z.cell? ⟨w.1.size,0,Z⟩=Y (Value.string (dL l)):=(World.cell?_of_block (w:=n) (a:=⟨w.1.size,0,Z⟩) (f _ C)).trans ar;have b4:z.cell? ⟨w.1.size,1,Z⟩=Y (Value.string (dL F.d)):=(World.cell?_of_block (w:=n) (a:=⟨w.1.size,1,Z⟩) (f _ C)).trans ai;have b8:z.cell? ⟨w.1.size,2,Z⟩=Y (I (F.s:Int)):=(World.cell?_of_block (w:=n) (a:=⟨w.1.size,2,Z⟩) (f _ C)).trans aj)|(refine lG rfl (.tmp 61) (.tmp 63) 96 rfl (wc.alloc (G #[Value.string (dL l),Value.string (dL F.d),I (F.s:Int)] 107)).1.size 107 i0 (.agg #[.string ⟨#[]⟩,.string ⟨#[]⟩,I 0]) 3 40 underlying96 aO aC aP aM rfl dG (J a5 (eC (eC fs m) l).length c5) (eC (eC fs m) l).length ((eC (eC fs m) l).flatMap FD.cells) eG L ⟨wc.1.size,0,Z⟩ 1 1 [Value.string (dL l),Value.string (dL F.d),I (F.s:Int)] oG eG rfl (by intro j u hu;rw[Go.WideShapes.add_plain];refine(e.cell (by show wc.1.size<(World.alloc _ _).1.size;simp)).trans ((World.cell?_alloc_at _ _ _ _ rfl).trans ?_);simpa using hu) (by intro u hu;simp at hu;rcases hu with rfl|rfl|rfl<;>rfl) xG oG (by first|exact M|exact e.size|(show _<=(World.alloc _ _).1.size;simp;omega)) ?_;intro v6 z W E a7;obtain⟨a8,a2,rfl⟩:=eK W;have f:∀k,k<wc.1.size->z.1[k]?=n.1[k]?:=(λk hk=>E.block k oG (λo=>by have h9:=a1 k o.symm;omega));have aT:n.1.size<=z.1.size:=Nat.le_trans (by first|exact Nat.le_refl _|(show _<=(World.alloc _ _).1.size;simp)) E.size;have b3:z.cell? ⟨D,0,Z⟩=Y (P0 (Y ⟨S,0,Z⟩)):=(World.cell?_of_block (w:=n) (a:=⟨D,0,Z⟩) (f D O)).trans kd;have b1:z.cell? ⟨S,0,Z⟩=Y v3:=(World.cell?_of_block (w:=n) (a:=⟨S,0,Z⟩) (f S K)).trans ks;have aV:z.frozen? ⟨S,0,Z⟩=false:=(World.frozen?_of_block (w:=n) (a:=⟨S,0,Z⟩) (f S K)).trans kf;have b7:z.cell? ⟨w.1.size,0,Z⟩=Y (Value.string (dL l)):=(World.cell?_of_block (w:=n) (a:=⟨w.1.size,0,Z⟩) (f _ C)).trans ar;have b4:z.cell? ⟨w.1.size,1,Z⟩=Y (Value.string (dL F.d)):=(World.cell?_of_block (w:=n) (a:=⟨w.1.size,1,Z⟩) (f _ C)).trans ai;have b8:z.cell? ⟨w.1.size,2,Z⟩=Y (I (F.s:Int)):=(World.cell?_of_block (w:=n) (a:=⟨w.1.size,2,Z⟩) (f _ C)).trans aj));all_goals
   have R:z.ownsRow wc.1.size 107 3 (J a8 ((eC (eC fs m) l).length+1) a2) ((eC (eC fs m) l).length+1) ((eC (eC fs m) l).flatMap FD.cells++[Value.string (dL l),Value.string (dL F.d),I (F.s:Int)]):=DL W (by first|exact Nat.le_refl _|simp);have X:∀g,Value.ownBlock (J a8 ((eC (eC fs m) l).length+1) a2)=Y g->wc.1.size<=g:=λg hg=>(World.ownsRow.lt R g hg).1;have ac:z.1[S]?=Y (.cells #[v3,I (eA left)] 98 (0,0)):=(f S K).trans ((p.block S K).trans H4.st);have bk:=a6.size;have aF:gA (λb=>b=S∨some b=Value.ownBlock (J (Y ⟨g,0,Z⟩) fs.length c)) w z:=⟨E.os.trans (p.os.trans a6.os),E.tape.trans (p.tape.trans a6.tape),E.output.trans (p.output.trans a6.output),by have:=p.size;omega,λk hk hA=>(f k oG).trans ((p.block k oG).trans (a6.block k hk (λo=>hA (.inl o))))⟩
   have HF:Hid (eL 98 107 low w S (J (Y ⟨g,0,Z⟩) fs.length c) (jF fs m l) (eA left) (z.setCell ⟨S,0,Z⟩ (J a8 ((eC (eC fs m) l).length+1) a2))):=by
    unfold Hid;rw[HR.out];refine⟨J a8 ((eC (eC fs m) l).length+1) a2,DS.store (low:=low) (low':=wc.1.size) ac ?_ oG (λo=>by have:=X S o;omega),aF.trans (gA.set z S 0 _) (λb _ hb=>.inl hb),λg' aU=>.inr (by have:=X g' aU;omega)⟩;rw[List.length_append,List.flatMap_append];simp only[List.length_cons,List.length_nil,List.flatMap_cons,List.flatMap_nil,List.append_nil];exact R
   clear R X ac aF W E a7 f L e p
  all_goals go_wp2
  all_goals go_ret
  all_goals exact⟨rfl,HF⟩
structure dN where
 k:Int
 f:Int
 e:Int
 b:Int
 wa:Int
 p:Int
 s:Int
 q:Int
 bl:Int
 v:Int
 a:Option Addr
 c:Nat
 zs:List Int
def dN.cells(m:dN):List Value:=[I m.k,I m.f,I m.e,I m.b,I m.wa,I m.p,I m.s,I m.q,I m.bl,I m.v,J m.a m.zs.length m.c]
def dN.ok(m:dN):Prop:=(-9223372036854775808<=m.k/\m.k<=9223372036854775807)/\(-9223372036854775808<=m.v/\m.v<=9223372036854775807)/\m.zs.length<=2000000
def DS.rowAt{ty e:TypeId}{low:Nat}{w:World}{S:Nat}{v:Value}{fs:List FD}{left:Int}(h:DS ty e low w S v fs left){g:Nat}(b:v.ownBlock=Y g):∃a,w.1[g]?=Y (.cells a e (0,0)):=by
 rcases h.row.2 with⟨c,_⟩|⟨i,f,a,c,_,d,_⟩;·rw[c]at b;simp[Value.ownBlock]at b
 ·rw[c]at b;simp[Value.ownBlock]at b;subst b;exact⟨a,d⟩
def AJ(low D H S:Nat)(v:Value)(fs:List FD)(left:Int)(e a:List UInt8)(w:World)(l:fW w D H S)(j:D≠S)(h:DS 98 107 low w S v fs left)(n:-9223372036854775808<=left/\left<=9223372036854775807)(m:fs.length<=60000000000)(b:low<=w.1.size)(c:∀f∈fs,f.d.length+a.length<=60000000000)(k:a.length<=60000000000):Calls pG 32 #[P0 (Y ⟨D,0,Z⟩),.string (dL e),.string (dL a)] w λr w'=>r=.returned (.bool (decide (left≠0)))/\eL 98 107 low w S v (if left=0 then fs else fJ fs e a) (eA left) w':=by
 by_cases g:left=0;·subst g;refine(G4 low D H S v fs e a w l h).mono ?_;rintro r w' ⟨rfl,i⟩;exact⟨rfl,i⟩
 ·refine(JC low D H S v fs left e a w l j h g n m b c k).mono ?_;rintro r w' ⟨rfl,i⟩;refine⟨?_,?_⟩;·rw[show decide (left≠0)=true by simpa using g]
  ·rw[if_neg g];exact i
def BN(low D H S:Nat)(v:Value)(fs:List FD)(left:Int)(b:List UInt8)(w:World)(j:fW w D H S)(g:D≠S)(h:DS 98 107 low w S v fs left)(l:-9223372036854775808<=left/\left<=9223372036854775807)(k:fs.length<=60000000000)(a:low<=w.1.size)(i:∀f∈fs,f.d.length<=60000000000):Calls pG 34 #[P0 (Y ⟨D,0,Z⟩),.string (dL b)] w λr w'=>r=.returned (.bool (decide (left≠0)))/\eL 98 107 low w S v (if left=0 then fs else gK fs b) (eA left) w':=by
 by_cases c:left=0;·subst c;refine(JB low D H S v fs b w j h).mono ?_;rintro r w' ⟨rfl,e⟩;exact⟨rfl,e⟩
 ·refine(LY low D H S v fs left b w j g h c l k a i).mono ?_;rintro r w' ⟨rfl,e⟩;refine⟨?_,?_⟩;·rw[show decide (left≠0)=true by simpa using c]
  ·rw[if_neg c];exact e
def IK(low D H S:Nat)(v:Value)(fs:List FD)(left:Int)(b d:List UInt8)(w:World)(g:fW w D H S)(f:D≠S)(h:DS 98 107 low w S v fs left)(j:-9223372036854775808<=left/\left<=9223372036854775807)(i:fs.length<=60000000000)(a:low<=w.1.size):Calls pG 36 #[P0 (Y ⟨D,0,Z⟩),.string (dL b),.string (dL d)] w λr w'=>r=.returned (.bool (decide (left≠0)))/\eL 98 107 low w S v (if left=0 then fs else jF fs b d) (eA left) w':=by
 by_cases c:left=0;·subst c;refine(G5 low D H S v fs b d w g h).mono ?_;rintro r w' ⟨rfl,e⟩;exact⟨rfl,e⟩
 ·refine(JE low D H S v fs left b d w g f h c j i a).mono ?_;rintro r w' ⟨rfl,e⟩;refine⟨?_,?_⟩;·rw[show decide (left≠0)=true by simpa using c]
  ·rw[if_neg c];exact e
structure PD where
 D:Nat
 H:Nat
 S:Nat
 R:Nat
 va:Value
 vr:Value
 fs:List FD
 gs:List FD
 left:Int
section
variable {low:Nat} {w w':World} {p:PD} {B N:Nat}
end
section
variable {low:Nat} {w w':World} {lv:Value} {ps:List PD} {B N:Nat}
end
def mk(n i:Nat):Nat:=if i%2=0 then 1+n%251 else 1+n / 251%251
def vB(n j:Nat):Value:=.int .u8 (mk n j)
def vI(n:Nat)(_:Nat):Value:=I (-1000 - (n:Int))
def BO(k f:Nat)(b a:List Int)(c:k<11)(h:a.length<=4):(kE k f b a).length<=300:=by unfold kE;rw[List.length_append,lX,←AT k f b a c];have:=AS k f b a 5 c h;omega
def pM(bs:List UInt8)(k f n1 n2 n3 n4 n5 n6 n7 n8:Int)(zs:List Int)(ec:Int):Prop:=
 (l8 bs=true/\k=jP bs/\f=lQ bs/\oK bs=[0,n1,n2,n3,n4,n5,n6,n7,n8,(zs.length:Int)]/\zs=(iX bs).vals/\ec=0)∨
 (l8 bs=false/\k=0/\f=0/\n1=0/\n2=0/\n3=0/\n4=0/\n5=0/\n6=0/\n7=0/\n8=0/\zs=[]/\ec=2)
structure yJ(w:World)(ao:Option Addr)(ms:List dN):Prop where
 arr:ms=[]∨∃g off,ao=Y ⟨g,off,Z⟩/\g<w.1.size/\∀j (h:j<ms.length) i,i<11->w.cell? ⟨g,off+j*11+i,Z⟩=Y (ms[j].cells.getD i undef)
 vals:∀m∈ms,fK w m.a m.zs
def yJ.later{w W:World}{b:Option Addr}{ms:List dN}(h:yJ w b ms)(a:Bw w W):yJ W b ms:=by
 refine⟨?_,λm d=>(h.vals m d).later a⟩;rcases h.arr with k|⟨g,off,f,c,l⟩;·exact .inl k
 ·exact .inr ⟨g,off,f,Nat.lt_of_lt_of_le c a.size,λj e i hi=>(a.cell (by exact c)).trans (l j e i hi)⟩
def rL(bs:List UInt8)(o:Nat)(t:Nat):List UInt8:=(List.range t).map λi=>bs.getD (o+i) 0
def rn(bs:List UInt8)(o:Nat)(t:Nat):Int:=qI (rL bs o t)
def rf(bs:List UInt8):Nat:=(bs.getD 1 0).toNat
def F9(bs:List UInt8)(t:Nat):List Int:=(List.range t).map λi=>rn bs (19+8*i) 8
structure G9(w wr:World)(bs:List UInt8)(l:Value)(t:Nat):Prop where
 ten:∀i,i<10->wr.cell? ⟨w.1.size+1,i,Z⟩=Y ([I 9,I ((rf bs:Nat):Int),I (rn bs 2 8),I 0,I 0,I 0,I 0,I (rn bs 10 8),I 0,I 0].getD i undef)
 at10:wr.cell? ⟨w.1.size+1,10,Z⟩=Y l
 fr:∀i,wr.frozen? ⟨w.1.size+1,i,Z⟩=false
 own:fU wr (w.1.size+2) l (F9 bs t)
 res:∀i,wr.cell? ⟨w.1.size,i,Z⟩=mz[i]?
 rfr:∀i,wr.frozen? ⟨w.1.size,i,Z⟩=false
 bel:Bw w wr
 siz:w.1.size+2<=wr.1.size
def G9.next{w wr e:World}{f:List UInt8}{l v':Value}{t:Nat}(h:G9 w wr f l t)(c:Below (w.1.size+2) wr e)(g:fU e (w.1.size+2) v' (F9 f (t+1))):G9 w (e.setCell ⟨w.1.size+1,10,Z⟩ v') f v' (t+1):=by
 have a:w.1.size+1<w.1.size+2:=oG;have b:w.1.size<w.1.size+2:=oG;refine⟨λi hi=>?_,?_,λi=>?_,?_,λi=>?_,λi=>?_,?_,?_⟩;·rw[World.cell?_setCell_other _ _ _ _ (by intro d;have:=congrArg Addr.off d;simp at this;omega)];exact(c.cell (by exact a)).trans (h.ten i hi)
 ·exact World.cell?_setCell_same _ _ _ ((c.cell (by exact a)).trans h.at10)
 ·rw[World.frozen?_setCell];exact(c.frozen (by exact a)).trans (h.fr i)
 ·exact ownsRow_setCell_below g (by exact a) _
 ·rw[World.cell?_setCell_other _ _ _ _ (by intro d;have:=congrArg Addr.block d;simp at this)];exact(c.cell (by exact b)).trans (h.res i)
 ·rw[World.frozen?_setCell];exact(c.frozen (by exact b)).trans (h.rfr i)
 ·exact Below.setCell (h.bel.trans (c.mono oG)) (by show w.1.size<=w.1.size+1;omega) _
 ·have:=h.siz;have:=c.size;simp[World.setCell];omega
end Go.Proofs.YtdcainmlcpafbaaGreatDoor
