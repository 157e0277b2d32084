import Derived.Test.YtdcainmlcpafbaaGreatDoorJ10
set_option linter.all false
set_option maxHeartbeats 8000000
set_option maxRecDepth 20000
namespace Go.Proofs.YtdcainmlcpafbaaGreatDoor
open Go.RowKit
open Value renaming int->I,slice->J,pointer->P0
open Tryz
open Tryz renaming prog->pG
open IntKind renaming i64->T
open Option renaming none->Z,some->Y
open Obj renaming cells->G
open Value (bool)
theorem eY.butR{w w':World}{B:Nat}{a:Option Addr}{n c:Nat}{cs:List Value}(h:eY w (J a n c) n cs)(b:dH B w w')(l:∀g o,a=Y ⟨g,o,Z⟩->g≠B):eY w' (J a n c) n cs:=by
 rcases h with h|⟨g,k,i,d,f⟩;·exact .inl h
 ·cases i;exact .inr ⟨g,_,rfl,by rw[b.size];exact d,fun j u e=>(b.cell (p:=⟨g,j,Z⟩) (l g 0 rfl)).trans (f j u e)⟩
theorem H8{w:World}{B:Nat}{cs:Array Value}{ty:TypeId}(h:dC w B cs ty):∀j u,cs.toList[j]?=Y u->w.cell? ((⟨B,0,Z⟩:Addr).add j)=Y u:=by
 intro j u d;have c:=h.cell j;have b:cs[j]?=Y u:=by simpa using d
 rw[b]at c;rw[←c];unfold Addr.add;by_cases a:j=0;·subst a;rfl
 ·rw[if_neg a];simp
theorem zF{w w':World}{a:Option Addr}{f:List Int}{base n:Nat}{d:Value}{xs:List Value}(h:eX w a f)(m:∀k,a=Y k->∃b,w.heap[k.block]?=Y (.cells b 3 (0,0)))(hs:w.heap.size<=w'.heap.size)(l:w.ownsRow base 136 11 d n xs)(p:∀g,g<w.heap.size->d.ownBlock≠some g->w'.heap[g]?=w.heap[g]?):eX w' a f:=by
 rcases h with h|⟨g,off,i,e,o⟩;·exact .inl h
 ·obtain⟨b,r⟩:=m _ i;have c:d.ownBlock≠some g:=iS l r (by decide);exact .inr ⟨g,off,i,Nat.lt_of_lt_of_le e hs,fun j q=>(nW (p g e c) _).trans (o j q)⟩
theorem CM{w:World}{g St:Nat}{cs:Array Value}(h:∃a,w.heap[g]?=Y (.cells a 3 (0,0)))(hS:dC w St cs 200):g≠St:=by obtain⟨a,b⟩:=h;intro c;rw[c,hS.blk]at b;simp at b
theorem zX{w:World}{base n c:Nat}{a:Addr}{xs:List Value}(h:w.ownsRow base 136 11 (J (Y a) n c) n xs):(J (Y a) n c).ownBlock=Y a.block:=by
 rcases h.2 with⟨f,_⟩|⟨g,e,b,d,_⟩;·cases f
 ·cases d;rfl
theorem tP{f:List FD->List FD}{a:Bool×List FD×Int}(h:i_ a.2.2):-9223372036854775808<=(fV f a).2.2/\(fV f a).2.2<=9223372036854775807:=by
 unfold fV;split;·exact lT h
 ·exact h
theorem ML{fs:List FD}{left:Int}(h:i_ left):-9223372036854775808<=(iL fs left).2.2/\(iL fs left).2.2<=9223372036854775807:=by
 unfold iL;split;·exact tP h
 ·exact h
theorem MM{fs:List FD}{left:Int}{l:List UInt8}(h:i_ left):-9223372036854775808<=(fZ fs left l).2.2/\(fZ fs left l).2.2<=9223372036854775807:=tP (tP (tP (ML h)))
theorem LI(ms:List dI):(ms.flatMap eQ).length<=301*ms.length:=by
 induction ms with
 |nil=>simp
 |cons m ms ih=>have:=BI m.k m.f m.e m.b m.wa m.p m.s m.q m.bl m.v m.zs;simp only[List.flatMap_cons,List.length_append,List.length_cons];unfold eQ at ih⊢;omega
theorem BJ{f:List FD->List FD}{a:Bool×List FD×Int}{P:List FD->Prop}(h:P a.2.1)(b:P (f a.2.1)):P (fV f a).2.1:=by
 unfold fV;split
 ·dsimp only;split;·exact h
  ·exact b
 ·exact h
theorem BK{fs:List FD}{L:Nat}(h:∀f∈fs,f.d.length<=L)(a b:List UInt8):(∀f∈iN fs a b,f.d.length<=L)/\(iN fs a b).length<=fs.length+1:=by
 unfold iN;split;·exact⟨h,by omega⟩
 ·rename_i i hi;split;·exact⟨h,by omega⟩
  ·have g:=rP h a;have e:=rP g.1 b;refine⟨fun f c=>?_,by simp;omega⟩;rcases List.mem_append.1 c with c|c;·exact e.1 f c
   ·simp at c;subst c;show(fs.getD i i5).d.length<=L;rw[List.getD_eq_getElem?_getD];cases hx:fs[i]? with
    |none=>simp[i5]
    |some y=>exact h y (List.mem_of_getElem? hx)
theorem MN{fs:List FD}{left:Int}{L:Nat}(h:∀f∈fs,f.d.length<=L):((iL fs left).1=true->dV (iL fs left).2.1 dQ=none)/\(∀f∈(iL fs left).2.1,f.d.length<=L)/\(iL fs left).2.1.length<=fs.length:=by
 have a:=rP h dQ;unfold iL;split
 ·next hs=>
  unfold fV;simp only[if_true];by_cases b:left=0;·simp only[b,if_true];exact⟨fun e=>by simp at e,h,Nat.le_refl _⟩
  ·simp only[b,if_false];refine⟨fun _=>?_,a.1,a.2⟩;unfold dV dY;rw[List.find?_eq_none];intro f c;have:=(List.mem_filter.1 c).2;simpa using this
 ·next hs=>
  refine⟨fun _=>?_,h,Nat.le_refl _⟩;simpa using hs
theorem MO{fs:List FD}{left:Int}{l:List UInt8}{L:Nat}(h:∀f∈fs,f.d.length<=L):(∀f∈(fZ fs left l).2.1,f.d.length<=Nat.max L l.length)/\(fZ fs left l).2.1.length<=fs.length+2:=by
 obtain⟨j,i,k⟩:=MN (left:=left) h;unfold fZ;generalize iL fs left=s0 at*;have b:∀f∈s0.2.1,f.d.length<=Nat.max L l.length:=fun f a=>Nat.le_trans (i f a) (Nat.le_max_left _ _);have c:(∀f∈(fV (fun z=>eK z dQ l) s0).2.1,f.d.length<=Nat.max L l.length)/\(fV (fun z=>eK z dQ l) s0).2.1.length<=fs.length+1:=by
  unfold fV;split
  ·next hs=>
   dsimp only;split;·exact⟨b,by omega⟩
   ·have g:eK s0.2.1 dQ l=s0.2.1++[⟨dQ,l,0⟩]:=by unfold eK;rw[(EO (j hs)).1]
    rw[g];refine⟨fun f a=>?_,by simp;omega⟩;rcases List.mem_append.1 a with a|a;·exact b f a
    ·simp at a;subst a;exact Nat.le_max_right _ _
  ·exact⟨b,by omega⟩
 generalize fV (fun z=>eK z dQ l) s0=s1 at*;have e:(∀f∈(fV (fun z=>fI z dQ) s1).2.1,f.d.length<=Nat.max L l.length)/\(fV (fun z=>fI z dQ) s1).2.1.length<=fs.length+1:=BJ (P:=fun z=>(∀f∈z,f.d.length<=Nat.max L l.length)/\z.length<=fs.length+1) c ⟨(rM c.1 dQ).1,by rw[(rM c.1 dQ).2];exact c.2⟩;generalize fV (fun z=>fI z dQ) s1=s2 at*;exact BJ (P:=fun z=>(∀f∈z,f.d.length<=Nat.max L l.length)/\z.length<=fs.length+2) ⟨e.1,by omega⟩ ⟨(BK e.1 dQ eP).1,by have:=(BK e.1 dQ eP).2;omega⟩
set_option maxRecDepth 20000 in
set_option maxHeartbeats 8000000 in
theorem H9(hSO:eW)(hBW:eZ)(hBS:fA)(low St:Nat)(d:SD)(vr:Value)(Mp D H S:Nat)(va:Value)(fs:List FD)(left:Int)(L:Nat)(k f e b wa p s q bl v:Int)(a:Option Addr)(R:List Int)(c:Nat)(w:World)(h:dZ w low St d vr Mp D)(hk:fS w low D H S va fs left L)(ht:dU w)(hz:eX w a R)(bg:2<=w.heap.size)(bC:low<=w.heap.size)(hL:L<=1200000000)(bI:d.recs.length<=1300000)(bK:d.di.length<=1300000)(bH:0<=d.lines/\d.lines<=100000000)(aK:2<=St)(aS:∀M,a=Y M->M.block≠St)(aH:0<d.recs.length)(bb:∀r∈d.recs,0<=r.E/\r.E<=10000000000000)(a9:d.wh=false∨(d.wh=true/\¬d.lines<64+2*((d.recs.length:Int)+2*(d.di.length:Int)))):Calls pG 236 #[P0 (Y ⟨St,0,Z⟩),.agg #[I T k,I T f,I T e,I T b,I T wa,I T p,I T s,I T q,I T bl,I T v,J a R.length c]] w fun r w'=>∃z C B,z.Perm (d.di.map (·.1))/\∃RW,RW=fZ fs left ((d.ig z C B++[(⟨k,f,e,b,wa,p,s,q,bl,v,a,c,R⟩:dI)]).flatMap eQ)/\r=.returned (.bool RW.1)/\∃aP,dZ w' low St {d with lines:=(d.recs.length:Int)+2*(d.di.length:Int)+1,wh:=true} vr Mp D/\fS w' low D H S aP RW.2.1 RW.2.2 (Nat.max (L+301) (301*(d.recs.length+2*d.di.length+1)))/\(∀g,aP.ownBlock=Y g->va.ownBlock=Y g∨w.heap.size<=g)/\dK (fun g=>g=St∨g=S∨va.ownBlock=Y g) w w':=by
 obtain⟨i0,b5,aM,b8,aV⟩:=info_parts vL;have aQ:=a_ w (G #[I T k,I T f,I T e,I T b,I T wa,I T p,I T s,I T q,I T bl,I T v,J a R.length c] 136);have HM:Hid (dC (w.alloc (G #[I T k,I T f,I T e,I T b,I T wa,I T p,I T s,I T q,I T bl,I T v,J a R.length c] 136)) w.heap.size #[I T k,I T f,I T e,I T b,I T wa,I T p,I T s,I T q,I T bl,I T v,J a R.length c] 136):=dC.new _ _ _;have HB:Hid (Below w.heap.size w (w.alloc (G #[I T k,I T f,I T e,I T b,I T wa,I T p,I T s,I T q,I T bl,I T v,J a R.length c] 136))):=aQ;have bm:Hid (dU w):=ht;have ba:Hid (eX w a R):=hz;have aA:Hid (dZ w low St d vr Mp D):=h;have bv:Hid (fS w low D H S va fs left L):=hk;have bD:=h.blk.lt;clear ht hz aQ h hk;have bp:d.wh=false∨(d.wh=true/\decide (d.lines<64+2*((d.recs.length:Int)+2*(d.di.length:Int)))=false):=a9.imp id (fun Q=>⟨Q.1,by simpa using Q.2⟩);clear a9;rcases bp with aJ|⟨aJ,bJ⟩;all_goals
  have bA:=dA aJ
  go_enter func236,ntmps236
  go_upto_region 1 with fail
  generalize (w.alloc (G #[I T k,I T f,I T e,I T b,I T wa,I T p,I T s,I T q,I T bl,I T v,J a R.length c] 136))=W0 at*
  have HS:Hid (dZ W0 low St d vr Mp D):=aA.out.later HB
  have c9:=HS.out.blk.cell 9
  have ab:=HS.out.blk.cell 10
  have c11:=HS.out.blk.cell 11
  simp at c9 ab c11
  rw[bA.out]at c11
  have bB:=HS.out.blk.lt
  have aO:=HB.out.size
  go_quiet ((go_at_call 255;exact Calls.quiet_of (yO low St d vr Mp D _ (HS.out.later (below_drewN b_ _)) (by omega) (by omega))))
  have aE:Below W0.heap.size W0 (W0.drewN nq):=below_drewN b_ _
  have y:Hid (dC (W0.drewN nq) w.heap.size #[I T k,I T f,I T e,I T b,I T wa,I T p,I T s,I T q,I T bl,I T v,J a R.length c] 136):=HM.out.later aE
  have aq:Hid (Below w.heap.size w (W0.drewN nq)):=HB.out.trans (aE.mono aO)
  generalize W0.drewN nq=W1 at*
  clear aE c9 ab c11 HM HB HS bB aO
  have ap:Hid (dZ W1 low St d vr Mp D):=aA.out.later aq
  have aX:=aq.out.size
  have aw:=y.out.lt
  go_upto_region 4 with fail
  go_cut [5] (fun s5 wx=>∃(a2:Option Addr) (c2:Nat) (ms:List dI),s5=J a2 ms.length c2/\ms.length=d.recs.length+2*d.di.length+1/\eY wx (J a2 ms.length c2) ms.length (ms.flatMap dI.cells)/\(∀M,a2=Y M->w.heap.size<=M.block)/\(∀m∈ms,eX wx m.a m.zs/\∀M,m.a=Y M->M.block≠St)/\Below w.heap.size w wx/\∃z C B,z.Perm (d.di.map (·.1))/\ms=d.ig z C B++[(⟨k,f,e,b,wa,p,s,q,bl,v,a,c,R⟩:dI)])
  case first=>
   have m0:=y.out.cell 0
   have m1:=y.out.cell 1
   have m2:=y.out.cell 2
   have m3:=y.out.cell 3
   have m4:=y.out.cell 4
   have m5:=y.out.cell 5
   have m6:=y.out.cell 6
   have m7:=y.out.cell 7
   have m8:=y.out.cell 8
   have m9:=y.out.cell 9
   have bz:=y.out.cell 10
   simp at m0 m1 m2 m3 m4 m5 m6 m7 m8 m9 bz
   refine wp_region_held_drew (S:=(fun w'=>w'.cell? ⟨w.heap.size,0,Z⟩=Y (I T k)/\w'.cell? ⟨w.heap.size,1,Z⟩=Y (I T f)/\w'.cell? ⟨w.heap.size,2,Z⟩=Y (I T e)/\w'.cell? ⟨w.heap.size,3,Z⟩=Y (I T b)/\w'.cell? ⟨w.heap.size,4,Z⟩=Y (I T wa)/\w'.cell? ⟨w.heap.size,5,Z⟩=Y (I T p)/\w'.cell? ⟨w.heap.size,6,Z⟩=Y (I T s)/\w'.cell? ⟨w.heap.size,7,Z⟩=Y (I T q)/\w'.cell? ⟨w.heap.size,8,Z⟩=Y (I T bl)/\w'.cell? ⟨w.heap.size,9,Z⟩=Y (I T v)/\w'.cell? ⟨w.heap.size,10,Z⟩=Y (J a R.length c))) (by kernel_rfl) (by(try dsimp only);(first|(and_intros<;>with_reducible assumption)|(and_intros<;>assumption)|go_keep)) (fun u=>?_)
   refine wpAnyH_take (i:=0) (v:=?_) rfl (by kernel_rfl) (by kernel_rfl) (by kernel_rfl) (fun _ _ _ h=>h) (Or.inl ⟨by rfl,?_⟩) (by assumption) ?_
   rotate_left
   ·intro w a6;(try dsimp only at a6);go_simp;(try with_reducible rfl)
   try simp only[Act.put,List.setIfInBounds_toArray,List.set_cons_zero,List.set_cons_succ]
   refine wpAnyH_take (i:=1) (v:=?_) rfl (by kernel_rfl) (by kernel_rfl) (by kernel_rfl) (fun _ _ _ h=>h) (Or.inl ⟨by rfl,?_⟩) (by assumption) ?_
   rotate_left
   ·intro w a6;(try dsimp only at a6);go_simp;(try with_reducible rfl)
   try simp only[Act.put,List.setIfInBounds_toArray,List.set_cons_zero,List.set_cons_succ]
   refine wpAnyH_take (i:=2) (v:=?_) rfl (by kernel_rfl) (by kernel_rfl) (by kernel_rfl) (fun _ _ _ h=>h) (Or.inl ⟨by rfl,?_⟩) (by assumption) ?_
   rotate_left
   ·intro w a6;(try dsimp only at a6);go_simp;(try with_reducible rfl)
   try simp only[Act.put,List.setIfInBounds_toArray,List.set_cons_zero,List.set_cons_succ]
   refine wpAnyH_take (i:=4) (v:=?_) rfl (by kernel_rfl) (by kernel_rfl) (by kernel_rfl) (fun _ _ _ h=>h) (Or.inl ⟨by rfl,?_⟩) (by assumption) ?_
   rotate_left
   ·intro w a6;(try dsimp only at a6);go_simp;(try with_reducible rfl)
   try simp only[Act.put,List.setIfInBounds_toArray,List.set_cons_zero,List.set_cons_succ]
   refine wpAnyH_ready (rs:=[3,5]) (by kernel_rfl) (by simp) ?_
   refine AllReadyH.cons rfl (fun K O=>?_) ?_
   ·(try go_simp)
    go_at_call 257
    refine(zE hSO low St d vr Mp D W1.drew ap.out.drew aH (by omega) (by omega) bb).mono ?_
    rintro r w3 ⟨a3,c3,z,C,B,rfl,U,am,ag,aj,F⟩
    have t:Hid (dC w3 w.heap.size _ 136):=y.out.drew.later F
    have ae:Hid (Below w.heap.size w w3):=aq.out.drew.trans (F.mono aX)
    have W:Hid (w3.ownsRow W1.heap.size 136 11 (J a3 (d.ig z C B).length c3) (d.ig z C B).length _):=am
    have au:W1.heap.size<=w3.heap.size:=F.size
    have aC:Hid (dC w3 St _ 200):=ap.out.blk.drew.later F
    have a0:(d.ig z C B).length=d.recs.length+2*d.di.length:=by rw[sZ,U.length_eq];simp;omega
    have ay:Hid (∀m∈d.ig z C B,eX w3 m.a m.zs):=ag
    have a7:Hid (∀m∈d.ig z C B,∀M,m.a=Y M->∃az,w3.heap[M.block]?=Y (.cells az 3 (0,0))):=aj
    have aD:Hid ((d.ig z C B).length=d.recs.length+2*d.di.length):=a0
    have bo:(d.ig z C B).length<=4000000:=by omega
    have ah:=dA U
    clear am ag aj F a0 U
    generalize af:d.ig z C B=MS at*
    have al:=dA af
    clear af
    have z0:=t.out.cell 0
    have z1:=t.out.cell 1
    have z2:=t.out.cell 2
    have z3:=t.out.cell 3
    have z4:=t.out.cell 4
    have z5:=t.out.cell 5
    have z6:=t.out.cell 6
    have z7:=t.out.cell 7
    have z8:=t.out.cell 8
    have z9:=t.out.cell 9
    have aa:=t.out.cell 10
    simp at z0 z1 z2 z3 z4 z5 z6 z7 z8 z9 aa
    refine O.out _ _ ?_ (fun u=>?_)
    ·(try dsimp only);(first|(and_intros<;>with_reducible assumption)|(and_intros<;>assumption)|go_keep)
    clear O K
    try simp only[Act.put,List.setIfInBounds_toArray,List.set_cons_zero,List.set_cons_succ]
    refine wpAnyH_ready (rs:=[5]) (by kernel_rfl) (by simp) ?_
    refine AllReadyH.cons rfl (fun K O=>?_) ?_
    ·(try go_simp)
     refine O.out _ _ ?_ (fun u=>?_)
     ·(try dsimp only);(first|(and_intros<;>with_reducible assumption)|(and_intros<;>assumption)|go_keep)
     clear O K
     try simp only[Act.put,List.setIfInBounds_toArray,List.set_cons_zero,List.set_cons_succ]
     refine wpAnyH_ready (rs:=[6]) (by kernel_rfl) (by simp) ?_
     refine AllReadyH.cons rfl (fun K O=>?_) ?_
     ·refine iQ rfl (.tmp 39) (.tmp 41) 22 rfl W1.heap.size 136 i0 (.agg #[I T 0,I T 0,I T 0,I T 0,I T 0,I T 0,I T 0,I T 0,I T 0,I T 0,J Z 0 0]) 11 104 underlying22 b5 aM b8 aV rfl (by decide) (J a3 MS.length c3) MS.length _ (by simp[Act.eval]) (World.ownsRow.alloc W _) ⟨w3.heap.size,0,Z⟩ 1 1 (dI.cells (⟨k,f,e,b,wa,p,s,q,bl,v,a,c,R⟩:dI)) (by omega) (by simp[Act.eval]) rfl (qW w3 w3.heap.size rfl (dI.cells (⟨k,f,e,b,wa,p,s,q,bl,v,a,c,R⟩:dI)) 136) (rO _) (by unfold maxLen;omega) (by omega) (by simp;omega) ?_
      intro v5 w5 a1 X a8
      obtain⟨xa,xc,rfl⟩:=eB a1
      have ai:Hid (∀g,g<w3.heap.size->(J a3 MS.length c3).ownBlock≠some g->w5.heap[g]?=w3.heap[g]?):=fun g hg hn=>(X.block g (by simp;omega) (fun Q=>hn Q.symm)).trans (heap_alloc_old _ _ hg)
      have aB:w3.heap.size<=w5.heap.size:=Nat.le_trans (by simp) X.size
      have a4:Hid (w5.ownsRow W1.heap.size 136 11 (J xa (MS.length+1) xc) (MS.length+1) (MS.flatMap dI.cells++dI.cells (⟨k,f,e,b,wa,p,s,q,bl,v,a,c,R⟩:dI))):=a1
      have aF:∀g,g<W1.heap.size->(J a3 MS.length c3).ownBlock≠some g:=fun g hg Q=>by have:=(W.out.lt g Q).1;omega
      have ao:Hid (Below w.heap.size w w5):=Below.grown (ae.out.alloc ae.out.size _) X (by simp;omega) (fun g hg=>by have:=(W.out.lt g hg).1;omega)
      have n:∀j,w5.cell? ⟨w.heap.size,j,Z⟩=w3.cell? ⟨w.heap.size,j,Z⟩:=fun j=>nW (ai.out w.heap.size t.out.lt (aF _ aw)) j
      have y0:=(n 0).trans z0
      have y1:=(n 1).trans z1
      have y2:=(n 2).trans z2
      have y3:=(n 3).trans z3
      have y4:=(n 4).trans z4
      have y5:=(n 5).trans z5
      have y6:=(n 6).trans z6
      have y7:=(n 7).trans z7
      have y8:=(n 8).trans z8
      have y9:=(n 9).trans z9
      have bf:=(n 10).trans aa
      clear n a1 X a8
      refine O.out _ _ ?_ (fun u=>?_)
      ·(try dsimp only);(first|(and_intros<;>with_reducible assumption)|(and_intros<;>assumption)|go_keep)
      clear O K
      try simp only[Act.put,List.setIfInBounds_toArray,List.set_cons_zero,List.set_cons_succ]
      refine wpAnyH_ready (rs:=[7]) (by kernel_rfl) (by simp) ?_
      refine AllReadyH.cons rfl (fun K O=>?_) ?_
      ·(try go_simp)
       refine O.out _ _ ?_ (fun u=>?_)
       ·(try dsimp only);(first|(and_intros<;>with_reducible assumption)|(and_intros<;>assumption)|go_keep)
       clear O K
       try simp only[Act.put,List.setIfInBounds_toArray,List.set_cons_zero,List.set_cons_succ]
       refine wpAnyH_done (by kernel_rfl) ?_ _
       go_wp2_with fail
       go_meet
       refine⟨xa,xc,MS++[(⟨k,f,e,b,wa,p,s,q,bl,v,a,c,R⟩:dI)],?_,?_,?_,?_,?_,ao,z,C,B,ah,by rw[al.out]⟩
       ·rw[List.length_append];rfl
       ·rw[List.length_append,aD.out];rfl
       ·have Q:=eY.gq a4
        rw[List.flatMap_append,List.length_append]
        simpa using Q
       ·intro M a5;subst a5;have Q:=(a4.out.lt M.block (zX a4)).1;omega
       ·intro m V
        rcases List.mem_append.1 V with V|V
        ·exact⟨zF (ay.out m V) (a7.out m V) aB W ai,fun M a5=>CM (a7.out m V M a5) aC⟩
        ·simp at V;subst V;exact⟨ba.out.later ao,aS⟩
      exact AllReadyH.nil
     exact AllReadyH.nil
    exact AllReadyH.nil
   refine AllReadyH.cons rfl (fun K O=>?_) ?_
   ·(try go_simp)
    refine O.out _ _ ?_ (fun u=>?_)
    ·(try dsimp only);(first|(and_intros<;>with_reducible assumption)|(and_intros<;>assumption)|go_keep)
    clear O K
    try simp only[Act.put,List.setIfInBounds_toArray,List.set_cons_zero,List.set_cons_succ]
    refine wpAnyH_ready (rs:=[3]) (by kernel_rfl) (by simp) ?_
    refine AllReadyH.cons rfl (fun K O=>?_) ?_
    ·(try go_simp)
     go_at_call 257
     refine(zE hSO low St d vr Mp D (W1.alloc (G #[I T k,I T f,I T e,I T b,I T wa,I T p,I T s,I T q,I T bl,I T v,J a R.length c] 136)).drew (ap.out.later (a_ _ _)).drew aH (by omega) (by omega) bb).mono ?_
     rintro r w3 ⟨a3,c3,z,C,B,rfl,U,am,ag,aj,F⟩
     have t:Hid (dC w3 w.heap.size _ 136):=(y.out.old _).drew.later F
     have ae:Hid (Below w.heap.size w w3):=(aq.out.alloc aX _).drew.trans (F.mono (by show _<=(World.alloc _ _).heap.size;simp;omega))
     have W:Hid (w3.ownsRow W1.heap.size 136 11 (J a3 (d.ig z C B).length c3) (d.ig z C B).length _):=mW am (by show _<=(World.alloc _ _).heap.size;simp)
     have bn:Hid (dC w3 W1.heap.size #[I T k,I T f,I T e,I T b,I T wa,I T p,I T s,I T q,I T bl,I T v,J a R.length c] 136):=(dC.new W1 _ _).drew.later F
     have au:W1.heap.size<=w3.heap.size:=Nat.le_trans (by show _<=(World.alloc _ _).heap.size;simp) F.size
     have aC:Hid (dC w3 St _ 200):=(ap.out.blk.old _).drew.later F
     have a0:(d.ig z C B).length=d.recs.length+2*d.di.length:=by rw[sZ,U.length_eq];simp;omega
     have ay:Hid (∀m∈d.ig z C B,eX w3 m.a m.zs):=ag
     have a7:Hid (∀m∈d.ig z C B,∀M,m.a=Y M->∃az,w3.heap[M.block]?=Y (.cells az 3 (0,0))):=aj
     have aD:Hid ((d.ig z C B).length=d.recs.length+2*d.di.length):=a0
     have bo:(d.ig z C B).length<=4000000:=by omega
     have ah:=dA U
     clear am ag aj F a0 U
     generalize af:d.ig z C B=MS at*
     have al:=dA af
     clear af
     have z0:=t.out.cell 0
     have z1:=t.out.cell 1
     have z2:=t.out.cell 2
     have z3:=t.out.cell 3
     have z4:=t.out.cell 4
     have z5:=t.out.cell 5
     have z6:=t.out.cell 6
     have z7:=t.out.cell 7
     have z8:=t.out.cell 8
     have z9:=t.out.cell 9
     have aa:=t.out.cell 10
     simp at z0 z1 z2 z3 z4 z5 z6 z7 z8 z9 aa
     refine O.out _ _ ?_ (fun u=>?_)
     ·(try dsimp only);(first|(and_intros<;>with_reducible assumption)|(and_intros<;>assumption)|go_keep)
     clear O K
     try simp only[Act.put,List.setIfInBounds_toArray,List.set_cons_zero,List.set_cons_succ]
     refine wpAnyH_ready (rs:=[6]) (by kernel_rfl) (by simp) ?_
     refine AllReadyH.cons rfl (fun K O=>?_) ?_
     ·refine iQ rfl (.tmp 39) (.tmp 41) 22 rfl W1.heap.size 136 i0 (.agg #[I T 0,I T 0,I T 0,I T 0,I T 0,I T 0,I T 0,I T 0,I T 0,I T 0,J Z 0 0]) 11 104 underlying22 b5 aM b8 aV rfl (by decide) (J a3 MS.length c3) MS.length _ (by simp[Act.eval]) W ⟨W1.heap.size,0,Z⟩ 1 1 (dI.cells (⟨k,f,e,b,wa,p,s,q,bl,v,a,c,R⟩:dI)) (by omega) (by simp[Act.eval]) rfl (H8 bn) (rO _) (by unfold maxLen;omega) (by omega) au ?_
      intro v5 w5 a1 X a8
      obtain⟨xa,xc,rfl⟩:=eB a1
      have ai:Hid (∀g,g<w3.heap.size->(J a3 MS.length c3).ownBlock≠some g->w5.heap[g]?=w3.heap[g]?):=fun g hg hn=>X.block g hg (fun Q=>hn Q.symm)
      have aB:w3.heap.size<=w5.heap.size:=X.size
      have a4:Hid (w5.ownsRow W1.heap.size 136 11 (J xa (MS.length+1) xc) (MS.length+1) (MS.flatMap dI.cells++dI.cells (⟨k,f,e,b,wa,p,s,q,bl,v,a,c,R⟩:dI))):=a1
      have aF:∀g,g<W1.heap.size->(J a3 MS.length c3).ownBlock≠some g:=fun g hg Q=>by have:=(W.out.lt g Q).1;omega
      have ao:Hid (Below w.heap.size w w5):=Below.grown ae X ae.out.size (fun g hg=>by have:=(W.out.lt g hg).1;omega)
      have n:∀j,w5.cell? ⟨w.heap.size,j,Z⟩=w3.cell? ⟨w.heap.size,j,Z⟩:=fun j=>nW (ai.out w.heap.size t.out.lt (aF _ aw)) j
      have y0:=(n 0).trans z0
      have y1:=(n 1).trans z1
      have y2:=(n 2).trans z2
      have y3:=(n 3).trans z3
      have y4:=(n 4).trans z4
      have y5:=(n 5).trans z5
      have y6:=(n 6).trans z6
      have y7:=(n 7).trans z7
      have y8:=(n 8).trans z8
      have y9:=(n 9).trans z9
      have bf:=(n 10).trans aa
      clear n a1 X a8
      refine O.out _ _ ?_ (fun u=>?_)
      ·(try dsimp only);(first|(and_intros<;>with_reducible assumption)|(and_intros<;>assumption)|go_keep)
      clear O K
      try simp only[Act.put,List.setIfInBounds_toArray,List.set_cons_zero,List.set_cons_succ]
      refine wpAnyH_ready (rs:=[7]) (by kernel_rfl) (by simp) ?_
      refine AllReadyH.cons rfl (fun K O=>?_) ?_
      ·(try go_simp)
       refine O.out _ _ ?_ (fun u=>?_)
       ·(try dsimp only);(first|(and_intros<;>with_reducible assumption)|(and_intros<;>assumption)|go_keep)
       clear O K
       try simp only[Act.put,List.setIfInBounds_toArray,List.set_cons_zero,List.set_cons_succ]
       refine wpAnyH_done (by kernel_rfl) ?_ _
       go_wp2_with fail
       go_meet
       refine⟨xa,xc,MS++[(⟨k,f,e,b,wa,p,s,q,bl,v,a,c,R⟩:dI)],?_,?_,?_,?_,?_,ao,z,C,B,ah,by rw[al.out]⟩
       ·rw[List.length_append];rfl
       ·rw[List.length_append,aD.out];rfl
       ·have Q:=eY.gq a4
        rw[List.flatMap_append,List.length_append]
        simpa using Q
       ·intro M a5;subst a5;have Q:=(a4.out.lt M.block (zX a4)).1;omega
       ·intro m V
        rcases List.mem_append.1 V with V|V
        ·exact⟨zF (ay.out m V) (a7.out m V) aB W ai,fun M a5=>CM (a7.out m V M a5) aC⟩
        ·simp at V;subst V;exact⟨ba.out.later ao,aS⟩
      exact AllReadyH.nil
     exact AllReadyH.nil
    exact AllReadyH.nil
   exact AllReadyH.nil
  case rest=>
   obtain⟨a2,c2,ms,rfl,aR,ax,bw,aW,ac,z,C,B,U,b6⟩:=hcut
   have ah:=dA U
   have al:=dA b6
   clear U b6
   have A:Hid (dZ wc low St d vr Mp D):=aA.out.later ac
   have bt:Hid (fS wc low D H S va fs left L):=bv.out.later ac
   have bi:Hid (dU wc):=bm.out.below ac bg
   have ak:Hid (Below w.heap.size w wc):=ac
   have aZ:Hid (∀m∈ms,eX wc m.a m.zs/\∀M,m.a=Y M->M.block≠St):=aW
   have aU:Hid (eY wc (J a2 ms.length c2) ms.length (ms.flatMap dI.cells)):=ax
   have aT:Hid (ms.length=d.recs.length+2*d.di.length+1):=aR
   have bc:ms.length<=4000000:=by omega
   clear aW ac ax aR
   have c9:=A.out.blk.cell 9
   have ab:=A.out.blk.cell 10
   have c11:=A.out.blk.cell 11
   simp at c9 ab c11
   have aY:=A.out.blk.free 10
   have aI:=A.out.blk.free 11
   have aG:Hid (dC ((wc.setCell ⟨St,10,Z⟩ (I T (ms.length:Int))).setCell ⟨St,11,Z⟩ (bool true)) St #[I T d.id,vr,Value.map (Y Mp),I T d.b0,I T d.b1,I T d.b2,I T d.b3,I T d.seen,I T d.last,P0 (Y ⟨D,0,Z⟩),I T (ms.length:Int),bool true] 200):=by have Q:=(A.out.blk.set 10 (I T (ms.length:Int))).set 11 (bool true);unfold Hid;simpa using Q
   have N:Hid (dH St wc ((wc.setCell ⟨St,10,Z⟩ (I T (ms.length:Int))).setCell ⟨St,11,Z⟩ (bool true))):=(dH.setCell wc ⟨St,10,Z⟩ _).trans (dH.setCell _ ⟨St,11,Z⟩ _)
   have gB:Hid (dZ ((wc.setCell ⟨St,10,Z⟩ (I T (ms.length:Int))).setCell ⟨St,11,Z⟩ (bool true)) low St {d with lines:=(ms.length:Int),wh:=true} vr Mp D):=⟨aG,dO A.out.ja (fun g hg=>N.out.block g (fun hh=>iS A.out.ja A.out.blk.blk (by decide) (by rw[←hh];exact hg))),A.out.iy.same (N.out.block Mp (A.out.iy.ne A.out.blk))⟩
   have x:Hid (fS ((wc.setCell ⟨St,10,Z⟩ (I T (ms.length:Int))).setCell ⟨St,11,Z⟩ (bool true)) low D H S va fs left L):=bt.out.but A.out.blk (by decide) (by decide) (by decide) (by decide) N
   have a7:Hid (dU ((wc.setCell ⟨St,10,Z⟩ (I T (ms.length:Int))).setCell ⟨St,11,Z⟩ (bool true))):=bi.out.butT N aK
   have bu:Hid (∀m∈ms,eX ((wc.setCell ⟨St,10,Z⟩ (I T (ms.length:Int))).setCell ⟨St,11,Z⟩ (bool true)) m.a m.zs):=fun m V=>(aZ.out m V).1.butI N (aZ.out m V).2
   have bs:Hid (eY ((wc.setCell ⟨St,10,Z⟩ (I T (ms.length:Int))).setCell ⟨St,11,Z⟩ (bool true)) (J a2 ms.length c2) ms.length (ms.flatMap dI.cells)):=aU.out.butR N (fun g o hh=>by have:=bw _ hh;simp at this;omega)
   have bF:((wc.setCell ⟨St,10,Z⟩ (I T (ms.length:Int))).setCell ⟨St,11,Z⟩ (bool true)).heap.size=wc.heap.size:=N.out.size
   have bG:=ak.out.size
   go_upto_region 6 with fail
   generalize ((wc.setCell ⟨St,10,Z⟩ (I T (ms.length:Int))).setCell ⟨St,11,Z⟩ (bool true))=W5 at*
   clear c9 ab c11 aY aI aG
   have c9:=gB.out.blk.cell 9
   simp at c9
   go_wp2_with fail
   refine(FG hBW hBS low D H S va fs left L ms a2 c2 W5 a7 (by omega) bs bu bc (by rw[aT.out];omega) x.out.hands x.out.dS x.out.hS x.out.ds x.out.lf (by omega) (Nat.le_trans x.out.fl (by omega)) x.out.bd hL).mono ?_
   rintro r w4 ⟨hr,bj,b4,ar,b9⟩
   have aN:=dA (MO (left:=left) (l:=ms.flatMap eQ) x.out.bd)
   have aL:=dA (MM (fs:=fs) (l:=ms.flatMap eQ) x.out.lf)
   have bx:=dA (LI ms)
   have be:Hid (fZ fs left (ms.flatMap eQ)=fZ fs left ((d.ig z C B++[(⟨k,f,e,b,wa,p,s,q,bl,v,a,c,R⟩:dI)]).flatMap eQ)):=by unfold Hid;rw[←al.out]
   generalize fZ fs left (ms.flatMap eQ)=RW at*
   subst hr
   have br:=dA (gB.out.oz x.out.ds ar)
   have bk:=dA (x.out.hands.did x.out.dS x.out.hS x.out.ds ar)
   have bh:=dA b4
   have an:=dA ar
   have bq:=dA b9
   clear b4 ar b9
   go_wp2
   go_ret
   have b7:=aT.out
   have bE:=x.out.fl
   have av:=bx.out
   refine⟨z,C,B,ah,RW,be,rfl,bj,?_,⟨bk,bh,x.out.dS,x.out.hS,aL,?_,?_⟩,fun g hg=>?_,?_⟩
   ·have Q:=br.out
    rw[show(ms.length:Int)=(d.recs.length:Int)+2*(d.di.length:Int)+1 by omega]at Q
    exact Q
   ·exact Nat.le_trans aN.out.2 (Nat.le_trans (by omega) (Nat.le_max_left _ _))
   ·intro f9 Q
    have h8:=aN.out.1 f9 Q
    rw[b7]at av
    exact Nat.le_trans h8 (Nat.max_le.2 ⟨Nat.le_trans (by omega) (Nat.le_max_left _ _),Nat.le_trans av (Nat.le_max_right _ _)⟩)
   ·rcases bq.out g hg with h8|h8
    ·exact .inl h8
    ·exact .inr (by omega)
   ·refine⟨an.out.os.trans (N.out.os.trans ak.out.os),an.out.tape.trans (N.out.tape.trans ak.out.tape),an.out.output.trans (N.out.output.trans ak.out.output),by have:=an.out.size;omega,fun g hg hA=>?_⟩
    exact(an.out.block g (by omega) (fun hh=>hA (hh.elim (fun h8=>.inr (.inl h8)) (fun h8=>.inr (.inr h8.symm))))).trans ((N.out.block g (fun h8=>hA (.inl h8))).trans (ak.out.block g hg))
def jZ(St:Nat)(vr:Value)(Mp S:Nat)(va:Value)(g:Nat):Prop:=g=St∨g=Mp∨vr.ownBlock=Y g∨g=S∨va.ownBlock=Y g
def SD.jr(d:SD)(bl v:Int):SD:=if bl=0 then{d with b0:=v} else if bl=1 then{d with b1:=v} else if bl=2 then{d with b2:=v} else{d with b3:=v}
def SD.step(d:SD)(k e b p s q bl v:Int)(zs:List Int):SD:=
 if k=1 then{d with di:=fX d.di e ((dG d.di e).after 1 b p s)}
 else if k=3 then{d with di:=fX d.di e ((dG d.di e).after 3 b p s)}
 else if k=6 then d.learn (e+1) p s
 else if k=7 then{d.jr bl v with seen:=e,last:=q}
 else{d with seen:=e,last:=q,b0:=zs.getD 0 d.b0,b1:=zs.getD 1 d.b1,b2:=zs.getD 2 d.b2,b3:=zs.getD 3 d.b3}
def gZ(k bl:Int)(n:Nat):Prop:=k=1∨k=3∨k=6∨(k=7/\0<=bl/\bl<=3)∨(k=9/\1<=n/\n<=4)
theorem dK.wide{A B:Nat->Prop}{w w':World}(h:dK A w w')(a:∀g,A g->B g):dK B w w':=⟨h.os,h.tape,h.output,h.size,fun k b c=>h.block k b (fun d=>c (a k d))⟩
theorem qF{w:World}{low St:Nat}{d:SD}{vr:Value}{Mp D H S:Nat}{c:Value}{fs:List FD}{left:Int}{L B:Nat}{cs:Array Value}{ty:TypeId}(h:dZ w low St d vr Mp D)(e:fS w low D H S c fs left L)(b:dC w B cs ty)(k:ty≠200)(g:ty≠66)(i:ty≠98)(j:ty≠107):¬jZ St vr Mp S c B:=by
 rintro(a|a|a|a|a);·exact b.ne h.blk k a
 ·exact h.iy.ne b a.symm
 ·exact iS h.ja b.blk g a
 ·subst a;have f:=b.blk.symm.trans e.ds.st;simp at f;exact i f.2
 ·exact iS e.ds.row b.blk j a
theorem fS.store{w w':World}{low St:Nat}{d:SD}{vr:Value}{Mp D H S:Nat}{j:Value}{fs:List FD}{left:Int}{L:Nat}(h:dZ w low St d vr Mp D)(a:fS w low D H S j fs left L)(k:dK (fun g=>g=St∨g=Mp∨vr.ownBlock=Y g) w w'):fS w' low D H S j fs left L:=by
 have e:∀(g:Nat) (b:Array Value) (t':TypeId),w.heap[g]?=Y (G b t' (0,0))->t'≠200->t'≠66->w'.heap[g]?=w.heap[g]?:=by
  intro g b t' c n l;refine k.block g (Array.getElem?_eq_some_iff.1 c).1 ?_;rintro(i|i|i);·subst i;have f:=c.symm.trans h.blk.blk;simp at f;exact n f.2
  ·subst i;obtain⟨es,m,f,_⟩:=h.iy.obj;rw[f]at c;simp at c
  ·exact iS h.ja c l i
 refine⟨a.hands.later (e D _ _ a.hands.d (by decide) (by decide)) (e H _ _ a.hands.h (by decide) (by decide)),⟨(e S _ _ a.ds.st (by decide) (by decide)).trans a.ds.st,dO a.ds.row (fun g c=>?_)⟩,a.dS,a.hS,a.lf,a.fl,a.bd⟩;obtain⟨b,f⟩:=a.ds.rowAt c;exact e g b 107 f (by decide) (by decide)
theorem zG(low St:Nat)(d:SD)(vr:Value)(Mp D:Nat)(k f e b wa p s q bl v:Int)(a:Option Addr)(o:List Int)(c:Nat)(w:World)(h:dZ w low St d vr Mp D)(H:eX w a o)(z:∀B,a=Y B->B.block≠St)(y:0<=d.id/\d.id<5)(n:low<=w.heap.size)(C:d.recs.length<=1300000)(K:e_ e)(u:gZ k bl o.length):Calls pG 220 #[P0 (Y ⟨St,0,Z⟩),.agg #[I T k,I T f,I T e,I T b,I T wa,I T p,I T s,I T q,I T bl,I T v,J a o.length c]] w fun r w'=>r=.returned (.tuple #[])/\∃t,dZ w' low St (d.step k e b p s q bl v o) t Mp D/\dK (fun g=>g=St∨g=Mp∨vr.ownBlock=Y g) w w'/\(∀g,t.ownBlock=Y g->vr.ownBlock=Y g∨w.heap.size<=g):=by
 rcases u with rfl|rfl|rfl|⟨rfl,x,A⟩|⟨rfl,x,A⟩;·refine(F8 low St d vr Mp D f e b wa p s q bl v _ w h).mono ?_;rintro r w2 ⟨rfl,hs,j⟩;exact⟨rfl,vr,hs,j.wide (fun g i=>.inr (.inl i)),fun g i=>.inl i⟩
 ·refine(F9 low St d vr Mp D f e b wa p s q bl v _ w h).mono ?_;rintro r w2 ⟨rfl,hs,j⟩;exact⟨rfl,vr,hs,j.wide (fun g i=>.inr (.inl i)),fun g i=>.inl i⟩
 ·exact GA low St d vr Mp D f e b wa p s q bl v _ w h y n (by omega) K
 ·have F:bl=0∨bl=1∨bl=2∨bl=3:=by omega
  rcases F with rfl|rfl|rfl|rfl;·refine(JO low St d vr Mp D f e b wa p s q v _ w h).mono ?_;rintro r w2 ⟨rfl,hs,j⟩;exact⟨rfl,vr,hs,j.wide (fun g i=>.inl i),fun g i=>.inl i⟩
  ·refine(JP low St d vr Mp D f e b wa p s q v _ w h).mono ?_;rintro r w2 ⟨rfl,hs,j⟩;exact⟨rfl,vr,hs,j.wide (fun g i=>.inl i),fun g i=>.inl i⟩
  ·refine(JQ low St d vr Mp D f e b wa p s q v _ w h).mono ?_;rintro r w2 ⟨rfl,hs,j⟩;exact⟨rfl,vr,hs,j.wide (fun g i=>.inl i),fun g i=>.inl i⟩
  ·refine(JR low St d vr Mp D f e b wa p s q v _ w h).mono ?_;rintro r w2 ⟨rfl,hs,j⟩;exact⟨rfl,vr,hs,j.wide (fun g i=>.inl i),fun g i=>.inl i⟩
 ·rcases H with E|⟨g,off,rfl,i,l⟩;·subst E;simp at x
  ·have m:g≠St:=z _ rfl;match o,x,A,l with
   | [z0],_,_,l=>refine(JS low St d vr Mp D f e b wa p s q bl v g off c z0 w h i m (l 0 (by simp))).mono ?_;rintro r w2 ⟨rfl,hs,j⟩;exact⟨rfl,vr,hs,j.wide (fun g i=>.inl i),fun g i=>.inl i⟩
   | [z0,z1],_,_,l=>refine(JT low St d vr Mp D f e b wa p s q bl v g off c z0 z1 w h i m (l 0 (by simp)) (l 1 (by simp))).mono ?_;rintro r w2 ⟨rfl,hs,j⟩;exact⟨rfl,vr,hs,j.wide (fun g i=>.inl i),fun g i=>.inl i⟩
   | [z0,z1,z2],_,_,l=>refine(JU low St d vr Mp D f e b wa p s q bl v g off c z0 z1 z2 w h i m (l 0 (by simp)) (l 1 (by simp)) (l 2 (by simp))).mono ?_;rintro r w2 ⟨rfl,hs,j⟩;exact⟨rfl,vr,hs,j.wide (fun g i=>.inl i),fun g i=>.inl i⟩
   | [z0,z1,z2,z3],_,_,l=>refine(JV low St d vr Mp D f e b wa p s q bl v g off c z0 z1 z2 z3 w h i m (l 0 (by simp)) (l 1 (by simp)) (l 2 (by simp)) (l 3 (by simp))).mono ?_;rintro r w2 ⟨rfl,hs,j⟩;exact⟨rfl,vr,hs,j.wide (fun g i=>.inl i),fun g i=>.inl i⟩
theorem eX.keptI{w w':World}{A:Nat->Prop}{a:Option Addr}{e:List Int}(h:eX w a e)(b:dK A w w')(l:∀f,a=Y f->¬A f.block):eX w' a e:=by
 rcases h with h|⟨g,off,d,c,k⟩;·exact .inl h
 ·exact .inr ⟨g,off,d,Nat.lt_of_lt_of_le c b.size,fun j i=>(nW (b.block g c (l _ d)) _).trans (k j i)⟩
def lF(d:SD)(fs:List FD)(left:Int)(m:dI)(ok:Bool)(fs':List FD)(left':Int)(d':SD):Prop:=
 (d.wh=true/\ok=decide (left≠0/\left≠1)/\fs'=oI fs left (eQ m)/\left'=dL (dL left)/\d'={d with lines:=d.lines+1})∨
 (∃ks za zc,ks.Perm (d.di.map (·.1))/\(ok,fs',left')=fZ fs left ((d.ig ks za zc++[m]).flatMap eQ)/\d'={d with lines:=(d.recs.length:Int)+2*(d.di.length:Int)+1,wh:=true})
theorem lF.same{d:SD}{fs:List FD}{left:Int}{m:dI}{ok:Bool}{fs':List FD}{left':Int}{d':SD}(h:lF d fs left m ok fs' left' d'):d'.id=d.id/\d'.recs=d.recs/\d'.di=d.di:=by rcases h with⟨_,_,_,_,rfl⟩|⟨_,_,_,_,_,rfl⟩<;>exact⟨rfl,rfl,rfl⟩
theorem fS.mono{w:World}{low D H S:Nat}{a:Value}{fs:List FD}{left:Int}{L L':Nat}(h:fS w low D H S a fs left L)(b:L<=L'):fS w low D H S a fs left L':=⟨h.hands,h.ds,h.dS,h.hS,h.lf,Nat.le_trans h.fl b,fun f c=>Nat.le_trans (h.bd f c) b⟩
theorem IA(hSO:eW)(hBW:eZ)(hBS:fA)(low St:Nat)(d:SD)(vr:Value)(Mp D H S:Nat)(u:Value)(fs:List FD)(left:Int)(L:Nat)(k f e b wa p s q bl v:Int)(a:Option Addr)(n:List Int)(c:Nat)(w:World)(h:dZ w low St d vr Mp D)(U:fS w low D H S u fs left L)(R:dU w)(W:eX w a n)(o:2<=w.heap.size)(j:low<=w.heap.size)(V:L<=1200000000)(m:d.recs.length<=1300000)(x:d.di.length<=1300000)(t:0<=d.lines/\d.lines<=100000000)(l:2<=St)(y:∀X,a=Y X->X.block≠St)(A:0<d.recs.length)(Q:∀r∈d.recs,0<=r.E/\r.E<=10000000000000):Calls pG 236 #[P0 (Y ⟨St,0,Z⟩),.agg #[I T k,I T f,I T e,I T b,I T wa,I T p,I T s,I T q,I T bl,I T v,J a n.length c]] w fun r w'=>∃ok fs' left' d' i,r=.returned (.bool ok)/\lF d fs left (⟨k,f,e,b,wa,p,s,q,bl,v,a,c,n⟩:dI) ok fs' left' d'/\dZ w' low St d' vr Mp D/\fS w' low D H S i fs' left' (Nat.max (L+301) (301*(d.recs.length+2*d.di.length+1)))/\(∀g,i.ownBlock=Y g->u.ownBlock=Y g∨w.heap.size<=g)/\dK (fun g=>g=St∨g=S∨u.ownBlock=Y g) w w':=by
 by_cases z:d.wh=true/\d.lines<64+2*((d.recs.length:Int)+2*(d.di.length:Int));·refine(GH low St d vr Mp D H S u fs left L k f e b wa p s q bl v a n c w h U R W o j V m x t l y z.1 z.2).mono ?_;rintro r w' ⟨rfl,i,M,B,O,K⟩;exact⟨_,_,_,_,i,rfl,.inl ⟨z.1,rfl,rfl,rfl,rfl⟩,M,B.mono (Nat.le_max_left _ _),O,K⟩
 ·refine(H9 hSO hBW hBS low St d vr Mp D H S u fs left L k f e b wa p s q bl v a n c w h U R W o j V m x t l y A Q ?_).mono ?_
  ·cases hw:d.wh;·exact .inl rfl
   ·exact .inr ⟨rfl,fun h9=>z ⟨hw,h9⟩⟩
  rintro r w' ⟨ks,za,zc,N,F,C,rfl,i,M,B,O,K⟩;exact⟨F.1,F.2.1,F.2.2,_,i,rfl,.inr ⟨ks,za,zc,N,C,rfl⟩,M,B,O,K⟩
theorem J0(hSO:eW)(hBW:eZ)(hBS:fA)(low St:Nat)(d:SD)(vr:Value)(Mp D H S:Nat)(B:Value)(fs:List FD)(left:Int)(L:Nat)(k f e b wa p s q bl v:Int)(a:Option Addr)(m:List Int)(c:Nat)(w:World)(h:dZ w low St d vr Mp D)(hk:fS w low D H S B fs left L)(ht:dU w)(hz:eX w a m)(ao:2<=w.heap.size)(aC:low<=w.heap.size)(hL:L<=1200000000)(af:d.recs.length<=1300000)(aA:d.di.length<=1300000)(aq:0<=d.lines/\d.lines<=100000000)(ab:2<=St)(al:∀M,a=Y M->M.block≠St)(am:0<d.recs.length)(aB:∀r∈d.recs,0<=r.E/\r.E<=10000000000000)(av:0<=d.id/\d.id<5)(he:e_ e)(a8:gZ k bl m.length)(aj:∀M,a=Y M->¬jZ St vr Mp S B M.block):Calls pG 191 #[P0 (Y ⟨St,0,Z⟩),.agg #[I T k,I T f,I T e,I T b,I T wa,I T p,I T s,I T q,I T bl,I T v,J a m.length c]] w fun r w'=>∃ok fs' left' d' ai ah,r=.returned (.bool ok)/\lF d fs left (⟨k,f,e,b,wa,p,s,q,bl,v,a,c,m⟩:dI) ok fs' left' d'/\dZ w' low St (bif ok then d'.step k e b p s q bl v m else d') ai Mp D/\fS w' low D H S ah fs' left' (Nat.max (L+301) (301*(d.recs.length+2*d.di.length+1)))/\(∀g,ah.ownBlock=Y g->B.ownBlock=Y g∨w.heap.size<=g)/\(∀g,ai.ownBlock=Y g->vr.ownBlock=Y g∨w.heap.size<=g)/\dK (jZ St vr Mp S B) w w':=by
 have Q:=a_ w (G #[I T k,I T f,I T e,I T b,I T wa,I T p,I T s,I T q,I T bl,I T v,J a m.length c] 136);have y:Hid (dC (w.alloc (G #[I T k,I T f,I T e,I T b,I T wa,I T p,I T s,I T q,I T bl,I T v,J a m.length c] 136)) w.heap.size #[I T k,I T f,I T e,I T b,I T wa,I T p,I T s,I T q,I T bl,I T v,J a m.length c] 136):=dC.new _ _ _;have HB:Hid (Below w.heap.size w (w.alloc (G #[I T k,I T f,I T e,I T b,I T wa,I T p,I T s,I T q,I T bl,I T v,J a m.length c] 136))):=Q;have HT:Hid (dU (w.alloc (G #[I T k,I T f,I T e,I T b,I T wa,I T p,I T s,I T q,I T bl,I T v,J a m.length c] 136))):=ht.below Q ao;have HZ:Hid (eX (w.alloc (G #[I T k,I T f,I T e,I T b,I T wa,I T p,I T s,I T q,I T bl,I T v,J a m.length c] 136)) a m):=hz.later Q;have ar:Hid (eX w a m):=hz;have ac:Hid (dZ w low St d vr Mp D):=h;have ak:Hid (fS w low D H S B fs left L):=hk;have ay:Hid (∀M,a=Y M->¬jZ St vr Mp S B M.block):=aj;clear ht hz Q h hk aj;go_enter func191,ntmps191;go_upto_region 1 with fail;generalize (w.alloc (G #[I T k,I T f,I T e,I T b,I T wa,I T p,I T s,I T q,I T bl,I T v,J a m.length c] 136))=W0 at*;have aD:=HB.out.size;have m0:=y.out.cell 0;have m1:=y.out.cell 1;have m2:=y.out.cell 2;have m3:=y.out.cell 3;have m4:=y.out.cell 4;have m5:=y.out.cell 5;have m6:=y.out.cell 6;have m7:=y.out.cell 7;have m8:=y.out.cell 8;have m9:=y.out.cell 9;have F:=y.out.cell 10;simp at m0 m1 m2 m3 m4 m5 m6 m7 m8 m9 F;go_wp2_with fail;refine(IA hSO hBW hBS low St d vr Mp D H S B fs left L k f e b wa p s q bl v a m c W0 (ac.out.later HB) (ak.out.later HB) HT HZ (by omega) (by omega) hL af aA aq ab al am aB).mono ?_;rintro r w1 ⟨ok,V,u,d1,R,hr,a4,W,U,a1,O⟩;subst hr;have a5:=dA a4;obtain⟨e1,e2,e3⟩:=a4.same;have a9:0<=d1.id/\d1.id<5:=by rw[e1];exact av
 have ag:d1.recs.length<=1300000:=by rw[e2];exact af
 clear a4 e1 e2 e3;have N:Hid (dZ w1 low St d1 vr Mp D):=W;have a3:Hid (fS w1 low D H S R V u (Nat.max (L+301) (301*(d.recs.length+2*d.di.length+1)))):=U;have ae:Hid (∀g,R.ownBlock=Y g->B.ownBlock=Y g∨w.heap.size<=g):=fun g hg=>(a1 g hg).imp id (fun h9=>by omega);have au:Hid (dK (fun g=>g=St∨g=S∨B.ownBlock=Y g) W0 w1):=O;have n:Hid (dK (fun g=>g=St∨g=S∨B.ownBlock=Y g) w w1):=(dK.of_below (A:=fun _=>False) HB).trans O (fun _ x=>x.elim) (fun _ _ x=>x);have aE:=n.out.size;have a7:low<=w1.heap.size:=by omega
 have C:∀g,(g=St∨g=S∨B.ownBlock=Y g)->jZ St vr Mp S B g:=fun g x=>x.elim .inl (fun X=>.inr (.inr (.inr X)));have j:Hid (dC w1 w.heap.size #[I T k,I T f,I T e,I T b,I T wa,I T p,I T s,I T q,I T bl,I T v,J a m.length c] 136):=y.out.same (au.out.block _ y.out.lt (fun x=>qF (ac.out.later HB) (ak.out.later HB) y (by decide) (by decide) (by decide) (by decide) (C _ x)));have az:Hid (eX w1 a m):=ar.out.keptI n (fun M aw x=>ay M aw (C _ x));cases ok;·clear W U a1 O m0 m1 m2 m3 m4 m5 m6 m7 m8 m9 F;go_wp2;go_ret;exact⟨false,V,u,d1,vr,R,rfl,a5,N,a3,ae,fun g hg=>.inl hg,n.out.wide C⟩
 ·skip;clear W U a1 O m0 m1 m2 m3 m4 m5 m6 m7 m8 m9 F;have m0:=j.out.cell 0;have m1:=j.out.cell 1;have m2:=j.out.cell 2;have m3:=j.out.cell 3;have m4:=j.out.cell 4;have m5:=j.out.cell 5;have m6:=j.out.cell 6;have m7:=j.out.cell 7;have m8:=j.out.cell 8;have m9:=j.out.cell 9;have F:=j.out.cell 10;simp at m0 m1 m2 m3 m4 m5 m6 m7 m8 m9 F;go_upto_region 3 with fail;refine wp_region_held_drew (S:=(fun w'=>w'.cell? ⟨w.heap.size,0,Z⟩=Y (I T k)/\w'.cell? ⟨w.heap.size,1,Z⟩=Y (I T f)/\w'.cell? ⟨w.heap.size,2,Z⟩=Y (I T e)/\w'.cell? ⟨w.heap.size,3,Z⟩=Y (I T b)/\w'.cell? ⟨w.heap.size,4,Z⟩=Y (I T wa)/\w'.cell? ⟨w.heap.size,5,Z⟩=Y (I T p)/\w'.cell? ⟨w.heap.size,6,Z⟩=Y (I T s)/\w'.cell? ⟨w.heap.size,7,Z⟩=Y (I T q)/\w'.cell? ⟨w.heap.size,8,Z⟩=Y (I T bl)/\w'.cell? ⟨w.heap.size,9,Z⟩=Y (I T v)/\w'.cell? ⟨w.heap.size,10,Z⟩=Y (J a m.length c))) (by kernel_rfl) (by(try dsimp only);(first|(and_intros<;>with_reducible assumption)|(and_intros<;>assumption)|go_keep)) (fun a0=>?_);refine wpAnyH_take (i:=0) (v:=?_) rfl (by kernel_rfl) (by kernel_rfl) (by kernel_rfl) (fun _ _ _ h=>h) (Or.inl ⟨by rfl,?_⟩) (by assumption) ?_;rotate_left;·intro w t;(try dsimp only at t);go_simp;(try with_reducible rfl)
  try simp only[Act.put,List.setIfInBounds_toArray,List.set_cons_zero,List.set_cons_succ]
  refine wpAnyH_take (i:=1) (v:=?_) rfl (by kernel_rfl) (by kernel_rfl) (by kernel_rfl) (fun _ _ _ h=>h) (Or.inl ⟨by rfl,?_⟩) (by assumption) ?_;rotate_left;·intro w t;(try dsimp only at t);go_simp;(try with_reducible rfl)
  try simp only[Act.put,List.setIfInBounds_toArray,List.set_cons_zero,List.set_cons_succ]
  refine wpAnyH_take (i:=2) (v:=?_) rfl (by kernel_rfl) (by kernel_rfl) (by kernel_rfl) (fun _ _ _ h=>h) (Or.inl ⟨by rfl,?_⟩) (by assumption) ?_;rotate_left;·intro w t;(try dsimp only at t);go_simp;(try with_reducible rfl)
  try simp only[Act.put,List.setIfInBounds_toArray,List.set_cons_zero,List.set_cons_succ]
  refine wpAnyH_take (i:=3) (v:=?_) rfl (by kernel_rfl) (by kernel_rfl) (by kernel_rfl) (fun _ _ _ h=>h) (Or.inl ⟨by rfl,?_⟩) (by assumption) ?_;rotate_left;·intro w t;(try dsimp only at t);go_simp;(try with_reducible rfl)
  try simp only[Act.put,List.setIfInBounds_toArray,List.set_cons_zero,List.set_cons_succ]
  refine wpAnyH_ready (rs:=[4]) (by kernel_rfl) (by simp) ?_;refine AllReadyH.cons rfl (fun K hK=>?_) ?_
  ·(try go_simp);go_at_call 220;refine(zG low St d1 vr Mp D k f e b wa p s q bl v a m c w1.drew N.out.drew az.out.qw al a9 (by exact a7) ag he a8).mono ?_;rintro r w2 ⟨rfl,a2,aa,z,a6⟩;have ax:Hid (dZ w2 low St _ a2 Mp D):=aa;have o:Hid (dK (fun g=>g=St∨g=Mp∨vr.ownBlock=Y g) w1 w2):=⟨z.os,z.tape,z.output,z.size,z.block⟩;have ap:Hid (∀g,a2.ownBlock=Y g->vr.ownBlock=Y g∨w1.heap.size<=g):=a6;have l:Hid (dC w2 w.heap.size _ 136):=j.out.same (o.out.block _ j.out.lt (fun x=>qF N a3 j (by decide) (by decide) (by decide) (by decide) (x.elim .inl (fun X=>.inr (X.elim .inl (fun h7=>.inr (.inl h7)))))));clear aa z a6;have y0:=l.out.cell 0;have y1:=l.out.cell 1;have y2:=l.out.cell 2;have y3:=l.out.cell 3;have y4:=l.out.cell 4;have y5:=l.out.cell 5;have y6:=l.out.cell 6;have y7:=l.out.cell 7;have y8:=l.out.cell 8;have y9:=l.out.cell 9;have an:=l.out.cell 10;simp at y0 y1 y2 y3 y4 y5 y6 y7 y8 y9 an;refine hK.out _ _ ?_ (fun a0=>?_);·(try dsimp only);(first|(and_intros<;>with_reducible assumption)|(and_intros<;>assumption)|go_keep)
   clear hK K;try simp only[Act.put,List.setIfInBounds_toArray,List.set_cons_zero,List.set_cons_succ]
   refine wpAnyH_done (by kernel_rfl) ?_ _;go_wp2;go_ret;refine⟨true,V,u,d1,a2,R,rfl,a5,ax,fS.store N a3 o,ae,?_,?_⟩;·intro g hg;exact(ap.out g hg).imp id (fun h9=>by omega)
   ·refine⟨o.out.os.trans n.out.os,o.out.tape.trans n.out.tape,o.out.output.trans n.out.output,by have:=o.out.size;omega,fun g hg hA=>?_⟩;exact(o.out.block g (by omega) (fun x=>hA (x.elim .inl (fun X=>.inr (X.elim .inl (fun h7=>.inr (.inl h7))))))).trans (n.out.block g hg (fun x=>hA (x.elim .inl (fun X=>.inr (.inr (.inr X))))))
  exact AllReadyH.nil
end Go.Proofs.YtdcainmlcpafbaaGreatDoor
