import Derived.Test.YtdcainmlcpafbaaGreatDoorJ10
set_option linter.all false
set_option maxHeartbeats 8000000
set_option maxRecDepth 20000
namespace Go.Proofs.YtdcainmlcpafbaaGreatDoor
open Go.RowKit
open Value renaming slice->J,pointer->P0
open Tryz
open Tryz renaming prog->pG
open IntKind renaming i64->T
open Option renaming none->Z,some->Y
open Obj renaming cells->G
open Value (bool)
def eL.butR{w w':World}{B:Nat}{a:Option Addr}{n c:Nat}{cs:List Value}(h:eL w (J a n c) n cs)(b:dI B w w')(l:∀g o,a=Y ⟨g,o,Z⟩->g≠B):eL w' (J a n c) n cs:=by
 rcases h with h|⟨g,k,i,d,f⟩;·exact .inl h
 ·cases i;exact .inr ⟨g,_,rfl,by rw[b.size];exact d,λj u e=>(b.cell (p:=⟨g,j,Z⟩) (l g 0 rfl)).trans (f j u e)⟩
def I9{w:World}{B:Nat}{cs:Array Value}{ty:TypeId}(h:dC w B cs ty):∀j u,cs.toList[j]?=Y u->w.cell? ((⟨B,0,Z⟩:Addr).add j)=Y u:=by
 intro j u d;have c:=h.cell j;have b:cs[j]?=Y u:=by simpa using d
 rw[b]at c;rw[←c];unfold Addr.add;by_cases a:j=0;·subst a;rfl
 ·rw[if_neg a];simp
def AO{w w':World}{a:Option Addr}{f:List Int}{base n:Nat}{d:Value}{xs:List Value}(h:fB w a f)(m:∀k,a=Y k->∃b,w.heap[k.block]?=Y (.cells b 3 (0,0)))(hs:w.heap.size<=w'.heap.size)(l:w.ownsRow base 136 11 d n xs)(p:∀g,g<w.heap.size->d.ownBlock≠some g->w'.heap[g]?=w.heap[g]?):fB w' a f:=by
 rcases h with h|⟨g,off,i,e,o⟩;·exact .inl h
 ·obtain⟨b,r⟩:=m _ i;have c:d.ownBlock≠some g:=jM l r dG;exact .inr ⟨g,off,i,Nat.lt_of_lt_of_le e hs,λj q=>(oT (p g e c) _).trans (o j q)⟩
def DV{w:World}{g St:Nat}{cs:Array Value}(h:∃a,w.heap[g]?=Y (.cells a 3 (0,0)))(hS:dC w St cs 200):g≠St:=by obtain⟨a,b⟩:=h;intro c;rw[c,hS.blk]at b;simp at b
def BH{w:World}{base n c:Nat}{a:Addr}{xs:List Value}(h:w.ownsRow base 136 11 (J (Y a) n c) n xs):(J (Y a) n c).ownBlock=Y a.block:=by
 rcases h.2 with⟨f,_⟩|⟨g,e,b,d,_⟩;·cases f
 ·cases d;rfl
def uM{f:List FD->List FD}{a:Bool×List FD×Int}(h:i_ a.2.2):-9223372036854775808<=(fY f a).2.2/\(fY f a).2.2<=9223372036854775807:=by
 unfold fY;split;·exact mI h
 ·exact h
def NL{fs:List FD}{left:Int}(h:i_ left):-9223372036854775808<=(iS fs left).2.2/\(iS fs left).2.2<=9223372036854775807:=by
 unfold iS;split;·exact uM h
 ·exact h
def NM{fs:List FD}{left:Int}{l:List UInt8}(h:i_ left):-9223372036854775808<=(gD fs left l).2.2/\(gD fs left l).2.2<=9223372036854775807:=uM (uM (uM (NL h)))
def MH(ms:List dK):(ms.flatMap eT).length<=301*ms.length:=by
 induction ms with
 |nil=>simp
 |cons m ms ih=>have:=CN m.k m.f m.e m.b m.wa m.p m.s m.q m.bl m.v m.zs;simp only[List.flatMap_cons,List.length_append,List.length_cons];unfold eT at ih⊢;omega
def CO{f:List FD->List FD}{a:Bool×List FD×Int}{P:List FD->Prop}(h:P a.2.1)(b:P (f a.2.1)):P (fY f a).2.1:=by
 unfold fY;split
 ·dsimp only;split;·exact h
  ·exact b
 ·exact h
def CP{fs:List FD}{L:Nat}(h:∀f∈fs,f.d.length<=L)(a b:List UInt8):(∀f∈iU fs a b,f.d.length<=L)/\(iU fs a b).length<=fs.length+1:=by
 unfold iU;split;·exact⟨h,oG⟩
 ·rename_i i hi;split;·exact⟨h,oG⟩
  ·have g:=sP h a;have e:=sP g.1 b;refine⟨λf c=>?_,by simp;omega⟩;rcases List.mem_append.1 c with c|c;·exact e.1 f c
   ·simp at c;subst c;show(fs.getD i jG).d.length<=L;rw[List.getD_eq_getElem?_getD];cases hx:fs[i]? with
    |none=>simp[jG]
    |some y=>exact h y (List.mem_of_getElem? hx)
def NN{fs:List FD}{left:Int}{L:Nat}(h:∀f∈fs,f.d.length<=L):((iS fs left).1=true->dX (iS fs left).2.1 dT=none)/\(∀f∈(iS fs left).2.1,f.d.length<=L)/\(iS fs left).2.1.length<=fs.length:=by
 have a:=sP h dT;unfold iS;split
 ·next hs=>
  unfold fY;simp only[if_true];by_cases b:left=0;·simp only[b,if_true];exact⟨λe=>by simp at e,h,Nat.le_refl _⟩
  ·simp only[b,if_false];refine⟨λ_=>?_,a.1,a.2⟩;unfold dX eB;rw[List.find?_eq_none];intro f c;have:=(List.mem_filter.1 c).2;simpa using this
 ·next hs=>
  refine⟨λ_=>?_,h,Nat.le_refl _⟩;simpa using hs
def NO{fs:List FD}{left:Int}{l:List UInt8}{L:Nat}(h:∀f∈fs,f.d.length<=L):(∀f∈(gD fs left l).2.1,f.d.length<=Nat.max L l.length)/\(gD fs left l).2.1.length<=fs.length+2:=by
 obtain⟨j,i,k⟩:=NN (left:=left) h;unfold gD;generalize iS fs left=s0 at*;have b:∀f∈s0.2.1,f.d.length<=Nat.max L l.length:=λf a=>Nat.le_trans (i f a) (Nat.le_max_left _ _);have c:(∀f∈(fY (λz=>eO z dT l) s0).2.1,f.d.length<=Nat.max L l.length)/\(fY (λz=>eO z dT l) s0).2.1.length<=fs.length+1:=by
  unfold fY;split
  ·next hs=>
   dsimp only;split;·exact⟨b,oG⟩
   ·have g:eO s0.2.1 dT l=s0.2.1++[⟨dT,l,0⟩]:=by unfold eO;rw[(Fz (j hs)).1]
    rw[g];refine⟨λf a=>?_,by simp;omega⟩;rcases List.mem_append.1 a with a|a;·exact b f a
    ·simp at a;subst a;exact Nat.le_max_right _ _
  ·exact⟨b,oG⟩
 generalize fY (λz=>eO z dT l) s0=s1 at*;have e:(∀f∈(fY (λz=>fM z dT) s1).2.1,f.d.length<=Nat.max L l.length)/\(fY (λz=>fM z dT) s1).2.1.length<=fs.length+1:=CO (P:=λz=>(∀f∈z,f.d.length<=Nat.max L l.length)/\z.length<=fs.length+1) c ⟨(sN c.1 dT).1,by rw[(sN c.1 dT).2];exact c.2⟩;generalize fY (λz=>fM z dT) s1=s2 at*;exact CO (P:=λz=>(∀f∈z,f.d.length<=Nat.max L l.length)/\z.length<=fs.length+2) ⟨e.1,oG⟩ ⟨(CP e.1 dT eS).1,by have:=(CP e.1 dT eS).2;omega⟩
set_option maxRecDepth 20000 in
set_option maxHeartbeats 8000000 in
def JA(hSO:fA)(hBW:fC)(hBS:fD)(low St:Nat)(d:SD)(vr:Value)(Mp D H S:Nat)(va:Value)(fs:List FD)(left:Int)(L:Nat)(k f e b wa p s q bl v:Int)(a:Option Addr)(Q:List Int)(c:Nat)(w:World)(h:eE w low St d vr Mp D)(hk:fV w low D H S va fs left L)(ht:dW w)(hz:fB w a Q)(bg:2<=w.heap.size)(bB:low<=w.heap.size)(hL:L<=1200000000)(bH:d.recs.length<=1300000)(bK:d.dw.length<=1300000)(bG:0<=d.lines/\d.lines<=100000000)(aJ:2<=St)(aR:∀F,a=Y F->F.block≠St)(aG:0<d.recs.length)(ba:∀r∈d.recs,0<=r.E/\r.E<=10000000000000)(a8:d.wh=false∨(d.wh=true/\¬d.lines<64+2*((d.recs.length:Int)+2*(d.dw.length:Int)))):Calls pG 236 #[P0 (Y ⟨St,0,Z⟩),.agg (mA k f e b wa p s q bl v (J a Q.length c))] w λr w'=>∃y B A,y.Perm (d.dw.map (·.1))/\∃RW,RW=gD fs left ((d.msgs y B A++[(⟨k,f,e,b,wa,p,s,q,bl,v,a,c,Q⟩:dK)]).flatMap eT)/\r=.returned (.bool RW.1)/\∃aO,eE w' low St {d with lines:=(d.recs.length:Int)+2*(d.dw.length:Int)+1,wh:=true} vr Mp D/\fV w' low D H S aO RW.2.1 RW.2.2 (Nat.max (L+301) (301*(d.recs.length+2*d.dw.length+1)))/\(∀g,aO.ownBlock=Y g->va.ownBlock=Y g∨w.heap.size<=g)/\dM (λg=>g=St∨g=S∨va.ownBlock=Y g) w w':=by
 obtain⟨i0,b4,aL,b7,aU⟩:=info_parts wS;have aP:=a_ w (G (mA k f e b wa p s q bl v (J a Q.length c)) 136);have HM:Hid (dC (w.alloc (G (mA k f e b wa p s q bl v (J a Q.length c)) 136)) w.heap.size (mA k f e b wa p s q bl v (J a Q.length c)) 136):=dC.new _ _ _;have HB:Hid (Below w.heap.size w (w.alloc (G (mA k f e b wa p s q bl v (J a Q.length c)) 136))):=aP;have bm:Hid (dW w):=ht;have b9:Hid (fB w a Q):=hz;have aA:Hid (eE w low St d vr Mp D):=h;have bv:Hid (fV w low D H S va fs left L):=hk;have bC:=h.blk.lt;clear ht hz aP h hk;have bp:d.wh=false∨(d.wh=true/\decide (d.lines<64+2*((d.recs.length:Int)+2*(d.dw.length:Int)))=false):=a8.imp id (λO=>⟨O.1,by simpa using O.2⟩);clear a8;rcases bp with aI|⟨aI,bI⟩;all_goals
  have bz:=dA aI
  go_enter func236,ntmps236
  go_upto_region 1 with fail
  generalize (w.alloc (G (mA k f e b wa p s q bl v (J a Q.length c)) 136))=W0 at*
  have HS:Hid (eE W0 low St d vr Mp D):=aA.later HB
  have c9:=HS.blk.cell 9
  have aa:=HS.blk.cell 10
  have c11:=HS.blk.cell 11
  simp at c9 aa c11
  rw[bz.out]at c11
  have bA:=HS.blk.lt
  have aN:=HB.size
  go_quiet ((go_at_call 255;exact Calls.quiet_of (zX low St d vr Mp D _ (HS.later (below_drewN b_ _)) oG oG)))
  have aE:Below W0.heap.size W0 (W0.drewN nq):=below_drewN b_ _
  have ar:Hid (dC (W0.drewN nq) w.heap.size (mA k f e b wa p s q bl v (J a Q.length c)) 136):=HM.later aE
  have ap:Hid (Below w.heap.size w (W0.drewN nq)):=HB.trans (aE.mono aN)
  generalize W0.drewN nq=W1 at*
  clear aE c9 aa c11 HM HB HS bA aN
  have ao:Hid (eE W1 low St d vr Mp D):=aA.later ap
  have aW:=ap.size
  have aw:=ar.lt
  go_upto_region 4 with fail
  go_cut [5] (λs5 wx=>∃(a2:Option Addr) (c2:Nat) (ms:List dK),s5=J a2 ms.length c2/\ms.length=d.recs.length+2*d.dw.length+1/\eL wx (J a2 ms.length c2) ms.length (ms.flatMap dK.cells)/\(∀F,a2=Y F->w.heap.size<=F.block)/\(∀m∈ms,fB wx m.a m.zs/\∀F,m.a=Y F->F.block≠St)/\Below w.heap.size w wx/\∃y B A,y.Perm (d.dw.map (·.1))/\ms=d.msgs y B A++[(⟨k,f,e,b,wa,p,s,q,bl,v,a,c,Q⟩:dK)])
  case first=>
   have bJ:=ar.cell
   refine wp_region_held_drew (S:=(λw'=>w'.cell? ⟨w.heap.size,0,Z⟩=Y (I k)/\w'.cell? ⟨w.heap.size,1,Z⟩=Y (I f)/\w'.cell? ⟨w.heap.size,2,Z⟩=Y (I e)/\w'.cell? ⟨w.heap.size,3,Z⟩=Y (I b)/\w'.cell? ⟨w.heap.size,4,Z⟩=Y (I wa)/\w'.cell? ⟨w.heap.size,5,Z⟩=Y (I p)/\w'.cell? ⟨w.heap.size,6,Z⟩=Y (I s)/\w'.cell? ⟨w.heap.size,7,Z⟩=Y (I q)/\w'.cell? ⟨w.heap.size,8,Z⟩=Y (I bl)/\w'.cell? ⟨w.heap.size,9,Z⟩=Y (I v)/\w'.cell? ⟨w.heap.size,10,Z⟩=Y (J a Q.length c))) kG (by(try dsimp only);(first|(and_intros<;>with_reducible assumption)|(and_intros<;>assumption)|go_keep)) (λu=>?_)
   refine wpAnyH_take (i:=0) (v:=?_) rfl kG kG kG (λ_ _ _ h=>h) (Or.inl ⟨by rfl,?_⟩) (by assumption) ?_
   rotate_left
   ·intro w a5;(try dsimp only at a5);go_simp;(try with_reducible rfl)
   try simp only[Act.put,List.setIfInBounds_toArray,List.set_cons_zero,List.set_cons_succ]
   refine wpAnyH_take (i:=1) (v:=?_) rfl kG kG kG (λ_ _ _ h=>h) (Or.inl ⟨by rfl,?_⟩) (by assumption) ?_
   rotate_left
   ·intro w a5;(try dsimp only at a5);go_simp;(try with_reducible rfl)
   try simp only[Act.put,List.setIfInBounds_toArray,List.set_cons_zero,List.set_cons_succ]
   refine wpAnyH_take (i:=2) (v:=?_) rfl kG kG kG (λ_ _ _ h=>h) (Or.inl ⟨by rfl,?_⟩) (by assumption) ?_
   rotate_left
   ·intro w a5;(try dsimp only at a5);go_simp;(try with_reducible rfl)
   try simp only[Act.put,List.setIfInBounds_toArray,List.set_cons_zero,List.set_cons_succ]
   refine wpAnyH_take (i:=4) (v:=?_) rfl kG kG kG (λ_ _ _ h=>h) (Or.inl ⟨by rfl,?_⟩) (by assumption) ?_
   rotate_left
   ·intro w a5;(try dsimp only at a5);go_simp;(try with_reducible rfl)
   try simp only[Act.put,List.setIfInBounds_toArray,List.set_cons_zero,List.set_cons_succ]
   refine wpAnyH_ready (rs:=[3,5]) kG sG ?_
   refine AllReadyH.cons rfl (λK N=>?_) ?_
   ·(try go_simp)
    go_at_call 257
    refine(AN hSO low St d vr Mp D W1.drew ao.drew aG oG oG ba).mono ?_
    rintro r w3 ⟨a3,c3,y,B,A,rfl,R,al,af,ai,C⟩
    have t:Hid (dC w3 w.heap.size _ 136):=ar.drew.later C
    have ac:Hid (Below w.heap.size w w3):=ap.drew.trans (C.mono aW)
    have V:Hid (w3.ownsRow W1.heap.size 136 11 (J a3 (d.msgs y B A).length c3) (d.msgs y B A).length _):=al
    have au:W1.heap.size<=w3.heap.size:=C.size
    have aC:Hid (dC w3 St _ 200):=ao.blk.drew.later C
    have X:(d.msgs y B A).length=d.recs.length+2*d.dw.length:=by rw[tX,R.length_eq];simp;omega
    have ay:Hid (∀m∈d.msgs y B A,fB w3 m.a m.zs):=af
    have a6:Hid (∀m∈d.msgs y B A,∀F,m.a=Y F->∃az,w3.heap[F.block]?=Y (.cells az 3 (0,0))):=ai
    have aD:Hid ((d.msgs y B A).length=d.recs.length+2*d.dw.length):=X
    have bo:(d.msgs y B A).length<=4000000:=oG
    have ag:=dA R
    clear al af ai C X R
    generalize ae:d.msgs y B A=MS at*
    have ak:=dA ae
    clear ae
    have z0:=t.cell 0
    have z1:=t.cell 1
    have z2:=t.cell 2
    have z3:=t.cell 3
    have z4:=t.cell 4
    have z5:=t.cell 5
    have z6:=t.cell 6
    have z7:=t.cell 7
    have z8:=t.cell 8
    have z9:=t.cell 9
    have a9:=t.cell 10
    simp at z0 z1 z2 z3 z4 z5 z6 z7 z8 z9 a9
    refine N.out _ _ ?_ (λu=>?_)
    ·(try dsimp only);(first|(and_intros<;>with_reducible assumption)|(and_intros<;>assumption)|go_keep)
    clear N K
    try simp only[Act.put,List.setIfInBounds_toArray,List.set_cons_zero,List.set_cons_succ]
    refine wpAnyH_ready (rs:=[5]) kG sG ?_
    refine AllReadyH.cons rfl (λK N=>?_) ?_
    ·(try go_simp)
     refine N.out _ _ ?_ (λu=>?_)
     ·(try dsimp only);(first|(and_intros<;>with_reducible assumption)|(and_intros<;>assumption)|go_keep)
     clear N K
     try simp only[Act.put,List.setIfInBounds_toArray,List.set_cons_zero,List.set_cons_succ]
     refine wpAnyH_ready (rs:=[6]) kG sG ?_
     refine AllReadyH.cons rfl (λK N=>?_) ?_
     ·refine iX rfl (.tmp 39) (.tmp 41) 22 rfl W1.heap.size 136 i0 (.agg mz) 11 104 underlying22 b4 aL b7 aU rfl dG (J a3 MS.length c3) MS.length _ eG (World.ownsRow.alloc V _) ⟨w3.heap.size,0,Z⟩ 1 1 (dK.cells (⟨k,f,e,b,wa,p,s,q,bl,v,a,c,Q⟩:dK)) oG eG rfl (rY w3 w3.heap.size rfl (dK.cells (⟨k,f,e,b,wa,p,s,q,bl,v,a,c,Q⟩:dK)) 136) (sO _) xG oG (by simp;omega) ?_
      intro v5 w5 a0 W a7
      obtain⟨xa,xc,rfl⟩:=dZ a0
      have ah:Hid (∀g,g<w3.heap.size->(J a3 MS.length c3).ownBlock≠some g->w5.heap[g]?=w3.heap[g]?):=λg hg hn=>(W.block g (by simp;omega) (λO=>hn O.symm)).trans (heap_alloc_old _ _ hg)
      have aB:w3.heap.size<=w5.heap.size:=Nat.le_trans sG W.size
      have a1:Hid (w5.ownsRow W1.heap.size 136 11 (J xa (MS.length+1) xc) (MS.length+1) (MS.flatMap dK.cells++dK.cells (⟨k,f,e,b,wa,p,s,q,bl,v,a,c,Q⟩:dK))):=a0
      have aF:∀g,g<W1.heap.size->(J a3 MS.length c3).ownBlock≠some g:=λg hg O=>by have:=(V.lt g O).1;omega
      have an:Hid (Below w.heap.size w w5):=Below.grown (ac.alloc ac.size _) W (by simp;omega) (λg hg=>by have:=(V.lt g hg).1;omega)
      have n:∀j,w5.cell? ⟨w.heap.size,j,Z⟩=w3.cell? ⟨w.heap.size,j,Z⟩:=λj=>oT (ah.out w.heap.size t.lt (aF _ aw)) j
      have y0:=(n 0).trans z0
      have y1:=(n 1).trans z1
      have y2:=(n 2).trans z2
      have y3:=(n 3).trans z3
      have y4:=(n 4).trans z4
      have y5:=(n 5).trans z5
      have y6:=(n 6).trans z6
      have y7:=(n 7).trans z7
      have y8:=(n 8).trans z8
      have y9:=(n 9).trans z9
      have bf:=(n 10).trans a9
      clear n a0 W a7
      refine N.out _ _ ?_ (λu=>?_)
      ·(try dsimp only);(first|(and_intros<;>with_reducible assumption)|(and_intros<;>assumption)|go_keep)
      clear N K
      try simp only[Act.put,List.setIfInBounds_toArray,List.set_cons_zero,List.set_cons_succ]
      refine wpAnyH_ready (rs:=[7]) kG sG ?_
      refine AllReadyH.cons rfl (λK N=>?_) ?_
      ·(try go_simp)
       refine N.out _ _ ?_ (λu=>?_)
       ·(try dsimp only);(first|(and_intros<;>with_reducible assumption)|(and_intros<;>assumption)|go_keep)
       clear N K
       try simp only[Act.put,List.setIfInBounds_toArray,List.set_cons_zero,List.set_cons_succ]
       refine wpAnyH_done kG ?_ _
       go_wp2_with fail
       go_meet
       refine⟨xa,xc,MS++[(⟨k,f,e,b,wa,p,s,q,bl,v,a,c,Q⟩:dK)],?_,?_,?_,?_,?_,an,y,B,A,ag,by rw[ak.out]⟩
       ·rw[List.length_append];rfl
       ·rw[List.length_append,aD.out];rfl
       ·have O:=eL.gy a1
        rw[List.flatMap_append,List.length_append]
        simpa using O
       ·intro F a4;subst a4;have O:=(a1.lt F.block (BH a1)).1;omega
       ·intro m U
        rcases List.mem_append.1 U with U|U
        ·exact⟨AO (ay.out m U) (a6.out m U) aB V ah,λF a4=>DV (a6.out m U F a4) aC⟩
        ·simp at U;subst U;exact⟨b9.later an,aR⟩
      exact AllReadyH.nil
     exact AllReadyH.nil
    exact AllReadyH.nil
   refine AllReadyH.cons rfl (λK N=>?_) ?_
   ·(try go_simp)
    refine N.out _ _ ?_ (λu=>?_)
    ·(try dsimp only);(first|(and_intros<;>with_reducible assumption)|(and_intros<;>assumption)|go_keep)
    clear N K
    try simp only[Act.put,List.setIfInBounds_toArray,List.set_cons_zero,List.set_cons_succ]
    refine wpAnyH_ready (rs:=[3]) kG sG ?_
    refine AllReadyH.cons rfl (λK N=>?_) ?_
    ·(try go_simp)
     go_at_call 257
     refine(AN hSO low St d vr Mp D (W1.alloc (G (mA k f e b wa p s q bl v (J a Q.length c)) 136)).drew (ao.later (a_ _ _)).drew aG oG oG ba).mono ?_
     rintro r w3 ⟨a3,c3,y,B,A,rfl,R,al,af,ai,C⟩
     have t:Hid (dC w3 w.heap.size _ 136):=(ar.old _).drew.later C
     have ac:Hid (Below w.heap.size w w3):=(ap.alloc aW _).drew.trans (C.mono (by show _<=(World.alloc _ _).heap.size;simp;omega))
     have V:Hid (w3.ownsRow W1.heap.size 136 11 (J a3 (d.msgs y B A).length c3) (d.msgs y B A).length _):=nQ al (by show _<=(World.alloc _ _).heap.size;simp)
     have bn:Hid (dC w3 W1.heap.size (mA k f e b wa p s q bl v (J a Q.length c)) 136):=(dC.new W1 _ _).drew.later C
     have au:W1.heap.size<=w3.heap.size:=Nat.le_trans (by show _<=(World.alloc _ _).heap.size;simp) C.size
     have aC:Hid (dC w3 St _ 200):=(ao.blk.old _).drew.later C
     have X:(d.msgs y B A).length=d.recs.length+2*d.dw.length:=by rw[tX,R.length_eq];simp;omega
     have ay:Hid (∀m∈d.msgs y B A,fB w3 m.a m.zs):=af
     have a6:Hid (∀m∈d.msgs y B A,∀F,m.a=Y F->∃az,w3.heap[F.block]?=Y (.cells az 3 (0,0))):=ai
     have aD:Hid ((d.msgs y B A).length=d.recs.length+2*d.dw.length):=X
     have bo:(d.msgs y B A).length<=4000000:=oG
     have ag:=dA R
     clear al af ai C X R
     generalize ae:d.msgs y B A=MS at*
     have ak:=dA ae
     clear ae
     have z0:=t.cell 0
     have z1:=t.cell 1
     have z2:=t.cell 2
     have z3:=t.cell 3
     have z4:=t.cell 4
     have z5:=t.cell 5
     have z6:=t.cell 6
     have z7:=t.cell 7
     have z8:=t.cell 8
     have z9:=t.cell 9
     have a9:=t.cell 10
     simp at z0 z1 z2 z3 z4 z5 z6 z7 z8 z9 a9
     refine N.out _ _ ?_ (λu=>?_)
     ·(try dsimp only);(first|(and_intros<;>with_reducible assumption)|(and_intros<;>assumption)|go_keep)
     clear N K
     try simp only[Act.put,List.setIfInBounds_toArray,List.set_cons_zero,List.set_cons_succ]
     refine wpAnyH_ready (rs:=[6]) kG sG ?_
     refine AllReadyH.cons rfl (λK N=>?_) ?_
     ·refine iX rfl (.tmp 39) (.tmp 41) 22 rfl W1.heap.size 136 i0 (.agg mz) 11 104 underlying22 b4 aL b7 aU rfl dG (J a3 MS.length c3) MS.length _ eG V ⟨W1.heap.size,0,Z⟩ 1 1 (dK.cells (⟨k,f,e,b,wa,p,s,q,bl,v,a,c,Q⟩:dK)) oG eG rfl (I9 bn) (sO _) xG oG au ?_
      intro v5 w5 a0 W a7
      obtain⟨xa,xc,rfl⟩:=dZ a0
      have ah:Hid (∀g,g<w3.heap.size->(J a3 MS.length c3).ownBlock≠some g->w5.heap[g]?=w3.heap[g]?):=λg hg hn=>W.block g hg (λO=>hn O.symm)
      have aB:w3.heap.size<=w5.heap.size:=W.size
      have a1:Hid (w5.ownsRow W1.heap.size 136 11 (J xa (MS.length+1) xc) (MS.length+1) (MS.flatMap dK.cells++dK.cells (⟨k,f,e,b,wa,p,s,q,bl,v,a,c,Q⟩:dK))):=a0
      have aF:∀g,g<W1.heap.size->(J a3 MS.length c3).ownBlock≠some g:=λg hg O=>by have:=(V.lt g O).1;omega
      have an:Hid (Below w.heap.size w w5):=Below.grown ac W ac.size (λg hg=>by have:=(V.lt g hg).1;omega)
      have n:∀j,w5.cell? ⟨w.heap.size,j,Z⟩=w3.cell? ⟨w.heap.size,j,Z⟩:=λj=>oT (ah.out w.heap.size t.lt (aF _ aw)) j
      have y0:=(n 0).trans z0
      have y1:=(n 1).trans z1
      have y2:=(n 2).trans z2
      have y3:=(n 3).trans z3
      have y4:=(n 4).trans z4
      have y5:=(n 5).trans z5
      have y6:=(n 6).trans z6
      have y7:=(n 7).trans z7
      have y8:=(n 8).trans z8
      have y9:=(n 9).trans z9
      have bf:=(n 10).trans a9
      clear n a0 W a7
      refine N.out _ _ ?_ (λu=>?_)
      ·(try dsimp only);(first|(and_intros<;>with_reducible assumption)|(and_intros<;>assumption)|go_keep)
      clear N K
      try simp only[Act.put,List.setIfInBounds_toArray,List.set_cons_zero,List.set_cons_succ]
      refine wpAnyH_ready (rs:=[7]) kG sG ?_
      refine AllReadyH.cons rfl (λK N=>?_) ?_
      ·(try go_simp)
       refine N.out _ _ ?_ (λu=>?_)
       ·(try dsimp only);(first|(and_intros<;>with_reducible assumption)|(and_intros<;>assumption)|go_keep)
       clear N K
       try simp only[Act.put,List.setIfInBounds_toArray,List.set_cons_zero,List.set_cons_succ]
       refine wpAnyH_done kG ?_ _
       go_wp2_with fail
       go_meet
       refine⟨xa,xc,MS++[(⟨k,f,e,b,wa,p,s,q,bl,v,a,c,Q⟩:dK)],?_,?_,?_,?_,?_,an,y,B,A,ag,by rw[ak.out]⟩
       ·rw[List.length_append];rfl
       ·rw[List.length_append,aD.out];rfl
       ·have O:=eL.gy a1
        rw[List.flatMap_append,List.length_append]
        simpa using O
       ·intro F a4;subst a4;have O:=(a1.lt F.block (BH a1)).1;omega
       ·intro m U
        rcases List.mem_append.1 U with U|U
        ·exact⟨AO (ay.out m U) (a6.out m U) aB V ah,λF a4=>DV (a6.out m U F a4) aC⟩
        ·simp at U;subst U;exact⟨b9.later an,aR⟩
      exact AllReadyH.nil
     exact AllReadyH.nil
    exact AllReadyH.nil
   exact AllReadyH.nil
  case rest=>
   obtain⟨a2,c2,ms,rfl,aQ,ax,bw,aV,ab,y,B,A,R,b5⟩:=hcut
   have ag:=dA R
   have ak:=dA b5
   clear R b5
   have z:Hid (eE wc low St d vr Mp D):=aA.later ab
   have bt:Hid (fV wc low D H S va fs left L):=bv.later ab
   have bi:Hid (dW wc):=bm.below ab bg
   have aj:Hid (Below w.heap.size w wc):=ab
   have aY:Hid (∀m∈ms,fB wc m.a m.zs/\∀F,m.a=Y F->F.block≠St):=aV
   have aT:Hid (eL wc (J a2 ms.length c2) ms.length (ms.flatMap dK.cells)):=ax
   have aS:Hid (ms.length=d.recs.length+2*d.dw.length+1):=aQ
   have bc:ms.length<=4000000:=oG
   clear aV ab ax aQ
   have c9:=z.blk.cell 9
   have aa:=z.blk.cell 10
   have c11:=z.blk.cell 11
   simp at c9 aa c11
   have aX:=z.blk.free 10
   have aH:=z.blk.free 11
   have bb:Hid (dC ((wc.setCell ⟨St,10,Z⟩ (I (ms.length:Int))).setCell ⟨St,11,Z⟩ (bool true)) St #[I d.id,vr,Value.map (Y Mp),I d.b0,I d.b1,I d.b2,I d.b3,I d.seen,I d.last,P0 (Y ⟨D,0,Z⟩),I (ms.length:Int),bool true] 200):=by have O:=(z.blk.set 10 (I (ms.length:Int))).set 11 (bool true);unfold Hid;simpa using O
   have M:Hid (dI St wc ((wc.setCell ⟨St,10,Z⟩ (I (ms.length:Int))).setCell ⟨St,11,Z⟩ (bool true))):=(dI.setCell wc ⟨St,10,Z⟩ _).trans (dI.setCell _ ⟨St,11,Z⟩ _)
   have gG:Hid (eE ((wc.setCell ⟨St,10,Z⟩ (I (ms.length:Int))).setCell ⟨St,11,Z⟩ (bool true)) low St {d with lines:=(ms.length:Int),wh:=true} vr Mp D):=⟨bb,dQ z.rcs (λg hg=>M.block g (λhh=>jM z.rcs z.blk.blk dG (by rw[←hh];exact hg))),z.jb.same (M.block Mp (z.jb.ne z.blk))⟩
   have x:Hid (fV ((wc.setCell ⟨St,10,Z⟩ (I (ms.length:Int))).setCell ⟨St,11,Z⟩ (bool true)) low D H S va fs left L):=bt.but z.blk dG dG dG dG M
   have a6:Hid (dW ((wc.setCell ⟨St,10,Z⟩ (I (ms.length:Int))).setCell ⟨St,11,Z⟩ (bool true))):=bi.butT M aJ
   have bu:Hid (∀m∈ms,fB ((wc.setCell ⟨St,10,Z⟩ (I (ms.length:Int))).setCell ⟨St,11,Z⟩ (bool true)) m.a m.zs):=λm U=>(aY.out m U).1.butI M (aY.out m U).2
   have bs:Hid (eL ((wc.setCell ⟨St,10,Z⟩ (I (ms.length:Int))).setCell ⟨St,11,Z⟩ (bool true)) (J a2 ms.length c2) ms.length (ms.flatMap dK.cells)):=aT.butR M (λg o hh=>by have:=bw _ hh;simp at this;omega)
   have bE:((wc.setCell ⟨St,10,Z⟩ (I (ms.length:Int))).setCell ⟨St,11,Z⟩ (bool true)).heap.size=wc.heap.size:=M.size
   have bF:=aj.size
   go_upto_region 6 with fail
   generalize ((wc.setCell ⟨St,10,Z⟩ (I (ms.length:Int))).setCell ⟨St,11,Z⟩ (bool true))=W5 at*
   clear c9 aa c11 aX aH bb
   have c9:=gG.blk.cell 9
   simp at c9
   go_wp2_with fail
   refine(GM hBW hBS low D H S va fs left L ms a2 c2 W5 a6 oG bs bu bc (by rw[aS.out];omega) x.hands x.dS x.hS x.ds x.lf oG (Nat.le_trans x.fl oG) x.bd hL).mono ?_
   rintro r w4 ⟨hr,bj,aZ,aq,b8⟩
   have aM:=dA (NO (left:=left) (l:=ms.flatMap eT) x.bd)
   have aK:=dA (NM (fs:=fs) (l:=ms.flatMap eT) x.lf)
   have bx:=dA (MH ms)
   have be:Hid (gD fs left (ms.flatMap eT)=gD fs left ((d.msgs y B A++[(⟨k,f,e,b,wa,p,s,q,bl,v,a,c,Q⟩:dK)]).flatMap eT)):=by unfold Hid;rw[←ak.out]
   generalize gD fs left (ms.flatMap eT)=RW at*
   subst hr
   have br:=dA (gG.pz x.ds aq)
   have bk:=dA (x.hands.did x.dS x.hS x.ds aq)
   have bh:=dA aZ
   have am:=dA aq
   have bq:=dA b8
   clear aZ aq b8
   go_wp2
   go_ret
   have b6:=aS.out
   have bD:=x.fl
   have av:=bx.out
   refine⟨y,B,A,ag,RW,be,rfl,bj,?_,⟨bk,bh,x.dS,x.hS,aK,?_,?_⟩,λg hg=>?_,?_⟩
   ·have O:=br.out
    rw[show(ms.length:Int)=(d.recs.length:Int)+2*(d.dw.length:Int)+1 by omega]at O
    exact O
   ·exact Nat.le_trans aM.2 (Nat.le_trans oG (Nat.le_max_left _ _))
   ·intro f9 O
    have h8:=aM.1 f9 O
    rw[b6]at av
    exact Nat.le_trans h8 (Nat.max_le.2 ⟨Nat.le_trans oG (Nat.le_max_left _ _),Nat.le_trans av (Nat.le_max_right _ _)⟩)
   ·rcases bq.out g hg with h8|h8
    ·exact .inl h8
    ·exact .inr oG
   ·refine⟨am.os.trans (M.os.trans aj.os),am.tape.trans (M.tape.trans aj.tape),am.output.trans (M.output.trans aj.output),by have:=am.size;omega,λg hg hA=>?_⟩
    exact(am.block g oG (λhh=>hA (hh.elim (λh8=>.inr (.inl h8)) (λh8=>.inr (.inr h8.symm))))).trans ((M.block g (λh8=>hA (.inl h8))).trans (aj.block g hg))
def kP(St:Nat)(vr:Value)(Mp S:Nat)(va:Value)(g:Nat):Prop:=g=St∨g=Mp∨vr.ownBlock=Y g∨g=S∨va.ownBlock=Y g
def SD.jy(d:SD)(bl v:Int):SD:=if bl=0 then{d with b0:=v} else if bl=1 then{d with b1:=v} else if bl=2 then{d with b2:=v} else{d with b3:=v}
def SD.step(d:SD)(k e b p s q bl v:Int)(zs:List Int):SD:=
 if k=1 then{d with dw:=gA d.dw e ((dH d.dw e).after 1 b p s)}
 else if k=3 then{d with dw:=gA d.dw e ((dH d.dw e).after 3 b p s)}
 else if k=6 then d.learn (e+1) p s
 else if k=7 then{d.jy bl v with seen:=e,last:=q}
 else{d with seen:=e,last:=q,b0:=zs.getD 0 d.b0,b1:=zs.getD 1 d.b1,b2:=zs.getD 2 d.b2,b3:=zs.getD 3 d.b3}
def iE(k bl:Int)(n:Nat):Prop:=k=1∨k=3∨k=6∨(k=7/\0<=bl/\bl<=3)∨(k=9/\1<=n/\n<=4)
def dM.wide{A B:Nat->Prop}{w w':World}(h:dM A w w')(a:∀g,A g->B g):dM B w w':=⟨h.os,h.tape,h.output,h.size,λk b c=>h.block k b (λd=>c (a k d))⟩
def rB{w:World}{low St:Nat}{d:SD}{vr:Value}{Mp D H S:Nat}{c:Value}{fs:List FD}{left:Int}{L B:Nat}{cs:Array Value}{ty:TypeId}(h:eE w low St d vr Mp D)(e:fV w low D H S c fs left L)(b:dC w B cs ty)(k:ty≠200)(g:ty≠66)(i:ty≠98)(j:ty≠107):¬kP St vr Mp S c B:=by
 rintro(a|a|a|a|a);·exact b.ne h.blk k a
 ·exact h.jb.ne b a.symm
 ·exact jM h.rcs b.blk g a
 ·subst a;have f:=b.blk.symm.trans e.ds.st;simp at f;exact i f.2
 ·exact jM e.ds.row b.blk j a
def fV.store{w w':World}{low St:Nat}{d:SD}{vr:Value}{Mp D H S:Nat}{j:Value}{fs:List FD}{left:Int}{L:Nat}(h:eE w low St d vr Mp D)(a:fV w low D H S j fs left L)(k:dM (λg=>g=St∨g=Mp∨vr.ownBlock=Y g) w w'):fV w' low D H S j fs left L:=by
 have e:∀(g:Nat) (b:Array Value) (t':TypeId),w.heap[g]?=Y (G b t' (0,0))->t'≠200->t'≠66->w'.heap[g]?=w.heap[g]?:=by
  intro g b t' c n l;refine k.block g (Array.getElem?_eq_some_iff.1 c).1 ?_;rintro(i|i|i);·subst i;have f:=c.symm.trans h.blk.blk;simp at f;exact n f.2
  ·subst i;obtain⟨es,m,f,_⟩:=h.jb.obj;rw[f]at c;simp at c
  ·exact jM h.rcs c l i
 refine⟨a.hands.later (e D _ _ a.hands.d dG dG) (e H _ _ a.hands.h dG dG),⟨(e S _ _ a.ds.st dG dG).trans a.ds.st,dQ a.ds.row (λg c=>?_)⟩,a.dS,a.hS,a.lf,a.fl,a.bd⟩;obtain⟨b,f⟩:=a.ds.rowAt c;exact e g b 107 f dG dG
def AP(low St:Nat)(d:SD)(vr:Value)(Mp D:Nat)(k f e b wa p s q bl v:Int)(a:Option Addr)(m:List Int)(c:Nat)(w:World)(h:eE w low St d vr Mp D)(F:fB w a m)(x:∀z,a=Y z->z.block≠St)(u:0<=d.id/\d.id<5)(l:low<=w.heap.size)(A:d.recs.length<=1300000)(H:e_ e)(o:iE k bl m.length):Calls pG 220 #[P0 (Y ⟨St,0,Z⟩),.agg (mA k f e b wa p s q bl v (J a m.length c))] w λr w'=>r=.returned (.tuple #[])/\∃n,eE w' low St (d.step k e b p s q bl v m) n Mp D/\dM (λg=>g=St∨g=Mp∨vr.ownBlock=Y g) w w'/\(∀g,n.ownBlock=Y g->vr.ownBlock=Y g∨w.heap.size<=g):=by
 rcases o with rfl|rfl|rfl|⟨rfl,y,B⟩|⟨rfl,y,B⟩;·refine(H7 low St d vr Mp D f e b wa p s q bl v _ w h).mono ?_;rintro r w2 ⟨rfl,hs,j⟩;exact⟨rfl,vr,hs,j.wide (λg i=>.inr (.inl i)),λg i=>.inl i⟩
 ·refine(H8 low St d vr Mp D f e b wa p s q bl v _ w h).mono ?_;rintro r w2 ⟨rfl,hs,j⟩;exact⟨rfl,vr,hs,j.wide (λg i=>.inr (.inl i)),λg i=>.inl i⟩
 ·exact H9 low St d vr Mp D f e b wa p s q bl v _ w h u l oG H
 ·have E:bl=0∨bl=1∨bl=2∨bl=3:=oG;rcases E with rfl|rfl|rfl|rfl;·refine(KP low St d vr Mp D f e b wa p s q v _ w h).mono ?_;rintro r w2 ⟨rfl,hs,j⟩;exact⟨rfl,vr,hs,j.wide (λg i=>.inl i),λg i=>.inl i⟩
  ·refine(KQ low St d vr Mp D f e b wa p s q v _ w h).mono ?_;rintro r w2 ⟨rfl,hs,j⟩;exact⟨rfl,vr,hs,j.wide (λg i=>.inl i),λg i=>.inl i⟩
  ·refine(KR low St d vr Mp D f e b wa p s q v _ w h).mono ?_;rintro r w2 ⟨rfl,hs,j⟩;exact⟨rfl,vr,hs,j.wide (λg i=>.inl i),λg i=>.inl i⟩
  ·refine(KS low St d vr Mp D f e b wa p s q v _ w h).mono ?_;rintro r w2 ⟨rfl,hs,j⟩;exact⟨rfl,vr,hs,j.wide (λg i=>.inl i),λg i=>.inl i⟩
 ·rcases F with C|⟨g,off,rfl,i,K⟩;·subst C;simp at y
  ·have t:g≠St:=x _ rfl;refine(KT low St d vr Mp D f e b wa p s q bl v g off c m ⟨oG,oG⟩ w h i t K).mono ?_;rintro r w2 ⟨rfl,hs,j⟩;exact⟨rfl,vr,hs,j.wide (λg i=>.inl i),λg i=>.inl i⟩
def fB.keptI{w w':World}{A:Nat->Prop}{a:Option Addr}{e:List Int}(h:fB w a e)(b:dM A w w')(l:∀f,a=Y f->¬A f.block):fB w' a e:=by
 rcases h with h|⟨g,off,d,c,k⟩;·exact .inl h
 ·exact .inr ⟨g,off,d,Nat.lt_of_lt_of_le c b.size,λj i=>(oT (b.block g c (l _ d)) _).trans (k j i)⟩
def lV(d:SD)(fs:List FD)(left:Int)(m:dK)(ok:Bool)(fs':List FD)(left':Int)(d':SD):Prop:=
 (d.wh=true/\ok=decide (left≠0/\left≠1)/\fs'=pE fs left (eT m)/\left'=dL (dL left)/\d'={d with lines:=d.lines+1})∨
 (∃ks za zc,ks.Perm (d.dw.map (·.1))/\(ok,fs',left')=gD fs left ((d.msgs ks za zc++[m]).flatMap eT)/\d'={d with lines:=(d.recs.length:Int)+2*(d.dw.length:Int)+1,wh:=true})
def lV.same{d:SD}{fs:List FD}{left:Int}{m:dK}{ok:Bool}{fs':List FD}{left':Int}{d':SD}(h:lV d fs left m ok fs' left' d'):d'.id=d.id/\d'.recs=d.recs/\d'.dw=d.dw:=by rcases h with⟨_,_,_,_,rfl⟩|⟨_,_,_,_,_,rfl⟩<;>exact⟨rfl,rfl,rfl⟩
def fV.mono{w:World}{low D H S:Nat}{a:Value}{fs:List FD}{left:Int}{L L':Nat}(h:fV w low D H S a fs left L)(b:L<=L'):fV w low D H S a fs left L':=⟨h.hands,h.ds,h.dS,h.hS,h.lf,Nat.le_trans h.fl b,λf c=>Nat.le_trans (h.bd f c) b⟩
def JB(hSO:fA)(hBW:fC)(hBS:fD)(low St:Nat)(d:SD)(vr:Value)(Mp D H S:Nat)(u:Value)(fs:List FD)(left:Int)(L:Nat)(k f e b wa p s q bl v:Int)(a:Option Addr)(n:List Int)(c:Nat)(w:World)(h:eE w low St d vr Mp D)(U:fV w low D H S u fs left L)(R:dW w)(W:fB w a n)(o:2<=w.heap.size)(j:low<=w.heap.size)(V:L<=1200000000)(m:d.recs.length<=1300000)(x:d.dw.length<=1300000)(t:0<=d.lines/\d.lines<=100000000)(l:2<=St)(y:∀X,a=Y X->X.block≠St)(A:0<d.recs.length)(Q:∀r∈d.recs,0<=r.E/\r.E<=10000000000000):Calls pG 236 #[P0 (Y ⟨St,0,Z⟩),.agg (mA k f e b wa p s q bl v (J a n.length c))] w λr w'=>∃ok fs' left' d' i,r=.returned (.bool ok)/\lV d fs left (⟨k,f,e,b,wa,p,s,q,bl,v,a,c,n⟩:dK) ok fs' left' d'/\eE w' low St d' vr Mp D/\fV w' low D H S i fs' left' (Nat.max (L+301) (301*(d.recs.length+2*d.dw.length+1)))/\(∀g,i.ownBlock=Y g->u.ownBlock=Y g∨w.heap.size<=g)/\dM (λg=>g=St∨g=S∨u.ownBlock=Y g) w w':=by
 by_cases z:d.wh=true/\d.lines<64+2*((d.recs.length:Int)+2*(d.dw.length:Int));·refine(IG low St d vr Mp D H S u fs left L k f e b wa p s q bl v a n c w h U R W o j V m x t l y z.1 z.2).mono ?_;rintro r w' ⟨rfl,i,M,B,O,K⟩;exact⟨_,_,_,_,i,rfl,.inl ⟨z.1,rfl,rfl,rfl,rfl⟩,M,B.mono (Nat.le_max_left _ _),O,K⟩
 ·refine(JA hSO hBW hBS low St d vr Mp D H S u fs left L k f e b wa p s q bl v a n c w h U R W o j V m x t l y A Q ?_).mono ?_
  ·cases hw:d.wh;·exact .inl rfl
   ·exact .inr ⟨rfl,λh9=>z ⟨hw,h9⟩⟩
  rintro r w' ⟨ks,za,zc,N,F,C,rfl,i,M,B,O,K⟩;exact⟨F.1,F.2.1,F.2.2,_,i,rfl,.inr ⟨ks,za,zc,N,C,rfl⟩,M,B,O,K⟩
def KX(hSO:fA)(hBW:fC)(hBS:fD)(low St:Nat)(d:SD)(vr:Value)(Mp D H S:Nat)(z:Value)(fs:List FD)(left:Int)(L:Nat)(k f e b wa p s q bl v:Int)(a:Option Addr)(l:List Int)(c:Nat)(w:World)(h:eE w low St d vr Mp D)(hk:fV w low D H S z fs left L)(ht:dW w)(hz:fB w a l)(am:2<=w.heap.size)(aB:low<=w.heap.size)(hL:L<=1200000000)(ae:d.recs.length<=1300000)(az:d.dw.length<=1300000)(ao:0<=d.lines/\d.lines<=100000000)(aa:2<=St)(ak:∀F,a=Y F->F.block≠St)(al:0<d.recs.length)(aA:∀r∈d.recs,0<=r.E/\r.E<=10000000000000)(ar:0<=d.id/\d.id<5)(he:e_ e)(a7:iE k bl l.length)(ai:∀F,a=Y F->¬kP St vr Mp S z F.block):Calls pG 191 #[P0 (Y ⟨St,0,Z⟩),.agg (mA k f e b wa p s q bl v (J a l.length c))] w λr w'=>∃ok fs' left' d' ah ag,r=.returned (.bool ok)/\lV d fs left (⟨k,f,e,b,wa,p,s,q,bl,v,a,c,l⟩:dK) ok fs' left' d'/\eE w' low St (bif ok then d'.step k e b p s q bl v l else d') ah Mp D/\fV w' low D H S ag fs' left' (Nat.max (L+301) (301*(d.recs.length+2*d.dw.length+1)))/\(∀g,ag.ownBlock=Y g->z.ownBlock=Y g∨w.heap.size<=g)/\(∀g,ah.ownBlock=Y g->vr.ownBlock=Y g∨w.heap.size<=g)/\dM (kP St vr Mp S z) w w':=by
 have O:=a_ w (G (mA k f e b wa p s q bl v (J a l.length c)) 136);have x:Hid (dC (w.alloc (G (mA k f e b wa p s q bl v (J a l.length c)) 136)) w.heap.size (mA k f e b wa p s q bl v (J a l.length c)) 136):=dC.new _ _ _;have HB:Hid (Below w.heap.size w (w.alloc (G (mA k f e b wa p s q bl v (J a l.length c)) 136))):=O;have HT:Hid (dW (w.alloc (G (mA k f e b wa p s q bl v (J a l.length c)) 136))):=ht.below O am;have HZ:Hid (fB (w.alloc (G (mA k f e b wa p s q bl v (J a l.length c)) 136)) a l):=hz.later O;have ap:Hid (fB w a l):=hz;have ab:Hid (eE w low St d vr Mp D):=h;have aj:Hid (fV w low D H S z fs left L):=hk;have ax:Hid (∀F,a=Y F->¬kP St vr Mp S z F.block):=ai;clear ht hz O h hk ai;go_enter func191,ntmps191;go_upto_region 1 with fail;generalize (w.alloc (G (mA k f e b wa p s q bl v (J a l.length c)) 136))=W0 at*;have aD:=HB.size;have m0:=x.cell 0;have m1:=x.cell 1;have m2:=x.cell 2;have m3:=x.cell 3;have m4:=x.cell 4;have m5:=x.cell 5;have m6:=x.cell 6;have m7:=x.cell 7;have m8:=x.cell 8;have m9:=x.cell 9;have C:=x.cell 10;simp at m0 m1 m2 m3 m4 m5 m6 m7 m8 m9 C;go_wp2_with fail;refine(JB hSO hBW hBS low St d vr Mp D H S z fs left L k f e b wa p s q bl v a l c W0 (ab.later HB) (aj.later HB) HT HZ oG oG hL ae az ao aa ak al aA).mono ?_;rintro r w1 ⟨ok,U,t,d1,Q,hr,a3,V,R,a0,N⟩;subst hr;have a4:=dA a3;obtain⟨e1,e2,e3⟩:=a3.same;have a8:0<=d1.id/\d1.id<5:=by rw[e1];exact ar
 have af:d1.recs.length<=1300000:=by rw[e2];exact ae
 clear a3 e1 e2 e3;have M:Hid (eE w1 low St d1 vr Mp D):=V;have a2:Hid (fV w1 low D H S Q U t (Nat.max (L+301) (301*(d.recs.length+2*d.dw.length+1)))):=R;have ac:Hid (∀g,Q.ownBlock=Y g->z.ownBlock=Y g∨w.heap.size<=g):=λg hg=>(a0 g hg).imp id (λh9=>oG);have aq:Hid (dM (λg=>g=St∨g=S∨z.ownBlock=Y g) W0 w1):=N;have m:Hid (dM (λg=>g=St∨g=S∨z.ownBlock=Y g) w w1):=(dM.of_below (A:=λ_=>False) HB).trans N (λ_ u=>u.elim) (λ_ _ u=>u);have aE:=m.size;have a6:low<=w1.heap.size:=oG;have B:∀g,(g=St∨g=S∨z.ownBlock=Y g)->kP St vr Mp S z g:=λg u=>u.elim .inl (λW=>.inr (.inr (.inr W)));have j:Hid (dC w1 w.heap.size (mA k f e b wa p s q bl v (J a l.length c)) 136):=x.same (aq.block _ x.lt (λu=>rB (ab.later HB) (aj.later HB) x dG dG dG dG (B _ u)));have ay:Hid (fB w1 a l):=ap.keptI m (λF au u=>ax.out F au (B _ u));cases ok;·clear V R a0 N m0 m1 m2 m3 m4 m5 m6 m7 m8 m9 C;go_wp2;go_ret;exact⟨false,U,t,d1,vr,Q,rfl,a4,M,a2,ac,λg hg=>.inl hg,m.wide B⟩
 ·skip;clear V R a0 N m0 m1 m2 m3 m4 m5 m6 m7 m8 m9 C;have m0:=j.cell 0;have m1:=j.cell 1;have m2:=j.cell 2;have m3:=j.cell 3;have m4:=j.cell 4;have m5:=j.cell 5;have m6:=j.cell 6;have m7:=j.cell 7;have m8:=j.cell 8;have m9:=j.cell 9;have C:=j.cell 10;simp at m0 m1 m2 m3 m4 m5 m6 m7 m8 m9 C;go_upto_region 3 with fail;refine wp_region_held_drew (S:=(λw'=>w'.cell? ⟨w.heap.size,0,Z⟩=Y (I k)/\w'.cell? ⟨w.heap.size,1,Z⟩=Y (I f)/\w'.cell? ⟨w.heap.size,2,Z⟩=Y (I e)/\w'.cell? ⟨w.heap.size,3,Z⟩=Y (I b)/\w'.cell? ⟨w.heap.size,4,Z⟩=Y (I wa)/\w'.cell? ⟨w.heap.size,5,Z⟩=Y (I p)/\w'.cell? ⟨w.heap.size,6,Z⟩=Y (I s)/\w'.cell? ⟨w.heap.size,7,Z⟩=Y (I q)/\w'.cell? ⟨w.heap.size,8,Z⟩=Y (I bl)/\w'.cell? ⟨w.heap.size,9,Z⟩=Y (I v)/\w'.cell? ⟨w.heap.size,10,Z⟩=Y (J a l.length c))) kG (by(try dsimp only);(first|(and_intros<;>with_reducible assumption)|(and_intros<;>assumption)|go_keep)) (λX=>?_);refine wpAnyH_take (i:=0) (v:=?_) rfl kG kG kG (λ_ _ _ h=>h) (Or.inl ⟨by rfl,?_⟩) (by assumption) ?_;rotate_left;·intro w o;(try dsimp only at o);go_simp;(try with_reducible rfl)
  try simp only[Act.put,List.setIfInBounds_toArray,List.set_cons_zero,List.set_cons_succ]
  refine wpAnyH_take (i:=1) (v:=?_) rfl kG kG kG (λ_ _ _ h=>h) (Or.inl ⟨by rfl,?_⟩) (by assumption) ?_;rotate_left;·intro w o;(try dsimp only at o);go_simp;(try with_reducible rfl)
  try simp only[Act.put,List.setIfInBounds_toArray,List.set_cons_zero,List.set_cons_succ]
  refine wpAnyH_take (i:=2) (v:=?_) rfl kG kG kG (λ_ _ _ h=>h) (Or.inl ⟨by rfl,?_⟩) (by assumption) ?_;rotate_left;·intro w o;(try dsimp only at o);go_simp;(try with_reducible rfl)
  try simp only[Act.put,List.setIfInBounds_toArray,List.set_cons_zero,List.set_cons_succ]
  refine wpAnyH_take (i:=3) (v:=?_) rfl kG kG kG (λ_ _ _ h=>h) (Or.inl ⟨by rfl,?_⟩) (by assumption) ?_;rotate_left;·intro w o;(try dsimp only at o);go_simp;(try with_reducible rfl)
  try simp only[Act.put,List.setIfInBounds_toArray,List.set_cons_zero,List.set_cons_succ]
  refine wpAnyH_ready (rs:=[4]) kG sG ?_;refine AllReadyH.cons rfl (λK hK=>?_) ?_
  ·(try go_simp);go_at_call 220;refine(AP low St d1 vr Mp D k f e b wa p s q bl v a l c w1.drew M.drew ay.qw ak a8 (by exact a6) af he a7).mono ?_;rintro r w2 ⟨rfl,a1,a9,y,a5⟩;have aw:Hid (eE w2 low St _ a1 Mp D):=a9;have n:Hid (dM (λg=>g=St∨g=Mp∨vr.ownBlock=Y g) w1 w2):=⟨y.os,y.tape,y.output,y.size,y.block⟩;have an:Hid (∀g,a1.ownBlock=Y g->vr.ownBlock=Y g∨w1.heap.size<=g):=a5;have av:Hid (dC w2 w.heap.size _ 136):=j.same (n.block _ j.lt (λu=>rB M a2 j dG dG dG dG (u.elim .inl (λW=>.inr (W.elim .inl (λh7=>.inr (.inl h7)))))));clear a9 y a5;have aC:=av.cell;refine hK.out _ _ ?_ (λX=>?_);·(try dsimp only);(first|(and_intros<;>with_reducible assumption)|(and_intros<;>assumption)|go_keep)
   clear hK K;try simp only[Act.put,List.setIfInBounds_toArray,List.set_cons_zero,List.set_cons_succ]
   refine wpAnyH_done kG ?_ _;go_wp2;go_ret;refine⟨true,U,t,d1,a1,Q,rfl,a4,aw,fV.store M a2 n,ac,?_,?_⟩;·intro g hg;exact(an.out g hg).imp id (λh9=>oG)
   ·refine⟨n.os.trans m.os,n.tape.trans m.tape,n.output.trans m.output,by have:=n.size;omega,λg hg hA=>?_⟩;exact(n.block g oG (λu=>hA (u.elim .inl (λW=>.inr (W.elim .inl (λh7=>.inr (.inl h7))))))).trans (m.block g hg (λu=>hA (u.elim .inl (λW=>.inr (.inr (.inr W))))))
  exact AllReadyH.nil
structure iJ where
 k:Int
 f:Int
 e:Int
 b:Int
 wa:Int
 p:Int
 s:Int
 q:Int
 bl:Int
 v:Int
def iJ.nil:iJ:=⟨0,0,0,0,0,0,0,0,0,0⟩
structure NB where
 id:Int
 nodes:Int
 nb:Int
 St:Nat
 down:Bool
 act:Bool
 ph:Int
 gE:Int
 gP:Int
 gS:Int
 jo:Int
 ba:Int
 rf:Int
 fo:iJ
 an:Option Nat
 on:Int
 ow:iJ
 oa:Option Nat
 ops:Int
 res:Value
@[reducible] def NB.arr(x:NB):Array Value:=#[I x.id,I x.nodes,I x.nb,P0 (Y ⟨x.St,0,Z⟩),bool x.down,bool x.act,I x.ph,I x.gE,I x.gP,I x.gS,I x.jo,I x.ba,I x.rf,I x.fo.k,I x.fo.f,I x.fo.e,I x.fo.b,I x.fo.wa,I x.fo.p,I x.fo.s,I x.fo.q,I x.fo.bl,I x.fo.v,J Z 0 0,Value.map x.an,I x.on,I x.ow.k,I x.ow.f,I x.ow.e,I x.ow.b,I x.ow.wa,I x.ow.p,I x.ow.s,I x.ow.q,I x.ow.bl,I x.ow.v,J Z 0 0,Value.map x.oa,I x.ops,x.res]
def NB.stand(x:NB):NB:={x with act:=false,ph:=0,gE:=0,gP:=0,gS:=0,jo:=0,ba:=0,rf:=0,fo:=.nil,an:=none,on:=0,ow:=.nil,oa:=none}
def lO{P:Program}{w:World}{t:TypeId}{B i:Nat}{cs vs:Array Value}{ty:TypeId}(c:dC w B cs ty)(d:(P.info? t).map (·.size)=Y vs.size)(b:i+vs.size<=cs.size)(g:∀v∈vs.toList,v.oneCell'=true)(ds:Array Value)(e:cs.toList.take i++vs.toList++cs.toList.drop (i+vs.size)=ds.toList):(Instr.storeAt t (P0 (Y ⟨B,i,Z⟩)) (.agg vs)).run P w=.ok () (w.setRow B ds):=by
 have a:=run_storeCells_at P B i ty vs.toList 0 cs w c.blk (by simpa using b) g;simp only[Nat.add_zero,Array.length_toList]at a;rw[e,Array.toArray_toList]at a;cases hq:P.info? t with
 |none=>simp[hq]at d
 |some j=>
  have f:j.size=vs.size:=by simpa[hq] using d
  simp[Instr.storeAt,Instr.sureAddr,storeVar,sizeOf,typeInfo,hq,f,Value.cells,a]
def dC.row{w:World}{B:Nat}{cs ds:Array Value}{ty:TypeId}(h:dC w B cs ty):dC (w.setRow B ds) B ds ty:=by refine⟨?_⟩;have a:=h.blk;have b:=h.lt;simp[World.setRow,Array.getElem?_modify,a]
def qQ{P:Program}{w w':World}{ops:Array Oper}{b:List Oper}{o:Oper}{a:Act}{Q:Exit->Act->World->Prop}(f:o.guard=none)(t:TypeId)(x y:Operand)(d:o.op=Op.store t x y)(e vs:Value)(g:a.eval x=e)(hy:a.eval y=vs)(c:(Instr.storeAt t e vs).run P w=.ok () w')(h:wpList P ops Q b (a.put o.dst (.tuple #[])) w'):wpList P ops Q (o::b) a w:=by refine wpList_plain f λK i=>?_;unfold Oper.wp;simp[execOp,d,g,hy,c,Result.andThen];exact i _ _ h
def vZ(Nd:Nat)(x:NB)(w:World)(h:dC w Nd x.arr 192):Calls pG 192 #[P0 (Y ⟨Nd,0,Z⟩)] w λr w'=>r=.returned (.tuple #[])/\dC w' Nd x.stand.arr 192/\dI Nd w w':=by
 have y:=h.cell 5;have B:=h.free 5;simp at y;have l:Hid (dI Nd w (w.setCell ⟨Nd,5,Z⟩ (bool false))):=dI.setCell w ⟨Nd,5,Z⟩ (bool false);have g:Hid (dC (w.setCell ⟨Nd,5,Z⟩ (bool false)) Nd (#[I x.id,I x.nodes,I x.nb,P0 (Y ⟨x.St,0,Z⟩),bool x.down,bool false,I x.ph,I x.gE,I x.gP,I x.gS,I x.jo,I x.ba,I x.rf,I x.fo.k,I x.fo.f,I x.fo.e,I x.fo.b,I x.fo.wa,I x.fo.p,I x.fo.s,I x.fo.q,I x.fo.bl,I x.fo.v,J Z 0 0,Value.map x.an,I x.on,I x.ow.k,I x.ow.f,I x.ow.e,I x.ow.b,I x.ow.wa,I x.ow.p,I x.ow.s,I x.ow.q,I x.ow.bl,I x.ow.v,J Z 0 0,Value.map x.oa,I x.ops,x.res]) 192):=by have A:=h.set 5 (bool false);unfold Hid;simpa using A
 have o:=lO (P:=pG) (t:=188) (i:=6) (vs:=#[I 0,I 0,I 0,I 0,I 0,I 0,I 0,I 0,I 0,I 0,I 0,I 0,I 0,I 0,I 0,I 0,I 0,J Z 0 0,Value.map none]) g sY sG (by intro u c;simp at c;rcases c with rfl|rfl|rfl<;>rfl) #[I x.id,I x.nodes,I x.nb,P0 (Y ⟨x.St,0,Z⟩),bool x.down,bool false,I 0,I 0,I 0,I 0,I 0,I 0,I 0,I 0,I 0,I 0,I 0,I 0,I 0,I 0,I 0,I 0,I 0,J Z 0 0,Value.map none,I x.on,I x.ow.k,I x.ow.f,I x.ow.e,I x.ow.b,I x.ow.wa,I x.ow.p,I x.ow.s,I x.ow.q,I x.ow.bl,I x.ow.v,J Z 0 0,Value.map x.oa,I x.ops,x.res] sG;have d:=dA (g.row (ds:=#[I x.id,I x.nodes,I x.nb,P0 (Y ⟨x.St,0,Z⟩),bool x.down,bool false,I 0,I 0,I 0,I 0,I 0,I 0,I 0,I 0,I 0,I 0,I 0,I 0,I 0,I 0,I 0,I 0,I 0,J Z 0 0,Value.map none,I x.on,I x.ow.k,I x.ow.f,I x.ow.e,I x.ow.b,I x.ow.wa,I x.ow.p,I x.ow.s,I x.ow.q,I x.ow.bl,I x.ow.v,J Z 0 0,Value.map x.oa,I x.ops,x.res]));have j:=dA (lH (w.setCell ⟨Nd,5,Z⟩ (bool false)) Nd #[I x.id,I x.nodes,I x.nb,P0 (Y ⟨x.St,0,Z⟩),bool x.down,bool false,I 0,I 0,I 0,I 0,I 0,I 0,I 0,I 0,I 0,I 0,I 0,I 0,I 0,I 0,I 0,I 0,I 0,J Z 0 0,Value.map none,I x.on,I x.ow.k,I x.ow.f,I x.ow.e,I x.ow.b,I x.ow.wa,I x.ow.p,I x.ow.s,I x.ow.q,I x.ow.bl,I x.ow.v,J Z 0 0,Value.map x.oa,I x.ops,x.res]);generalize z:(w.setCell ⟨Nd,5,Z⟩ (bool false)).setRow Nd #[I x.id,I x.nodes,I x.nb,P0 (Y ⟨x.St,0,Z⟩),bool x.down,bool false,I 0,I 0,I 0,I 0,I 0,I 0,I 0,I 0,I 0,I 0,I 0,I 0,I 0,I 0,I 0,I 0,I 0,J Z 0 0,Value.map none,I x.on,I x.ow.k,I x.ow.f,I x.ow.e,I x.ow.b,I x.ow.wa,I x.ow.p,I x.ow.s,I x.ow.q,I x.ow.bl,I x.ow.v,J Z 0 0,Value.map x.oa,I x.ops,x.res]=W1 at*;have m:=lO (P:=pG) (t:=190) (i:=25) (vs:=#[I 0,I 0,I 0,I 0,I 0,I 0,I 0,I 0,I 0,I 0,I 0,J Z 0 0,Value.map none]) d OX sG (by intro u c;simp at c;rcases c with rfl|rfl|rfl<;>rfl) #[I x.id,I x.nodes,I x.nb,P0 (Y ⟨x.St,0,Z⟩),bool x.down,bool false,I 0,I 0,I 0,I 0,I 0,I 0,I 0,I 0,I 0,I 0,I 0,I 0,I 0,I 0,I 0,I 0,I 0,J Z 0 0,Value.map none,I 0,I 0,I 0,I 0,I 0,I 0,I 0,I 0,I 0,I 0,I 0,J Z 0 0,Value.map none,I x.ops,x.res] sG;have n:=dA (d.row (ds:=#[I x.id,I x.nodes,I x.nb,P0 (Y ⟨x.St,0,Z⟩),bool x.down,bool false,I 0,I 0,I 0,I 0,I 0,I 0,I 0,I 0,I 0,I 0,I 0,I 0,I 0,I 0,I 0,I 0,I 0,J Z 0 0,Value.map none,I 0,I 0,I 0,I 0,I 0,I 0,I 0,I 0,I 0,I 0,I 0,J Z 0 0,Value.map none,I x.ops,x.res]));have a:=dA (lH W1 Nd #[I x.id,I x.nodes,I x.nb,P0 (Y ⟨x.St,0,Z⟩),bool x.down,bool false,I 0,I 0,I 0,I 0,I 0,I 0,I 0,I 0,I 0,I 0,I 0,I 0,I 0,I 0,I 0,I 0,I 0,J Z 0 0,Value.map none,I 0,I 0,I 0,I 0,I 0,I 0,I 0,I 0,I 0,I 0,I 0,J Z 0 0,Value.map none,I x.ops,x.res]);clear h z;go_enter func192,ntmps192;go_wp2_with(first|(refine qQ rfl 188 _ _ rfl _ _ rfl rfl o ?_)|(refine qQ rfl 190 _ _ rfl _ _ rfl rfl m ?_));exact bodyPost_end (v:=.tuple #[]) (by simp[results,results192,go_sem]) rfl ⟨rfl,n,(l.trans j).trans a⟩
end Go.Proofs.YtdcainmlcpafbaaGreatDoor
