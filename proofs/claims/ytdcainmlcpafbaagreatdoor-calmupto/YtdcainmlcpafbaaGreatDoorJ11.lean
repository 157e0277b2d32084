import Derived.Test.YtdcainmlcpafbaaGreatDoorJ10
set_option linter.all false
set_option maxHeartbeats 8000000
set_option maxRecDepth 20000
namespace Go.Proofs.YtdcainmlcpafbaaGreatDoor
open Go.RowKit
open Value renaming slice->J,pointer->P0
open Tryz
open Tryz renaming prog->pG
open IntKind renaming i64->T
open Option renaming none->Z,some->Y
open Obj renaming cells->G
open Value (bool)
def fM.butR{w w':World}{B:Nat}{a:Option Addr}{n c:Nat}{cs:List Value}(h:fM w (J a n c) n cs)(b:dM B w w')(l:∀g o,a=Y ⟨g,o,Z⟩->g≠B):fM w' (J a n c) n cs:=by
 rcases h with h|⟨g,k,i,d,f⟩;·exact .inl h
 ·cases i;exact .inr ⟨g,_,rfl,by rw[b.size];exact d,λj u e=>(b.cell (p:=⟨g,j,Z⟩) (l g 0 rfl)).trans (f j u e)⟩
def KF{w:World}{B:Nat}{cs:Array Value}{ty:TypeId}(h:dI w B cs ty):∀j u,cs.toList[j]?=Y u->w.cell? ((⟨B,0,Z⟩:Addr).add j)=Y u:=by
 intro j u d;have c:=h.cell j;have b:cs[j]?=Y u:=by simpa using d
 rw[b]at c;rw[←c];unfold Addr.add;by_cases a:j=0;·subst a;rfl
 ·rw[if_neg a];simp
def KG{w w':World}{a:Option Addr}{f:List Int}{base n:Nat}{d:Value}{xs:List Value}(h:fK w a f)(m:∀k,a=Y k->∃b,w.1[k.block]?=Y (.cells b 3 (0,0)))(hs:w.1.size<=w'.1.size)(l:w.ownsRow base 136 11 d n xs)(p:∀g,g<w.1.size->d.ownBlock≠some g->w'.1[g]?=w.1[g]?):fK w' a f:=by
 rcases h with h|⟨g,off,i,e,o⟩;·exact .inl h
 ·obtain⟨b,r⟩:=m _ i;have c:d.ownBlock≠some g:=kK l r dG;exact .inr ⟨g,off,i,Nat.lt_of_lt_of_le e hs,λj q=>(qC (p g e c) _).trans (o j q)⟩
def PK{w:World}{g St:Nat}{cs:Array Value}(h:∃a,w.1[g]?=Y (.cells a 3 (0,0)))(hS:dI w St cs 200):g≠St:=by obtain⟨a,b⟩:=h;intro c;rw[c,hS.blk]at b;simp at b
def MG{w:World}{base n c:Nat}{a:Addr}{xs:List Value}(h:w.ownsRow base 136 11 (J (Y a) n c) n xs):(J (Y a) n c).ownBlock=Y a.block:=by
 rcases h.2 with⟨f,_⟩|⟨g,e,b,d,_⟩;·cases f
 ·cases d;rfl
def u7{f:List FD->List FD}{a:Bool×List FD×Int}(h:i_ a.2.2):-9223372036854775808<=(gN f a).2.2/\(gN f a).2.2<=9223372036854775807:=by
 unfold gN;split;·exact pH h
 ·exact h
def PL{fs:List FD}{left:Int}(h:i_ left):-9223372036854775808<=(iW fs left).2.2/\(iW fs left).2.2<=9223372036854775807:=by
 unfold iW;split;·exact u7 h
 ·exact h
def PM{fs:List FD}{left:Int}{l:List UInt8}(h:i_ left):-9223372036854775808<=(iE fs left l).2.2/\(iE fs left l).2.2<=9223372036854775807:=u7 (u7 (u7 (PL h)))
def OA(ms:List dN):(ms.flatMap fE).length<=301*ms.length:=by
 induction ms with
 |nil=>simp
 |cons m ms ih=>have:=DT m.k m.f m.e m.b m.wa m.p m.s m.q m.bl m.v m.zs;simp only[List.flatMap_cons,List.length_append,List.length_cons];unfold fE at ih⊢;omega
def DU{f:List FD->List FD}{a:Bool×List FD×Int}{P:List FD->Prop}(h:P a.2.1)(b:P (f a.2.1)):P (gN f a).2.1:=by
 unfold gN;split
 ·dsimp only;split;·exact h
  ·exact b
 ·exact h
def DV{fs:List FD}{L:Nat}(h:∀f∈fs,f.d.length<=L)(a b:List UInt8):(∀f∈jF fs a b,f.d.length<=L)/\(jF fs a b).length<=fs.length+1:=by
 unfold jF;split;·exact⟨h,oG⟩
 ·rename_i i hi;split;·exact⟨h,oG⟩
  ·have g:=tH h a;have e:=tH g.1 b;refine⟨λf c=>?_,nG⟩;rcases List.mem_append.1 c with c|c;·exact e.1 f c
   ·simp at c;subst c;show(fs.getD i jJ).d.length<=L;rw[List.getD_eq_getElem?_getD];cases hx:fs[i]? with
    |none=>simp[jJ]
    |some y=>exact h y (List.mem_of_getElem? hx)
def PN{fs:List FD}{left:Int}{L:Nat}(h:∀f∈fs,f.d.length<=L):((iW fs left).1=true->dX (iW fs left).2.1 eJ=none)/\(∀f∈(iW fs left).2.1,f.d.length<=L)/\(iW fs left).2.1.length<=fs.length:=by
 have a:=tH h eJ;unfold iW;split
 ·next hs=>
  unfold gN;simp only[if_true];by_cases b:left=0;·simp only[b,if_true];exact⟨λe=>by simp at e,h,Nat.le_refl _⟩
  ·simp only[b,if_false];refine⟨λ_=>?_,a.1,a.2⟩;unfold dX eC;rw[List.find?_eq_none];intro f c;have:=(List.mem_filter.1 c).2;simpa using this
 ·next hs=>
  refine⟨λ_=>?_,h,Nat.le_refl _⟩;simpa using hs
def PO{fs:List FD}{left:Int}{l:List UInt8}{L:Nat}(h:∀f∈fs,f.d.length<=L):(∀f∈(iE fs left l).2.1,f.d.length<=Nat.max L l.length)/\(iE fs left l).2.1.length<=fs.length+2:=by
 obtain⟨j,i,k⟩:=PN (left:=left) h;unfold iE;generalize iW fs left=s0 at*;have b:∀f∈s0.2.1,f.d.length<=Nat.max L l.length:=λf a=>Nat.le_trans (i f a) (Nat.le_max_left _ _);have c:(∀f∈(gN (λz=>fJ z eJ l) s0).2.1,f.d.length<=Nat.max L l.length)/\(gN (λz=>fJ z eJ l) s0).2.1.length<=fs.length+1:=by
  unfold gN;split
  ·next hs=>
   dsimp only;split;·exact⟨b,oG⟩
   ·have g:fJ s0.2.1 eJ l=s0.2.1++[⟨eJ,l,0⟩]:=by unfold fJ;rw[(G7 (j hs)).1]
    rw[g];refine⟨λf a=>?_,nG⟩;rcases List.mem_append.1 a with a|a;·exact b f a
    ·simp at a;subst a;exact Nat.le_max_right _ _
  ·exact⟨b,oG⟩
 generalize gN (λz=>fJ z eJ l) s0=s1 at*;have e:(∀f∈(gN (λz=>gK z eJ) s1).2.1,f.d.length<=Nat.max L l.length)/\(gN (λz=>gK z eJ) s1).2.1.length<=fs.length+1:=DU (P:=λz=>(∀f∈z,f.d.length<=Nat.max L l.length)/\z.length<=fs.length+1) c ⟨(uQ c.1 eJ).1,by rw[(uQ c.1 eJ).2];exact c.2⟩;generalize gN (λz=>gK z eJ) s1=s2 at*;exact DU (P:=λz=>(∀f∈z,f.d.length<=Nat.max L l.length)/\z.length<=fs.length+2) ⟨e.1,oG⟩ ⟨(DV e.1 eJ eY).1,by have:=(DV e.1 eJ eY).2;omega⟩
set_option maxRecDepth 20000 in
set_option maxHeartbeats 8000000 in
def KH(hSO:fB)(hBW:fH)(hBS:fI)(low St:Nat)(d:SD)(vr:Value)(Mp D H S:Nat)(va:Value)(fs:List FD)(left:Int)(L:Nat)(k f e b wa p s q bl v:Int)(a:Option Addr)(z:List Int)(c:Nat)(w:World)(h:eI w low St d vr Mp D)(hk:gB w low D H S va fs left L)(ht:dY w)(hz:fK w a z)(b8:2<=w.1.size)(bx:low<=w.1.size)(hL:L<=24000000000)(bF:d.recs.length<=26000000)(bJ:d.3.length<=26000000)(bE:0<=d.lines/\d.lines<=100000000)(az:2<=St)(bj:∀M,a=Y M->M.block≠St)(av:0<d.recs.length)(aZ:∀r∈d.recs,0<=r.E/\r.E<=10000000000000)(V:d.wh=false∨(d.wh=true/\¬d.lines<64+2*((d.recs.length:Int)+2*(d.3.length:Int)))):Calls pG 236 #[P0 (Y ⟨St,0,Z⟩),.agg (mA k f e b wa p s q bl v (J a z.length c))] w λr w'=>∃A F C,A.Perm (d.3.map (·.1))/\∃RW,RW=iE fs left ((d.jb A F C++[(⟨k,f,e,b,wa,p,s,q,bl,v,a,c,z⟩:dN)]).flatMap fE)/\r=.returned (.bool RW.1)/\∃aE,eI w' low St {d with lines:=(d.recs.length:Int)+2*(d.3.length:Int)+1,wh:=true} vr Mp D/\gB w' low D H S aE RW.2.1 RW.2.2 (Nat.max (L+301) (301*(d.recs.length+2*d.3.length+1)))/\(∀g,aE.ownBlock=Y g->va.ownBlock=Y g∨w.1.size<=g)/\dQ (λg=>g=St∨g=S∨va.ownBlock=Y g) w w':=by
 obtain⟨i0,aT,aB,aW,aN⟩:=info_parts xQ;have aG:=(Below.refl w.1.size w).alloc r_ (G (mA k f e b wa p s q bl v (J a z.length c)) 136);have HM:Hid (dI (w.alloc (G (mA k f e b wa p s q bl v (J a z.length c)) 136)) w.1.size (mA k f e b wa p s q bl v (J a z.length c)) 136):=dI.new _ _ _;have HB:Hid (Bw w (w.alloc (G (mA k f e b wa p s q bl v (J a z.length c)) 136))):=aG;have bf:Hid (dY w):=ht;have bv:Hid (fK w a z):=hz;have ak:Hid (eI w low St d vr Mp D):=h;have br:Hid (gB w low D H S va fs left L):=hk;have bz:=h.blk.lt;clear ht hz aG h hk;have bh:d.wh=false∨(d.wh=true/\decide (d.lines<64+2*((d.recs.length:Int)+2*(d.3.length:Int)))=false):=V.imp id (λB=>⟨B.1,by simpa using B.2⟩);clear V;rcases bh with ay|⟨ay,bH⟩;all_goals
  have bu:=dF ay
  go_enter func236,ntmps236
  go_upto_region 1 with fail
  generalize (w.alloc (G (mA k f e b wa p s q bl v (J a z.length c)) 136))=W0 at*
  have HS:Hid (eI W0 low St d vr Mp D):=ak.later HB
  have c9:=HS.blk.cell 9
  have a0:=HS.blk.cell 10
  have c11:=HS.blk.cell 11
  simp at c9 a0 c11
  rw[bu.out]at c11
  have bw:=HS.blk.lt
  have aD:=HB.size
  go_quiet ((go_at_call 255;exact Calls.quiet_of (AY low St d vr Mp D _ (HS.later (below_drewN b_ _)) oG oG)))
  have an:Bw W0 (W0.drewN nq):=below_drewN b_ _
  have af:Hid (dI (W0.drewN nq) w.1.size (mA k f e b wa p s q bl v (J a z.length c)) 136):=HM.later an
  have ab:Hid (Bw w (W0.drewN nq)):=HB.trans (an.mono aD)
  generalize W0.drewN nq=W1 at*
  clear an c9 a0 c11 HM HB HS bw aD
  have a8:Hid (eI W1 low St d vr Mp D):=ak.later ab
  have aP:=ab.size
  have aF:=af.lt
  go_upto_region 4 with fail
  go_cut [5] (λs5 wx=>∃(a2:Option Addr) (c2:Nat) (ms:List dN),s5=J a2 ms.length c2/\ms.length=d.recs.length+2*d.3.length+1/\fM wx (J a2 ms.length c2) ms.length (ms.flatMap dN.cells)/\(∀M,a2=Y M->w.1.size<=M.block)/\(∀m∈ms,fK wx m.a m.zs/\∀M,m.a=Y M->M.block≠St)/\Bw w wx/\∃A F C,A.Perm (d.3.map (·.1))/\ms=d.jb A F C++[(⟨k,f,e,b,wa,p,s,q,bl,v,a,c,z⟩:dN)])
  case first=>
   have bI:=af.cell
   refine wp_region_held_drew (S:=(λw'=>w'.cell? ⟨w.1.size,0,Z⟩=Y (I k)/\w'.cell? ⟨w.1.size,1,Z⟩=Y (I f)/\w'.cell? ⟨w.1.size,2,Z⟩=Y (I e)/\w'.cell? ⟨w.1.size,3,Z⟩=Y (I b)/\w'.cell? ⟨w.1.size,4,Z⟩=Y (I wa)/\w'.cell? ⟨w.1.size,5,Z⟩=Y (I p)/\w'.cell? ⟨w.1.size,6,Z⟩=Y (I s)/\w'.cell? ⟨w.1.size,7,Z⟩=Y (I q)/\w'.cell? ⟨w.1.size,8,Z⟩=Y (I bl)/\w'.cell? ⟨w.1.size,9,Z⟩=Y (I v)/\w'.cell? ⟨w.1.size,10,Z⟩=Y (J a z.length c))) kG (by(try dsimp only);(first|(and_intros<;>with_reducible assumption)|(and_intros<;>assumption)|go_keep)) (λbq=>?_)
   refine tk 0 ?_
   refine tk 1 ?_
   refine tk 2 ?_
   refine tk 4 ?_
   refine jC [3,5] ?_
   refine .cons rfl (λK X=>?_) ?_
   focus
    (try go_simp)
    go_at_call 257
    refine(BT hSO low St d vr Mp D W1.drew a8.drew av oG oG aZ).mono ?_
    rintro r w3 ⟨a3,c3,A,F,C,rfl,Q,ac,am,aq,y⟩
    have t:Hid (dI w3 w.1.size _ 136):=af.drew.later y
    have a5:Hid (Bw w w3):=ab.drew.trans (y.mono aP)
    have N:Hid (w3.ownsRow W1.1.size 136 11 (J a3 (d.jb A F C).length c3) (d.jb A F C).length _):=ac
    have ah:W1.1.size<=w3.1.size:=y.size
    have aK:Hid (dI w3 St _ 200):=a8.blk.drew.later y
   rotate_left
   focus
    refine .cons rfl (λK X=>?_) .nil
    (try go_simp)
    refine kr X 3 λK X=>?_
    (try go_simp)
    go_at_call 257
    refine(BT hSO low St d vr Mp D (W1.alloc (G (mA k f e b wa p s q bl v (J a z.length c)) 136)).drew (a8.later (a_ _ _)).drew av oG oG aZ).mono ?_
    rintro r w3 ⟨a3,c3,A,F,C,rfl,Q,ac,am,aq,y⟩
    have t:Hid (dI w3 w.1.size _ 136):=(af.old _).drew.later y
    have a5:Hid (Bw w w3):=(ab.alloc aP _).drew.trans (y.mono (by show _<=(World.alloc _ _).1.size;simp;omega))
    have N:Hid (w3.ownsRow W1.1.size 136 11 (J a3 (d.jb A F C).length c3) (d.jb A F C).length _):=pB ac (by show _<=(World.alloc _ _).1.size;simp)
    have bg:Hid (dI w3 W1.1.size (mA k f e b wa p s q bl v (J a z.length c)) 136):=(dI.new W1 _ _).drew.later y
    have ah:W1.1.size<=w3.1.size:=Nat.le_trans (by show _<=(World.alloc _ _).1.size;simp) y.size
    have aK:Hid (dI w3 St _ 200):=(a8.blk.old _).drew.later y
   all_goals
    have ag:(d.jb A F C).length=d.recs.length+2*d.3.length:=by rw[xD,Q.length_eq];simp;omega
    have b7:Hid (∀m∈d.jb A F C,fK w3 m.a m.zs):=am
    have aa:Hid (∀m∈d.jb A F C,∀M,m.a=Y M->∃b9,w3.1[M.block]?=Y (.cells b9 3 (0,0))):=aq
    have bm:Hid ((d.jb A F C).length=d.recs.length+2*d.3.length):=ag
    have bG:(d.jb A F C).length<=80000000:=oG
    have ao:=dF Q
    clear ac am aq y ag Q
    generalize aM:d.jb A F C=U at*
    have ar:=dF aM
    clear aM
    have z0:=t.cell 0
    have z1:=t.cell 1
    have z2:=t.cell 2
    have z3:=t.cell 3
    have z4:=t.cell 4
    have z5:=t.cell 5
    have z6:=t.cell 6
    have z7:=t.cell 7
    have z8:=t.cell 8
    have z9:=t.cell 9
    have aw:=t.cell 10
    simp at z0 z1 z2 z3 z4 z5 z6 z7 z8 z9 aw
    refine k1 X λ_=>?_;clear X K
   focus
    refine dT 6 λK X=>?_
    refine lG rfl (.tmp 39) (.tmp 41) 22 rfl W1.1.size 136 i0 (.agg mz) 11 104 underlying22 aT aB aW aN rfl dG (J a3 U.length c3) U.length _ eG N ⟨W1.1.size,0,Z⟩ 1 1 (dN.cells (⟨k,f,e,b,wa,p,s,q,bl,v,a,c,z⟩:dN)) oG eG rfl (KF bg) (tG _) xG oG ah ?_
    intro v5 w5 W O a4
    obtain⟨xa,xc,rfl⟩:=eK W
    have ap:Hid (∀g,g<w3.1.size->(J a3 U.length c3).ownBlock≠some g->w5.1[g]?=w3.1[g]?):=λg R hn=>O.block g R (λB=>hn B.symm)
    have aI:w3.1.size<=w5.1.size:=O.size
    have a9:Hid (w5.ownsRow W1.1.size 136 11 (J xa (U.length+1) xc) (U.length+1) (U.flatMap dN.cells++dN.cells (⟨k,f,e,b,wa,p,s,q,bl,v,a,c,z⟩:dN))):=W
    have aY:∀g,g<W1.1.size->(J a3 U.length c3).ownBlock≠some g:=λg R B=>by have:=(N.lt g B).1;omega
    have au:Hid (Bw w w5):=Below.grown a5 O a5.size (λg R=>by have:=(N.lt g R).1;omega)
   rotate_left
   focus
    refine dT 5 λK X=>?_
    (try go_simp)
    refine kr X 6 λK X=>?_
    refine lG rfl (.tmp 39) (.tmp 41) 22 rfl W1.1.size 136 i0 (.agg mz) 11 104 underlying22 aT aB aW aN rfl dG (J a3 U.length c3) U.length _ eG (World.ownsRow.alloc N _) ⟨w3.1.size,0,Z⟩ 1 1 (dN.cells (⟨k,f,e,b,wa,p,s,q,bl,v,a,c,z⟩:dN)) oG eG rfl (sS w3 w3.1.size rfl (dN.cells (⟨k,f,e,b,wa,p,s,q,bl,v,a,c,z⟩:dN)) 136) (tG _) xG oG nG ?_
    intro v5 w5 W O a4
    obtain⟨xa,xc,rfl⟩:=eK W
    have ap:Hid (∀g,g<w3.1.size->(J a3 U.length c3).ownBlock≠some g->w5.1[g]?=w3.1[g]?):=λg R hn=>(O.block g nG (λB=>hn B.symm)).trans (heap_alloc_old _ _ R)
    have aI:w3.1.size<=w5.1.size:=Nat.le_trans sG O.size
    have a9:Hid (w5.ownsRow W1.1.size 136 11 (J xa (U.length+1) xc) (U.length+1) (U.flatMap dN.cells++dN.cells (⟨k,f,e,b,wa,p,s,q,bl,v,a,c,z⟩:dN))):=W
    have aY:∀g,g<W1.1.size->(J a3 U.length c3).ownBlock≠some g:=λg R B=>by have:=(N.lt g B).1;omega
    have au:Hid (Bw w w5):=Below.grown (a5.alloc a5.size _) O nG (λg R=>by have:=(N.lt g R).1;omega)
   all_goals
    have u:∀j,w5.cell? ⟨w.1.size,j,Z⟩=w3.cell? ⟨w.1.size,j,Z⟩:=λj=>qC (ap.out w.1.size t.lt (aY _ aF)) j
    have y0:=(u 0).trans z0
    have y1:=(u 1).trans z1
    have y2:=(u 2).trans z2
    have y3:=(u 3).trans z3
    have y4:=(u 4).trans z4
    have y5:=(u 5).trans z5
    have y6:=(u 6).trans z6
    have y7:=(u 7).trans z7
    have y8:=(u 8).trans z8
    have y9:=(u 9).trans z9
    have bD:=(u 10).trans aw
    clear u W O a4
    refine kr X 7 λK X=>?_
    (try go_simp)
    refine kd X ?_
    go_wp2_with fail
    go_meet
    refine⟨xa,xc,U++[(⟨k,f,e,b,wa,p,s,q,bl,v,a,c,z⟩:dN)],?_,?_,?_,?_,?_,au,A,F,C,ao,by rw[ar.out]⟩
    ·rw[List.length_append];rfl
    ·rw[List.length_append,bm.out];rfl
    ·have B:=fM.ig a9
     rw[List.flatMap_append,List.length_append]
     simpa using B
    ·intro M al;subst al;have B:=(a9.lt M.block (MG a9)).1;omega
    ·intro m hm
     rcases List.mem_append.1 hm with hm|hm
     ·exact⟨KG (b7.out m hm) (aa.out m hm) aI N ap,λM al=>PK (aa.out m hm M al) aK⟩
     ·simp at hm;subst hm;exact⟨bv.later au,bj⟩
  case rest=>
   obtain⟨a2,c2,ms,rfl,aH,aj,bs,aO,a1,A,F,C,Q,aU⟩:=hcut
   have ao:=dF Q
   have ar:=dF aU
   clear Q aU
   have n:Hid (eI wc low St d vr Mp D):=ak.later a1
   have bo:Hid (gB wc low D H S va fs left L):=br.later a1
   have bb:Hid (dY wc):=bf.below a1 b8
   have a6:Hid (Bw w wc):=a1
   have aR:Hid (∀m∈ms,fK wc m.a m.zs/\∀M,m.a=Y M->M.block≠St):=aO
   have aL:Hid (fM wc (J a2 ms.length c2) ms.length (ms.flatMap dN.cells)):=aj
   have aJ:Hid (ms.length=d.recs.length+2*d.3.length+1):=aH
   have b5:ms.length<=80000000:=oG
   clear aO a1 aj aH
   have c9:=n.blk.cell 9
   have a0:=n.blk.cell 10
   have c11:=n.blk.cell 11
   simp at c9 a0 c11
   have aQ:=n.blk.free 10
   have ax:=n.blk.free 11
   have b4:Hid (dI ((wc.setCell ⟨St,10,Z⟩ (I (ms.length:Int))).setCell ⟨St,11,Z⟩ (bool true)) St #[I d.id,vr,Value.map (Y Mp),I d.b0,I d.b1,I d.b2,I d.b3,I d.seen,I d.last,P0 (Y ⟨D,0,Z⟩),I (ms.length:Int),bool true] 200):=by have B:=(n.blk.set 10 (I (ms.length:Int))).set 11 (bool true);unfold Hid;simpa using B
   have x:Hid (dM St wc ((wc.setCell ⟨St,10,Z⟩ (I (ms.length:Int))).setCell ⟨St,11,Z⟩ (bool true))):=(dM.setCell wc ⟨St,10,Z⟩ _).trans (dM.setCell _ ⟨St,11,Z⟩ _)
   have gO:Hid (eI ((wc.setCell ⟨St,10,Z⟩ (I (ms.length:Int))).setCell ⟨St,11,Z⟩ (bool true)) low St {d with lines:=(ms.length:Int),wh:=true} vr Mp D):=⟨b4,dW n.ji (λg R=>x.block g (λhh=>kK n.ji n.blk.blk dG (by rw[←hh];exact R))),n.jg.same (x.block Mp (n.jg.ne n.blk))⟩
   have i:Hid (gB ((wc.setCell ⟨St,10,Z⟩ (I (ms.length:Int))).setCell ⟨St,11,Z⟩ (bool true)) low D H S va fs left L):=bo.but n.blk dG dG dG dG x
   have aa:Hid (dY ((wc.setCell ⟨St,10,Z⟩ (I (ms.length:Int))).setCell ⟨St,11,Z⟩ (bool true))):=bb.butT x az
   have bp:Hid (∀m∈ms,fK ((wc.setCell ⟨St,10,Z⟩ (I (ms.length:Int))).setCell ⟨St,11,Z⟩ (bool true)) m.a m.zs):=λm hm=>(aR.out m hm).1.butI x (aR.out m hm).2
   have bn:Hid (fM ((wc.setCell ⟨St,10,Z⟩ (I (ms.length:Int))).setCell ⟨St,11,Z⟩ (bool true)) (J a2 ms.length c2) ms.length (ms.flatMap dN.cells)):=aL.butR x (λg o hh=>by have:=bs _ hh;simp at this;omega)
   have bB:((wc.setCell ⟨St,10,Z⟩ (I (ms.length:Int))).setCell ⟨St,11,Z⟩ (bool true)).1.size=wc.1.size:=x.size
   have bC:=a6.size
   go_upto_region 6 with fail
   generalize ((wc.setCell ⟨St,10,Z⟩ (I (ms.length:Int))).setCell ⟨St,11,Z⟩ (bool true))=W5 at*
   clear c9 a0 c11 aQ ax b4
   have c9:=gO.blk.cell 9
   simp at c9
   go_wp2_with fail
   refine(IQ hBW hBS low D H S va fs left L ms a2 c2 W5 aa oG bn bp b5 (by rw[aJ.out];omega) i.hands i.dS i.hS i.ds i.lf oG (Nat.le_trans i.fl oG) i.bd hL).mono ?_
   rintro r w4 ⟨hr,bc,aS,ae,aX⟩
   have aC:=dF (PO (left:=left) (l:=ms.flatMap fE) i.bd)
   have aA:=dF (PM (fs:=fs) (l:=ms.flatMap fE) i.lf)
   have bt:=dF (OA ms)
   have b6:Hid (iE fs left (ms.flatMap fE)=iE fs left ((d.jb A F C++[(⟨k,f,e,b,wa,p,s,q,bl,v,a,c,z⟩:dN)]).flatMap fE)):=by unfold Hid;rw[←ar.out]
   generalize iE fs left (ms.flatMap fE)=RW at*
   subst hr
   have bk:=dF (gO.pu i.ds ae)
   have be:=dF (i.hands.did i.dS i.hS i.ds ae)
   have ba:=dF aS
   have a7:=dF ae
   have bi:=dF aX
   clear aS ae aX
   go_wp2
   go_ret
   have aV:=aJ.out
   have bA:=i.fl
   have ai:=bt.out
   refine⟨A,F,C,ao,RW,b6,rfl,bc,?_,⟨be,ba,i.dS,i.hS,aA,?_,?_⟩,λg R=>?_,?_⟩
   ·have B:=bk.out
    rw[show(ms.length:Int)=(d.recs.length:Int)+2*(d.3.length:Int)+1 by omega]at B
    exact B
   ·exact Nat.le_trans aC.2 (Nat.le_trans oG (Nat.le_max_left _ _))
   ·intro f9 B
    have h8:=aC.1 f9 B
    rw[aV]at ai
    exact Nat.le_trans h8 (Nat.max_le.2 ⟨Nat.le_trans oG (Nat.le_max_left _ _),Nat.le_trans ai (Nat.le_max_right _ _)⟩)
   ·rcases bi.out g R with h8|h8
    ·exact .inl h8
    ·exact .inr oG
   ·refine⟨a7.os.trans (x.os.trans a6.os),a7.tape.trans (x.tape.trans a6.tape),a7.output.trans (x.output.trans a6.output),by have:=a7.size;omega,λg R hA=>?_⟩
    exact(a7.block g oG (λhh=>hA (hh.elim (λh8=>.inr (.inl h8)) (λh8=>.inr (.inr h8.symm))))).trans ((x.block g (λh8=>hA (.inl h8))).trans (a6.block g R))
def kW(St:Nat)(vr:Value)(Mp S:Nat)(va:Value)(g:Nat):Prop:=g=St∨g=Mp∨vr.ownBlock=Y g∨g=S∨va.ownBlock=Y g
def SD.lg(d:SD)(bl v:Int):SD:=if bl=0 then{d with b0:=v} else if bl=1 then{d with b1:=v} else if bl=2 then{d with b2:=v} else{d with b3:=v}
def SD.step(d:SD)(k e b p s q bl v:Int)(zs:List Int):SD:=
 if k=1 then{d with kv:=f8 d.3 e ((dJ d.3 e).after 1 b p s)}
 else if k=3 then{d with kv:=f8 d.3 e ((dJ d.3 e).after 3 b p s)}
 else if k=6 then d.learn (e+1) p s
 else if k=7 then{d.lg bl v with seen:=e,last:=q}
 else{d with seen:=e,last:=q,b0:=zs.getD 0 d.b0,b1:=zs.getD 1 d.b1,b2:=zs.getD 2 d.b2,b3:=zs.getD 3 d.b3}
def iI(k bl:Int)(n:Nat):Prop:=k=1∨k=3∨k=6∨(k=7/\0<=bl/\bl<=3)∨(k=9/\1<=n/\n<=4)
def dQ.wide{A B:Nat->Prop}{w w':World}(h:dQ A w w')(a:∀g,A g->B g):dQ B w w':=⟨h.os,h.tape,h.output,h.size,λk b c=>h.block k b (λd=>c (a k d))⟩
def rR{w:World}{low St:Nat}{d:SD}{vr:Value}{Mp D H S:Nat}{c:Value}{fs:List FD}{left:Int}{L B:Nat}{cs:Array Value}{ty:TypeId}(h:eI w low St d vr Mp D)(e:gB w low D H S c fs left L)(b:dI w B cs ty)(k:ty≠200)(g:ty≠66)(i:ty≠98)(j:ty≠107):¬kW St vr Mp S c B:=by
 rintro(a|a|a|a|a);·exact b.ne h.blk k a
 ·exact h.jg.ne b a.symm
 ·exact kK h.ji b.blk g a
 ·subst a;have f:=b.blk.symm.trans e.ds.st;simp at f;exact i f.2
 ·exact kK e.ds.row b.blk j a
def gB.store{w w':World}{low St:Nat}{d:SD}{vr:Value}{Mp D H S:Nat}{j:Value}{fs:List FD}{left:Int}{L:Nat}(h:eI w low St d vr Mp D)(a:gB w low D H S j fs left L)(k:dQ (λg=>g=St∨g=Mp∨vr.ownBlock=Y g) w w'):gB w' low D H S j fs left L:=by
 have e:∀(g:Nat) (b:Array Value) (t':TypeId),w.1[g]?=Y (G b t' (0,0))->t'≠200->t'≠66->w'.1[g]?=w.1[g]?:=by
  intro g b t' c n l;refine k.block g (Array.getElem?_eq_some_iff.1 c).1 ?_;rintro(i|i|i);·subst i;have f:=c.symm.trans h.blk.blk;simp at f;exact n f.2
  ·subst i;obtain⟨es,m,f,_⟩:=h.jg.1;rw[f]at c;simp at c
  ·exact kK h.ji c l i
 refine⟨a.hands.later (e D _ _ a.hands.d dG dG) (e H _ _ a.hands.h dG dG),⟨(e S _ _ a.ds.st dG dG).trans a.ds.st,dW a.ds.row (λg c=>?_)⟩,a.dS,a.hS,a.lf,a.fl,a.bd⟩;obtain⟨b,f⟩:=a.ds.rowAt c;exact e g b 107 f dG dG
def BU(low St:Nat)(d:SD)(vr:Value)(Mp D:Nat)(k f e b wa p s q bl v:Int)(a:Option Addr)(m:List Int)(c:Nat)(w:World)(h:eI w low St d vr Mp D)(F:fK w a m)(x:∀z,a=Y z->z.block≠St)(u:0<=d.id/\d.id<5)(l:low<=w.1.size)(A:d.recs.length<=26000000)(H:e_ e)(o:iI k bl m.length):Calls pG 220 #[P0 (Y ⟨St,0,Z⟩),.agg (mA k f e b wa p s q bl v (J a m.length c))] w λr w'=>r=.returned (.tuple #[])/\∃n,eI w' low St (d.step k e b p s q bl v m) n Mp D/\dQ (λg=>g=St∨g=Mp∨vr.ownBlock=Y g) w w'/\(∀g,n.ownBlock=Y g->vr.ownBlock=Y g∨w.1.size<=g):=by
 rcases o with rfl|rfl|rfl|⟨rfl,y,B⟩|⟨rfl,y,B⟩;·refine(AM 1 (.inl rfl) low St d vr Mp D f e b wa p s q bl v _ w h).mono ?_;rintro r w2 ⟨rfl,hs,j⟩;exact⟨rfl,vr,hs,j.wide (λg i=>.inr (.inl i)),λg i=>.inl i⟩
 ·refine(AM 3 (.inr rfl) low St d vr Mp D f e b wa p s q bl v _ w h).mono ?_;rintro r w2 ⟨rfl,hs,j⟩;exact⟨rfl,vr,hs,j.wide (λg i=>.inr (.inl i)),λg i=>.inl i⟩
 ·exact JG low St d vr Mp D f e b wa p s q bl v _ w h u l oG H
 ·have E:bl=0∨bl=1∨bl=2∨bl=3:=oG;rcases E with rfl|rfl|rfl|rfl;·refine(L3 low St d vr Mp D f e b wa p s q v _ w h).mono ?_;rintro r w2 ⟨rfl,hs,j⟩;exact⟨rfl,vr,hs,j.wide (λg i=>.inl i),λg i=>.inl i⟩
  ·refine(L9 low St d vr Mp D f e b wa p s q v _ w h).mono ?_;rintro r w2 ⟨rfl,hs,j⟩;exact⟨rfl,vr,hs,j.wide (λg i=>.inl i),λg i=>.inl i⟩
  ·refine(MA low St d vr Mp D f e b wa p s q v _ w h).mono ?_;rintro r w2 ⟨rfl,hs,j⟩;exact⟨rfl,vr,hs,j.wide (λg i=>.inl i),λg i=>.inl i⟩
  ·refine(MB low St d vr Mp D f e b wa p s q v _ w h).mono ?_;rintro r w2 ⟨rfl,hs,j⟩;exact⟨rfl,vr,hs,j.wide (λg i=>.inl i),λg i=>.inl i⟩
 ·rcases F with C|⟨g,off,rfl,i,K⟩;·subst C;simp at y
  ·have t:g≠St:=x _ rfl;refine(MC low St d vr Mp D f e b wa p s q bl v g off c m ⟨oG,oG⟩ w h i t K).mono ?_;rintro r w2 ⟨rfl,hs,j⟩;exact⟨rfl,vr,hs,j.wide (λg i=>.inl i),λg i=>.inl i⟩
def fK.keptI{w w':World}{A:Nat->Prop}{a:Option Addr}{e:List Int}(h:fK w a e)(b:dQ A w w')(l:∀f,a=Y f->¬A f.block):fK w' a e:=by
 rcases h with h|⟨g,off,d,c,k⟩;·exact .inl h
 ·exact .inr ⟨g,off,d,Nat.lt_of_lt_of_le c b.size,λj i=>(qC (b.block g c (l _ d)) _).trans (k j i)⟩
def mB(d:SD)(fs:List FD)(left:Int)(m:dN)(ok:Bool)(fs':List FD)(left':Int)(d':SD):Prop:=
 (d.wh=true/\ok=decide (left≠0/\left≠1)/\fs'=pS fs left (fE m)/\left'=eA (eA left)/\d'={d with lines:=d.lines+1})∨
 (∃ks za zc,ks.Perm (d.3.map (·.1))/\(ok,fs',left')=iE fs left ((d.jb ks za zc++[m]).flatMap fE)/\d'={d with lines:=(d.recs.length:Int)+2*(d.3.length:Int)+1,wh:=true})
def mB.same{d:SD}{fs:List FD}{left:Int}{m:dN}{ok:Bool}{fs':List FD}{left':Int}{d':SD}(h:mB d fs left m ok fs' left' d'):d'.id=d.id/\d'.recs=d.recs/\d'.3=d.3:=by rcases h with⟨_,_,_,_,rfl⟩|⟨_,_,_,_,_,rfl⟩<;>exact⟨rfl,rfl,rfl⟩
def gB.mono{w:World}{low D H S:Nat}{a:Value}{fs:List FD}{left:Int}{L L':Nat}(h:gB w low D H S a fs left L)(b:L<=L'):gB w low D H S a fs left L':=⟨h.hands,h.ds,h.dS,h.hS,h.lf,Nat.le_trans h.fl b,λf c=>Nat.le_trans (h.bd f c) b⟩
def KI(hSO:fB)(hBW:fH)(hBS:fI)(low St:Nat)(d:SD)(vr:Value)(Mp D H S:Nat)(u:Value)(fs:List FD)(left:Int)(L:Nat)(k f e b wa p s q bl v:Int)(a:Option Addr)(n:List Int)(c:Nat)(w:World)(h:eI w low St d vr Mp D)(U:gB w low D H S u fs left L)(R:dY w)(W:fK w a n)(o:2<=w.1.size)(j:low<=w.1.size)(V:L<=24000000000)(m:d.recs.length<=26000000)(x:d.3.length<=26000000)(t:0<=d.lines/\d.lines<=100000000)(l:2<=St)(y:∀X,a=Y X->X.block≠St)(A:0<d.recs.length)(Q:∀r∈d.recs,0<=r.E/\r.E<=10000000000000):Calls pG 236 #[P0 (Y ⟨St,0,Z⟩),.agg (mA k f e b wa p s q bl v (J a n.length c))] w λr w'=>∃ok fs' left' d' i,r=.returned (.bool ok)/\mB d fs left (⟨k,f,e,b,wa,p,s,q,bl,v,a,c,n⟩:dN) ok fs' left' d'/\eI w' low St d' vr Mp D/\gB w' low D H S i fs' left' (Nat.max (L+301) (301*(d.recs.length+2*d.3.length+1)))/\(∀g,i.ownBlock=Y g->u.ownBlock=Y g∨w.1.size<=g)/\dQ (λg=>g=St∨g=S∨u.ownBlock=Y g) w w':=by
 by_cases z:d.wh=true/\d.lines<64+2*((d.recs.length:Int)+2*(d.3.length:Int));·refine(JN low St d vr Mp D H S u fs left L k f e b wa p s q bl v a n c w h U R W o j V m x t l y z.1 z.2).mono ?_;rintro r w' ⟨rfl,i,M,B,O,K⟩;exact⟨_,_,_,_,i,rfl,.inl ⟨z.1,rfl,rfl,rfl,rfl⟩,M,B.mono (Nat.le_max_left _ _),O,K⟩
 ·refine(KH hSO hBW hBS low St d vr Mp D H S u fs left L k f e b wa p s q bl v a n c w h U R W o j V m x t l y A Q ?_).mono ?_
  ·cases hw:d.wh;·exact .inl rfl
   ·exact .inr ⟨rfl,λh9=>z ⟨hw,h9⟩⟩
  rintro r w' ⟨ks,za,zc,N,F,C,rfl,i,M,B,O,K⟩;exact⟨F.1,F.2.1,F.2.2,_,i,rfl,.inr ⟨ks,za,zc,N,C,rfl⟩,M,B,O,K⟩
def MH(hSO:fB)(hBW:fH)(hBS:fI)(low St:Nat)(d:SD)(vr:Value)(Mp D H S:Nat)(x:Value)(fs:List FD)(left:Int)(L:Nat)(k f e b wa p s q bl v:Int)(a:Option Addr)(j:List Int)(c:Nat)(w:World)(h:eI w low St d vr Mp D)(hk:gB w low D H S x fs left L)(ht:dY w)(hz:fK w a j)(ak:2<=w.1.size)(aA:low<=w.1.size)(hL:L<=24000000000)(ab:d.recs.length<=26000000)(ay:d.3.length<=26000000)(am:0<=d.lines/\d.lines<=100000000)(a8:2<=St)(ai:∀z,a=Y z->z.block≠St)(aj:0<d.recs.length)(az:∀r∈d.recs,0<=r.E/\r.E<=10000000000000)(aq:0<=d.id/\d.id<5)(he:e_ e)(a5:iI k bl j.length)(ag:∀z,a=Y z->¬kW St vr Mp S x z.block):Calls pG 191 #[P0 (Y ⟨St,0,Z⟩),.agg (mA k f e b wa p s q bl v (J a j.length c))] w λr w'=>∃ok fs' left' d' af ae,r=.returned (.bool ok)/\mB d fs left (⟨k,f,e,b,wa,p,s,q,bl,v,a,c,j⟩:dN) ok fs' left' d'/\eI w' low St (bif ok then d'.step k e b p s q bl v j else d') af Mp D/\gB w' low D H S ae fs' left' (Nat.max (L+301) (301*(d.recs.length+2*d.3.length+1)))/\(∀g,ae.ownBlock=Y g->x.ownBlock=Y g∨w.1.size<=g)/\(∀g,af.ownBlock=Y g->vr.ownBlock=Y g∨w.1.size<=g)/\dQ (kW St vr Mp S x) w w':=by
 have F:=(Below.refl w.1.size w).alloc r_ (G (mA k f e b wa p s q bl v (J a j.length c)) 136);have t:Hid (dI (w.alloc (G (mA k f e b wa p s q bl v (J a j.length c)) 136)) w.1.size (mA k f e b wa p s q bl v (J a j.length c)) 136):=dI.new _ _ _;have HB:Hid (Bw w (w.alloc (G (mA k f e b wa p s q bl v (J a j.length c)) 136))):=F;have HT:Hid (dY (w.alloc (G (mA k f e b wa p s q bl v (J a j.length c)) 136))):=ht.below F ak;have HZ:Hid (fK (w.alloc (G (mA k f e b wa p s q bl v (J a j.length c)) 136)) a j):=hz.later F;have an:Hid (fK w a j):=hz;have a9:Hid (eI w low St d vr Mp D):=h;have ah:Hid (gB w low D H S x fs left L):=hk;have aw:Hid (∀z,a=Y z->¬kW St vr Mp S x z.block):=ag;clear ht hz F h hk ag;go_enter func191,ntmps191;go_upto_region 1 with fail;generalize (w.alloc (G (mA k f e b wa p s q bl v (J a j.length c)) 136))=W0 at*;have aC:=HB.size;have m0:=t.cell 0;have m1:=t.cell 1;have m2:=t.cell 2;have m3:=t.cell 3;have m4:=t.cell 4;have m5:=t.cell 5;have m6:=t.cell 6;have m7:=t.cell 7;have m8:=t.cell 8;have m9:=t.cell 9;have gF:=t.cell 10;simp at m0 m1 m2 m3 m4 m5 m6 m7 m8 m9 gF;go_wp2_with fail;refine(KI hSO hBW hBS low St d vr Mp D H S x fs left L k f e b wa p s q bl v a j c W0 (a9.later HB) (ah.later HB) HT HZ oG oG hL ab ay am a8 ai aj az).mono ?_;rintro r w1 ⟨ok,O,n,X,M,hr,a1,Q,N,U,C⟩;subst hr;have a2:=dF a1;obtain⟨e1,e2,e3⟩:=a1.same;have a6:0<=X.id/\X.id<5:=by rw[e1];exact aq
 have ac:X.recs.length<=26000000:=by rw[e2];exact ab
 clear a1 e1 e2 e3;have B:Hid (eI w1 low St X vr Mp D):=Q;have a0:Hid (gB w1 low D H S M O n (Nat.max (L+301) (301*(d.recs.length+2*d.3.length+1)))):=N;have aa:Hid (∀g,M.ownBlock=Y g->x.ownBlock=Y g∨w.1.size<=g):=λg V=>(U g V).imp id (λh9=>oG);have ap:Hid (dQ (λg=>g=St∨g=S∨x.ownBlock=Y g) W0 w1):=C;have l:Hid (dQ (λg=>g=St∨g=S∨x.ownBlock=Y g) w w1):=(dQ.of_below (A:=λ_=>False) HB).trans C (λ_ o=>o.elim) (λ_ _ o=>o);have aD:=l.size;have a4:low<=w1.1.size:=oG;have y:∀g,(g=St∨g=S∨x.ownBlock=Y g)->kW St vr Mp S x g:=λg o=>o.elim .inl (λR=>.inr (.inr (.inr R)));have i:Hid (dI w1 w.1.size (mA k f e b wa p s q bl v (J a j.length c)) 136):=t.same (ap.block _ t.lt (λo=>rR (a9.later HB) (ah.later HB) t dG dG dG dG (y _ o)));have ax:Hid (fK w1 a j):=an.keptI l (λz ar o=>aw.out z ar (y _ o));cases ok;·clear Q N U C m0 m1 m2 m3 m4 m5 m6 m7 m8 m9 gF;go_wp2;go_ret;exact⟨false,O,n,X,vr,M,rfl,a2,B,a0,aa,λg V=>.inl V,l.wide y⟩
 ·skip;clear Q N U C m0 m1 m2 m3 m4 m5 m6 m7 m8 m9 gF;have m0:=i.cell 0;have m1:=i.cell 1;have m2:=i.cell 2;have m3:=i.cell 3;have m4:=i.cell 4;have m5:=i.cell 5;have m6:=i.cell 6;have m7:=i.cell 7;have m8:=i.cell 8;have m9:=i.cell 9;have gF:=i.cell 10;simp at m0 m1 m2 m3 m4 m5 m6 m7 m8 m9 gF;go_upto_region 3 with fail;refine wp_region_held_drew (S:=(λw'=>w'.cell? ⟨w.1.size,0,Z⟩=Y (I k)/\w'.cell? ⟨w.1.size,1,Z⟩=Y (I f)/\w'.cell? ⟨w.1.size,2,Z⟩=Y (I e)/\w'.cell? ⟨w.1.size,3,Z⟩=Y (I b)/\w'.cell? ⟨w.1.size,4,Z⟩=Y (I wa)/\w'.cell? ⟨w.1.size,5,Z⟩=Y (I p)/\w'.cell? ⟨w.1.size,6,Z⟩=Y (I s)/\w'.cell? ⟨w.1.size,7,Z⟩=Y (I q)/\w'.cell? ⟨w.1.size,8,Z⟩=Y (I bl)/\w'.cell? ⟨w.1.size,9,Z⟩=Y (I v)/\w'.cell? ⟨w.1.size,10,Z⟩=Y (J a j.length c))) kG (by(try dsimp only);(first|(and_intros<;>with_reducible assumption)|(and_intros<;>assumption)|go_keep)) (λao=>?_);refine tk 0 ?_;refine tk 1 ?_;refine tk 2 ?_;refine tk 3 ?_;refine dT 4 λK hK=>?_;(try go_simp);go_at_call 220;refine(BU low St X vr Mp D k f e b wa p s q bl v a j c w1.drew B.drew ax.qo ai a6 (by exact a4) ac he a5).mono ?_;rintro r w2 ⟨rfl,W,a7,u,a3⟩;have av:Hid (eI w2 low St _ W Mp D):=a7;have m:Hid (dQ (λg=>g=St∨g=Mp∨vr.ownBlock=Y g) w1 w2):=⟨u.os,u.tape,u.output,u.size,u.block⟩;have al:Hid (∀g,W.ownBlock=Y g->vr.ownBlock=Y g∨w1.1.size<=g):=a3;have au:Hid (dI w2 w.1.size _ 136):=i.same (m.block _ i.lt (λo=>rR B a0 i dG dG dG dG (o.elim .inl (λR=>.inr (R.elim .inl (λh7=>.inr (.inl h7)))))));clear a7 u a3;have aB:=au.cell;refine kd hK ?_;go_wp2;go_ret;refine⟨true,O,n,X,W,M,rfl,a2,av,gB.store B a0 m,aa,?_,?_⟩;·intro g V;exact(al.out g V).imp id (λh9=>oG)
  ·refine⟨m.os.trans l.os,m.tape.trans l.tape,m.output.trans l.output,by have:=m.size;omega,λg V hA=>?_⟩;exact(m.block g oG (λo=>hA (o.elim .inl (λR=>.inr (R.elim .inl (λh7=>.inr (.inl h7))))))).trans (l.block g V (λo=>hA (o.elim .inl (λR=>.inr (.inr (.inr R))))))
structure iO where
 k:Int
 f:Int
 e:Int
 b:Int
 wa:Int
 p:Int
 s:Int
 q:Int
 bl:Int
 v:Int
def iO.nil:iO:=⟨0,0,0,0,0,0,0,0,0,0⟩
structure NB where
 id:Int
 nodes:Int
 nb:Int
 St:Nat
 down:Bool
 act:Bool
 ph:Int
 gE:Int
 gP:Int
 gS:Int
 jo:Int
 ba:Int
 rf:Int
 fo:iO
 an:Option Nat
 on:Int
 ow:iO
 oa:Option Nat
 ops:Int
 res:Value
@[reducible] def NB.arr(x:NB):Array Value:=#[I x.id,I x.2,I x.nb,P0 (Y ⟨x.St,0,Z⟩),bool x.5,bool x.act,I x.ph,I x.gE,I x.gP,I x.gS,I x.jo,I x.ba,I x.rf,I x.fo.k,I x.fo.f,I x.fo.e,I x.fo.b,I x.fo.wa,I x.fo.p,I x.fo.s,I x.fo.q,I x.fo.bl,I x.fo.v,J Z 0 0,Value.map x.an,I x.on,I x.ow.k,I x.ow.f,I x.ow.e,I x.ow.b,I x.ow.wa,I x.ow.p,I x.ow.s,I x.ow.q,I x.ow.bl,I x.ow.v,J Z 0 0,Value.map x.oa,I x.ops,x.res]
def NB.stand(x:NB):NB:={x with act:=false,ph:=0,gE:=0,gP:=0,gS:=0,jo:=0,ba:=0,rf:=0,fo:=.nil,an:=none,on:=0,ow:=.nil,oa:=none}
def lW{P:Program}{w:World}{t:TypeId}{B i:Nat}{cs vs:Array Value}{ty:TypeId}(c:dI w B cs ty)(d:(P.info? t).map (·.size)=Y vs.size)(b:i+vs.size<=cs.size)(g:∀v∈vs.toList,v.oneCell'=true)(ds:Array Value)(e:cs.toList.take i++vs.toList++cs.toList.drop (i+vs.size)=ds.toList):(Instr.storeAt t (P0 (Y ⟨B,i,Z⟩)) (.agg vs)).run P w=.ok () (w.setRow B ds):=by
 have a:=run_storeCells_at P B i ty vs.toList 0 cs w c.blk (by simpa using b) g;simp only[Nat.add_zero,Array.length_toList]at a;rw[e,Array.toArray_toList]at a;cases hq:P.info? t with
 |none=>simp[hq]at d
 |some j=>
  have f:j.size=vs.size:=by simpa[hq] using d
  simp[Instr.storeAt,Instr.sureAddr,storeVar,sizeOf,typeInfo,hq,f,Value.cells,a]
def dI.row{w:World}{B:Nat}{cs ds:Array Value}{ty:TypeId}(h:dI w B cs ty):dI (w.setRow B ds) B ds ty:=by refine⟨?_⟩;have a:=h.blk;have b:=h.lt;simp[World.setRow,Array.getElem?_modify,a]
def rB{P:Program}{w w':World}{ops:Array Oper}{rest:List Oper}{o:Oper}{a:Act}{Q:Exit->Act->World->Prop}(e:o.guard=none)(t:TypeId)(x y:Operand)(c:o.op=Op.store t x y)(d vs:Value)(f:a.eval x=d)(hy:a.eval y=vs)(b:(Instr.storeAt t d vs).run P w=.ok () w')(h:wpList P ops Q rest (a.put o.dst (.tuple #[])) w'):wpList P ops Q (o::rest) a w:=by refine wpList_plain e λK g=>?_;unfold Oper.wp;simp[execOp,c,f,hy,b,Result.andThen];exact g _ _ h
def wT(Nd:Nat)(x:NB)(w:World)(h:dI w Nd x.arr 192):Calls pG 192 #[P0 (Y ⟨Nd,0,Z⟩)] w λr w'=>r=.returned (.tuple #[])/\dI w' Nd x.stand.arr 192/\dM Nd w w':=by
 have y:=h.cell 5;have B:=h.free 5;simp at y;have l:Hid (dM Nd w (w.setCell ⟨Nd,5,Z⟩ (bool false))):=dM.setCell w ⟨Nd,5,Z⟩ (bool false);have g:Hid (dI (w.setCell ⟨Nd,5,Z⟩ (bool false)) Nd (#[I x.id,I x.2,I x.nb,P0 (Y ⟨x.St,0,Z⟩),bool x.5,bool false,I x.ph,I x.gE,I x.gP,I x.gS,I x.jo,I x.ba,I x.rf,I x.fo.k,I x.fo.f,I x.fo.e,I x.fo.b,I x.fo.wa,I x.fo.p,I x.fo.s,I x.fo.q,I x.fo.bl,I x.fo.v,J Z 0 0,Value.map x.an,I x.on,I x.ow.k,I x.ow.f,I x.ow.e,I x.ow.b,I x.ow.wa,I x.ow.p,I x.ow.s,I x.ow.q,I x.ow.bl,I x.ow.v,J Z 0 0,Value.map x.oa,I x.ops,x.res]) 192):=by have A:=h.set 5 (bool false);unfold Hid;simpa using A
 have o:=lW (P:=pG) (t:=188) (i:=6) (vs:=#[I 0,I 0,I 0,I 0,I 0,I 0,I 0,I 0,I 0,I 0,I 0,I 0,I 0,I 0,I 0,I 0,I 0,J Z 0 0,Value.map none]) g tO sG (by intro u c;simp at c;rcases c with rfl|rfl|rfl<;>rfl) #[I x.id,I x.2,I x.nb,P0 (Y ⟨x.St,0,Z⟩),bool x.5,bool false,I 0,I 0,I 0,I 0,I 0,I 0,I 0,I 0,I 0,I 0,I 0,I 0,I 0,I 0,I 0,I 0,I 0,J Z 0 0,Value.map none,I x.on,I x.ow.k,I x.ow.f,I x.ow.e,I x.ow.b,I x.ow.wa,I x.ow.p,I x.ow.s,I x.ow.q,I x.ow.bl,I x.ow.v,J Z 0 0,Value.map x.oa,I x.ops,x.res] sG;have d:=dF (g.row (ds:=#[I x.id,I x.2,I x.nb,P0 (Y ⟨x.St,0,Z⟩),bool x.5,bool false,I 0,I 0,I 0,I 0,I 0,I 0,I 0,I 0,I 0,I 0,I 0,I 0,I 0,I 0,I 0,I 0,I 0,J Z 0 0,Value.map none,I x.on,I x.ow.k,I x.ow.f,I x.ow.e,I x.ow.b,I x.ow.wa,I x.ow.p,I x.ow.s,I x.ow.q,I x.ow.bl,I x.ow.v,J Z 0 0,Value.map x.oa,I x.ops,x.res]));have j:=dF (lP (w.setCell ⟨Nd,5,Z⟩ (bool false)) Nd #[I x.id,I x.2,I x.nb,P0 (Y ⟨x.St,0,Z⟩),bool x.5,bool false,I 0,I 0,I 0,I 0,I 0,I 0,I 0,I 0,I 0,I 0,I 0,I 0,I 0,I 0,I 0,I 0,I 0,J Z 0 0,Value.map none,I x.on,I x.ow.k,I x.ow.f,I x.ow.e,I x.ow.b,I x.ow.wa,I x.ow.p,I x.ow.s,I x.ow.q,I x.ow.bl,I x.ow.v,J Z 0 0,Value.map x.oa,I x.ops,x.res]);generalize z:(w.setCell ⟨Nd,5,Z⟩ (bool false)).setRow Nd #[I x.id,I x.2,I x.nb,P0 (Y ⟨x.St,0,Z⟩),bool x.5,bool false,I 0,I 0,I 0,I 0,I 0,I 0,I 0,I 0,I 0,I 0,I 0,I 0,I 0,I 0,I 0,I 0,I 0,J Z 0 0,Value.map none,I x.on,I x.ow.k,I x.ow.f,I x.ow.e,I x.ow.b,I x.ow.wa,I x.ow.p,I x.ow.s,I x.ow.q,I x.ow.bl,I x.ow.v,J Z 0 0,Value.map x.oa,I x.ops,x.res]=W1 at*;have m:=lW (P:=pG) (t:=190) (i:=25) (vs:=#[I 0,I 0,I 0,I 0,I 0,I 0,I 0,I 0,I 0,I 0,I 0,J Z 0 0,Value.map none]) d QY sG (by intro u c;simp at c;rcases c with rfl|rfl|rfl<;>rfl) #[I x.id,I x.2,I x.nb,P0 (Y ⟨x.St,0,Z⟩),bool x.5,bool false,I 0,I 0,I 0,I 0,I 0,I 0,I 0,I 0,I 0,I 0,I 0,I 0,I 0,I 0,I 0,I 0,I 0,J Z 0 0,Value.map none,I 0,I 0,I 0,I 0,I 0,I 0,I 0,I 0,I 0,I 0,I 0,J Z 0 0,Value.map none,I x.ops,x.res] sG;have n:=dF (d.row (ds:=#[I x.id,I x.2,I x.nb,P0 (Y ⟨x.St,0,Z⟩),bool x.5,bool false,I 0,I 0,I 0,I 0,I 0,I 0,I 0,I 0,I 0,I 0,I 0,I 0,I 0,I 0,I 0,I 0,I 0,J Z 0 0,Value.map none,I 0,I 0,I 0,I 0,I 0,I 0,I 0,I 0,I 0,I 0,I 0,J Z 0 0,Value.map none,I x.ops,x.res]));have a:=dF (lP W1 Nd #[I x.id,I x.2,I x.nb,P0 (Y ⟨x.St,0,Z⟩),bool x.5,bool false,I 0,I 0,I 0,I 0,I 0,I 0,I 0,I 0,I 0,I 0,I 0,I 0,I 0,I 0,I 0,I 0,I 0,J Z 0 0,Value.map none,I 0,I 0,I 0,I 0,I 0,I 0,I 0,I 0,I 0,I 0,I 0,J Z 0 0,Value.map none,I x.ops,x.res]);clear h z;go_enter func192,ntmps192;go_wp2_with(first|(refine rB rfl 188 _ _ rfl _ _ rfl rfl o ?_)|(refine rB rfl 190 _ _ rfl _ _ rfl rfl m ?_));exact bodyPost_end (v:=.tuple #[]) (by simp[results,results192,go_sem]) rfl ⟨rfl,n,(l.trans j).trans a⟩
def eI.butG{w w':World}{low St:Nat}{d:SD}{vr:Value}{Mp D B:Nat}{cs:Array Value}{ty:TypeId}(h:eI w low St d vr Mp D)(b:dI w B cs ty)(e:ty≠200)(c:ty≠66)(a:dM B w w'):eI w' low St d vr Mp D:=⟨h.blk.same (a.block St (h.blk.ne b (Ne.symm e))),dW h.ji (λg i=>a.block g (λf=>kK h.ji b.blk c (by rw[←f];exact i))),h.jg.same (a.block Mp (h.jg.ne b))⟩
def gB.drewG{w:World}{low D H S:Nat}{a:Value}{fs:List FD}{left:Int}{L:Nat}(h:gB w low D H S a fs left L):gB w.drew low D H S a fs left L:=⟨h.hands.drewH,h.ds.drewD,h.dS,h.hS,h.lf,h.fl,h.bd⟩
def NB.after(x:NB)(ok:Bool):NB:=bif ok then x else{x.stand with down:=true}
def KJ(hSO:fB)(hBW:fH)(hBS:fI)(Nd:Nat)(x:NB)(low:Nat)(d:SD)(vr:Value)(Mp D H S:Nat)(u:Value)(fs:List FD)(left:Int)(L:Nat)(k f e b wa p s q bl v:Int)(a:Option Addr)(t:List Int)(c:Nat)(w:World)(h:eI w low x.St d vr Mp D)(hk:gB w low D H S u fs left L)(ht:dY w)(hz:fK w a t)(ak:2<=w.1.size)(ay:low<=w.1.size)(hL:L<=24000000000)(ap:d.recs.length<=26000000)(av:d.3.length<=26000000)(al:0<=d.lines/\d.lines<=100000000)(a4:2<=x.St)(aw:∀X,a=Y X->X.block≠x.St)(aj:0<d.recs.length)(ax:∀r∈d.recs,0<=r.E/\r.E<=10000000000000)(ao:0<=d.id/\d.id<5)(he:e_ e)(a1:iI k bl t.length)(ar:∀X,a=Y X->¬kW x.St vr Mp S u X.block)(hn:dI w Nd x.arr 192)(aa:x.5=false):Calls pG 139 #[P0 (Y ⟨Nd,0,Z⟩),.agg (mA k f e b wa p s q bl v (J a t.length c))] w λr w'=>∃ok fs' left' d' ac ab,r=.returned (.bool ok)/\mB d fs left (⟨k,f,e,b,wa,p,s,q,bl,v,a,c,t⟩:dN) ok fs' left' d'/\dI w' Nd (x.after ok).arr 192/\eI w' low x.St (bif ok then d'.step k e b p s q bl v t else d') ac Mp D/\gB w' low D H S ab fs' left' (Nat.max (L+301) (301*(d.recs.length+2*d.3.length+1)))/\(∀g,ab.ownBlock=Y g->u.ownBlock=Y g∨w.1.size<=g)/\(∀g,ac.ownBlock=Y g->vr.ownBlock=Y g∨w.1.size<=g)/\dQ (λg=>g=Nd∨kW x.St vr Mp S u g) w w':=by
 have l:=(Below.refl w.1.size w).alloc r_ (G (mA k f e b wa p s q bl v (J a t.length c)) 136);have HM:=dF (dI.new w (mA k f e b wa p s q bl v (J a t.length c)) 136);have HB:=dF l;have HT:=dF (ht.below l ak);have HZ:=dF (hz.later l);have O:=dF (h.later l);have F:=dF (hk.later l);have HN:=dF (hn.later l);have an:=dF aa;clear ht hz l h hk hn aa;go_enter func139,ntmps139;go_upto_region 1 with fail;generalize (w.alloc (G (mA k f e b wa p s q bl v (J a t.length c)) 136))=W0 at*;have a9:=HB.size;have W:2<=W0.1.size:=oG;have ag:low<=W0.1.size:=oG;obtain⟨m0,m1,m2,m3,m4,m5,m6,m7,m8,m9,gF⟩:=HM.c11;have n3:=HN.cell 3;simp at n3;refine wp_region_held_drew (S:=(λw'=>w'.cell? ⟨Nd,3,Z⟩=Y (P0 (Y ⟨x.St,0,Z⟩))/\w'.cell? ⟨w.1.size,0,Z⟩=Y (I k)/\w'.cell? ⟨w.1.size,1,Z⟩=Y (I f)/\w'.cell? ⟨w.1.size,2,Z⟩=Y (I e)/\w'.cell? ⟨w.1.size,3,Z⟩=Y (I b)/\w'.cell? ⟨w.1.size,4,Z⟩=Y (I wa)/\w'.cell? ⟨w.1.size,5,Z⟩=Y (I p)/\w'.cell? ⟨w.1.size,6,Z⟩=Y (I s)/\w'.cell? ⟨w.1.size,7,Z⟩=Y (I q)/\w'.cell? ⟨w.1.size,8,Z⟩=Y (I bl)/\w'.cell? ⟨w.1.size,9,Z⟩=Y (I v)/\w'.cell? ⟨w.1.size,10,Z⟩=Y (J a t.length c))) kG ⟨n3,m0,m1,m2,m3,m4,m5,m6,m7,m8,m9,gF⟩ (λ_=>?_);refine tk 0 ?_;refine tk 1 ?_;refine tk 2 ?_;refine tk 3 ?_;refine tk 4 ?_;refine dT 5 λK y=>?_;(try go_simp);go_at_call 191;refine(MH hSO hBW hBS low x.St d vr Mp D H S u fs left L k f e b wa p s q bl v a t c W0.drew O.drew F.drewG HT.qj HZ.qo (by exact W) (by exact ag) hL ap av al a4 aw aj ax ao he a1 ar).mono ?_;rintro r w1 ⟨ok,a2,o,d1,B,Q,hr,ai,a3,a0,a8,a5,n⟩;subst hr;have R:=dF ai;have C:Hid (dQ (kW x.St vr Mp S u) W0 w1):=⟨n.os,n.tape,n.output,n.size,n.block⟩;have V:=dF a3;have ah:=dF a0;have au:=dF (HM.same (C.block _ HM.lt (rR O F HM dG dG dG dG)));have i:=dF (HN.same (C.block _ HN.lt (rR O F HN dG dG dG dG)));have a7:Hid (∀g,Q.ownBlock=Y g->u.ownBlock=Y g∨w.1.size<=g):=λg M=>(a8 g M).imp id (λh9=>Nat.le_trans a9 h9);have af:Hid (∀g,B.ownBlock=Y g->vr.ownBlock=Y g∨w.1.size<=g):=λg M=>(a5 g M).imp id (λh9=>Nat.le_trans a9 h9);have m:Hid (dQ (kW x.St vr Mp S u) w w1):=(dQ.of_below (A:=λ_=>False) HB).trans C (λ_ N=>N.elim) (λ_ _ N=>N);clear a3 a0 a8 a5 n ai;obtain⟨y0,y1,y2,y3,y4,y5,y6,y7,y8,y9,z⟩:=au.c11;have q3:=i.cell 3;have q4:=i.cell 4;simp at q3 q4;rw[an.out]at q4;refine k1 y (λ_=>?_) ⟨q3,y0,y1,y2,y3,y4,y5,y6,y7,y8,y9,z⟩;clear y K n3 m0 m1 m2 m3 m4 m5 m6 m7 m8 m9 gF;cases ok
 ·refine dT 6 λK y=>?_;(try go_simp);refine k1 y (λ_=>?_) ⟨q3,y0,y1,y2,y3,y4,y5,y6,y7,y8,y9,z⟩;clear y K;refine dn ?_;have aA:=i.free 4;have az:=i.lt;have am:Hid (dM Nd w1 (w1.setCell ⟨Nd,4,Z⟩ (bool true))):=dM.setCell w1 ⟨Nd,4,Z⟩ (bool true);have aq:Hid (dI (w1.setCell ⟨Nd,4,Z⟩ (bool true)) Nd ({x with down:=true}:NB).arr 192):=by have h9:=i.set 4 (bool true);unfold Hid;simpa using h9
  go_upto_region 3 with fail;generalize w1.setCell ⟨Nd,4,Z⟩ (bool true)=W4 at*;go_wp2_with fail;refine(wT Nd {x with down:=true} W4 aq).mono ?_;rintro r w5 ⟨rfl,U,ae⟩;have a6:=dF U;have j:=dF (am.trans ae);have r4:=a6.cell 4;simp[NB.stand]at r4;clear U ae;go_wp2;go_ret;refine⟨false,a2,o,d1,B,Q,rfl,R,a6,V.butG i dG dG j,ah.but i dG dG dG dG j,a7,af,?_⟩;exact⟨j.os.trans m.os,j.tape.trans m.tape,j.output.trans m.output,by rw[j.size];exact m.size,λg M hA=>(j.block g (λN=>hA (.inl N))).trans (m.block g M (λN=>hA (.inr N)))⟩
 ·refine dT 6 λK y=>?_;(try go_simp);refine k1 y (λ_=>?_) ⟨q3,y0,y1,y2,y3,y4,y5,y6,y7,y8,y9,z⟩;clear y K;refine dn ?_;go_wp2;go_ret;exact⟨true,a2,o,d1,B,Q,rfl,R,i,V,ah,a7,af,m.wide (λg M=>.inr M)⟩
end Go.Proofs.YtdcainmlcpafbaaGreatDoor
