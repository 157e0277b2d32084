import Derived.Test.YtdcainmlcpafbaaGreatDoorJ12
set_option linter.all false
set_option maxHeartbeats 8000000
set_option maxRecDepth 20000
namespace Go.Proofs.YtdcainmlcpafbaaGreatDoor
open Go.RowKit
open Value renaming slice->J,pointer->P0
open Tryz
open Tryz renaming prog->pG
open IntKind renaming i64->T
open Option renaming none->Z,some->Y
open Obj renaming cells->G
open Value (bool)
def CW(hSO:fB)(hBW:fH)(hBS:fI)(P:Pl)(x:NB)(d:SD)(fs:List FD)(left:Int)(t:Nat)(A:Nat->Prop)(k f e b wa p s q bl v:Int)(a:Option Addr)(W:List Int)(c:Nat)(w:World)(h:gI w P x d fs left (eB t) A)(hB:BG t d)(ht:t<=20000000)(hz:fK w a W)(aW:∀ad,a=Y ad->¬A ad.block)(ax:e_ e)(b2:k=1∨k=3)(aV:x.5=false):Calls pG 196 #[P0 (Y ⟨P.Nd,0,Z⟩),.agg (mA k f e b wa p s q bl v (J a W.length c))] w λr w'=>qU (jA d k e b p s) P x x.after d fs left t A (⟨k,f,e,b,wa,p,s,q,bl,v,a,c,W⟩:dN) (λok=>(bif ok then eP d k e b else .nil).ag) r w w':=by
 obtain⟨vr,va,h1,h2,h3⟩:=h.ex;have aH:=hB.ne;have bp:=hB.recs;by_cases a0:e<d.ep
 ·obtain⟨E,rfl⟩:=Int.eq_ofNat_of_zero_le ax.1;refine(KL P.low P.Nd d vr P.Mp P.D x k f b wa p s q bl v a W c w ⟨h.blk⟩ h1 aH oG E (by unfold SD.ep at a0;omega)).mono ?_;rintro r w' ⟨rfl,hb⟩;refine⟨true,?_,.inl ⟨?_,rfl,h.later hb,.of_below hb⟩⟩;·simp only[eP,if_pos a0,cond_true,iO.ag,SD.qi,show((E:Int)+1).toNat=E+1 by omega]
  ·simp[jA,a0]
 have he:(d.recs.length:Int) - 1<=e:=by unfold SD.ep at a0;omega
 have ah:Hid (eP d k e b=if b<(dJ d.3 e).pr then⟨5,0,e,b,(dJ d.3 e).pr,0,0,0,0,0⟩ else if k=3 then⟨4,0,e,b,0,0,0,0,0,0⟩ else⟨2,0,e,b,(dJ d.3 e).ac,(dJ d.3 e).pm,(dJ d.3 e).st,0,0,0⟩):=by unfold Hid;simp only[eP,if_neg a0]
 have av:Hid (jA d k e b p s=(!decide (b<(dJ d.3 e).pr)&&!(((dJ d.3 e).after k b p s).nk (dJ d.3 e)))):=by unfold Hid;simp[jA,a0]
 generalize eP d k e b=ua at*;generalize jA d k e b p s=un at*;clear a0;have bq:decide (e<(d.recs.length:Int) - 1)=false:=nG;have au:iI k bl W.length:=b2.elim .inl (λh9=>.inr (.inl h9));have aZ:=dF hz;have bk:=h.tabs.two;have ao:=((Below.refl w.1.size w).alloc r_ (G (mA k f e b wa p s q bl v (J a W.length c)) 136)).alloc sG (G mz 136);have HM:Hid (dI ((w.alloc (G (mA k f e b wa p s q bl v (J a W.length c)) 136)).alloc (G mz 136)) w.1.size (mA k f e b wa p s q bl v (J a W.length c)) 136):=(dI.new _ _ _).old _;have HR:Hid (dI ((w.alloc (G (mA k f e b wa p s q bl v (J a W.length c)) 136)).alloc (G mz 136)) (w.1.size+1) mz 136):=by have h9:=dI.new (w.alloc (G (mA k f e b wa p s q bl v (J a W.length c)) 136)) mz 136;unfold Hid;simpa using h9
 have HB:=dF ao;have HN:Hid (kX _ P.Nd x):=⟨h.blk.later ao⟩;have HS:=dF (h1.later ao);have HH:=dF h;have U:Hid (∀g,w.1.size<=g->¬A g):=λg hg=>h.fresh hg;have aP:=dF hB;have aJ:=dF aV;clear ao h h1 h2 h3 hz hB aV;go_enter func196,ntmps196;go_upto_region 1 with fail;generalize World.alloc _ _=W0 at*;have c3:=HN.blk.cell 3;simp at c3;have b4:=HM.cell;have b3:=HN.blk.lt;have b6:=HM.lt;have b7:=HR.lt;have aM:=HB.size;go_quiet (first|(go_at_call 179;exact Calls.quiet_of_same (oX P.low x.St d vr P.Mp P.D _ (HS.later (below_drewN b_ _)) aH oG)));have a5:Bw W0 (W0.drewN nq):=below_drewN b_ _;have ay:=dF (HR.later a5);have a8:=dF (HM.later a5);have a4:=dF (HN.later a5);have a9:=dF (HS.later a5);have aB:Hid (Bw w (W0.drewN nq)):=HB.trans (a5.mono aM);generalize W0.drewN nq=W1 at*;clear a5 c3 HR HM HN HS HB b3 b6 b7 aM b4;have b8:=aB.size;have be:=a9.blk.lt;have bi:=a4.blk.lt;have bh:=a8.lt;have bg:=ay.lt;have c3:=a4.blk.cell 3;simp at c3;have b9:=a8.cell;go_upto_region 3 with fail;go_cut [5] (λs5 wx=>∃X,s5=P0 (Y ⟨X,0,Z⟩)/\W1.1.size<=X/\dI wx X #[I (dJ d.3 e).pr,I (dJ d.3 e).ac,I (dJ d.3 e).pm,I (dJ d.3 e).st] 284/\Bw W1 wx);case first=>
  refine l9 (S:=(λw'=>w'.cell? ⟨P.Nd,3,Z⟩=Y (P0 (Y ⟨x.St,0,Z⟩))/\w'.cell? ⟨w.1.size,2,Z⟩=Y (I e))) λ_=>?_;refine tk 0 ?_;refine tk 1 ?_;refine tk 2 ?_;refine tk 3 ?_;refine tk 4 ?_;refine tk 5 ?_;refine tk 6 ?_;refine tk 7 ?_;refine jC [8,9] ?_;refine .cons rfl (λK o=>?_) ?_
  ·(try go_simp);go_at_call 186;refine(wQ P.low x.St d vr P.Mp P.D e W1.drew a9.drew).mono ?_;rintro r wq ⟨rfl,M⟩;have az:=dF (a4.drew.later M);have aE:=dF (a8.drew.later M);have z3:=az.blk.cell 3;simp at z3;have y2:=aE.cell 2;simp at y2;unfold iN;refine k2 o λ_=>?_;clear o K;refine dT 9 λK o=>?_;go_simp;refine k2 o λ_=>?_;clear o K;refine dT 10 λK o=>?_;go_simp;refine k2 o λ_=>?_;clear o K;refine dn ?_;go_wp2_with fail;go_meet;refine⟨wq.1.size,rfl,?_,?_,?_⟩;·exact Nat.le_trans (by exact Nat.le_refl W1.1.size) M.size
   ·exact dI.new _ _ _
   ·exact((Below.refl W1.1.size W1).drew.trans M).alloc (by exact M.size) _
  refine .cons rfl (λK o=>?_) .nil;go_simp;refine k2 o λ_=>?_;clear o K;refine dT 8 λK o=>?_;(try go_simp);go_at_call 186;refine(wQ P.low x.St d vr P.Mp P.D e (W1.alloc (G #[I 0,I 0,I 0,I 0] 284)).drew (a9.later (a_ _ _)).drew).mono ?_;rintro r wq ⟨rfl,M⟩;have az:Hid (kX wq P.Nd x):=((a4.later (a_ _ _)).drew).later M;have aE:Hid (dI wq w.1.size _ 136):=((a8.old _).drew).later M;have a7:=((dI.new W1 #[I 0,I 0,I 0,I 0] 284).drew).later M;have br:=a7.cell;have ae:=a7.free 0;have ai:=a7.free 1;have ab:=a7.free 2;have aa:=a7.free 3;have z3:=az.blk.cell 3;simp at z3;have y2:=aE.cell 2;simp at y2;unfold iN;refine k2 o λ_=>?_;clear o K;refine dT 10 λK o=>?_;go_simp;refine k2 o λ_=>?_;clear o K;refine dn ?_;go_wp2_with fail;go_meet;refine⟨W1.1.size,rfl,Nat.le_refl _,?_,?_⟩;·have h9:=(((a7.set 0 (I (dJ d.3 e).pr)).set 1 (I (dJ d.3 e).ac)).set 2 (I (dJ d.3 e).pm)).set 3 (I (dJ d.3 e).st);simpa using h9
  ·have hq:Bw W1 wq:=(((Below.refl W1.1.size W1).alloc r_ _).drew).trans (M.mono (by show _<=(World.alloc _ _).1.size;simp));exact iH (iH (iH (iH hq r_ _ _) r_ _ _) r_ _ _) r_ _ _
 case rest=>
  obtain⟨X,rfl,hX,aT,C⟩:=hcut;have HX:=dF aT;have z:=dF (ay.later C);have a1:=dF (a8.later C);have aL:=dF (a4.later C);have aN:=dF (a9.later C);have V:Hid (Bw w wc):=aB.trans (C.mono b8);have bm:=C.size;clear aT C ay a8 a4 a9 aB c3 b9;generalize aR:(dJ d.3 e)=m at*;have bs:=dF aR.symm;clear aR;have x0:=HX.cell 0;have x1:=HX.cell 1;have x2:=HX.cell 2;have x3:=HX.cell 3;simp at x0 x1 x2 x3;obtain⟨m0,m1,m2,m3,m4,m5,m6,m7,m8,m9,gF⟩:=a1.c11;by_cases hb:b<m.pr
  ·have al:decide (b<m.pr)=true:=by simpa using hb
   obtain⟨rfl,rfl⟩:ua=⟨5,0,e,b,m.pr,0,0,0,0,0⟩/\un=false:=⟨by rw[ah.out,if_pos hb],by rw[av.out,al];rfl⟩;obtain⟨r0,r1,r2,r3,r4,r5,r6,r7,r8,r9,aA⟩:=z.c11;have ae:=z.free 0;have ai:=z.free 1;have ab:=z.free 2;have aa:=z.free 3;have ap:=z.free 4;have an:=z.free 5;have ar:=z.free 6;have aq:=z.free 7;have am:=z.free 8;have aj:=z.free 9;have a2:=z.free 10;have F:=dF (rQ (w.1.size+1) V (Nat.le_succ _) (I 5) (I 0) (I e) (I b) (I m.pr) (I 0) (I 0) (I 0) (I 0) (I 0) (J Z 0 0));have N:=dF (z.s11 (I 5) (I 0) (I e) (I b) (I m.pr) (I 0) (I 0) (I 0) (I 0) (I 0) (J Z 0 0));go_wp2;generalize World.setCell _ _ _=W9 at*;obtain⟨q0,q1,q2,q3,q4,q5,q6,q7,q8,q9,H⟩:=N.c11;exact bodyPost_ret (v:=.agg (mA 5 0 e b m.pr 0 0 0 0 0 (J Z 0 0))) (by simp[results,results196,go_sem,q0,q1,q2,q3,q4,q5,q6,q7,q8,q9,H]) rfl ⟨true,rfl,.inl ⟨rfl,rfl,HH.later F,.of_below F⟩⟩
  have al:decide (b<m.pr)=false:=by simpa using hb
  have R:=HX.lt;have n:=a1.lt;obtain⟨sm,a3⟩:∃y,(m.after k b p s).nk m=y:=⟨_,rfl⟩;cases sm;case true=>
   obtain rfl:un=false:=by rw[av.out,al,a3];rfl
   have aw:=dF (rI a3);clear a3;have aG:∀w',(binOp BinOp.neq 284 (Value.agg #[I m.pr,I m.ac,I m.pm,I m.st]) (Value.agg #[I m.pr,I m.ac,I m.pm,I m.st])).run pG w'=.ok (.bool false) w':=λw'=>by rw[DQ];simp
   obtain⟨W3,aD⟩:∃y,y=wc:=⟨_,rfl⟩;subst aD;go_upto_region 6 with fail;go_cut [51] (λs51 wx=>s51=.bool false/\Bw W3 wx);case first=>
    refine eZ (S:=(λw'=>w'.cell? ⟨X,0,Z⟩=Y (I m.pr)/\w'.cell? ⟨X,1,Z⟩=Y (I m.ac)/\w'.cell? ⟨X,2,Z⟩=Y (I m.pm)/\w'.cell? ⟨X,3,Z⟩=Y (I m.st)/\w'.cell? ⟨w.1.size,0,Z⟩=Y (I k)/\w'.cell? ⟨w.1.size,1,Z⟩=Y (I f)/\w'.cell? ⟨w.1.size,2,Z⟩=Y (I e)/\w'.cell? ⟨w.1.size,3,Z⟩=Y (I b)/\w'.cell? ⟨w.1.size,4,Z⟩=Y (I wa)/\w'.cell? ⟨w.1.size,5,Z⟩=Y (I p)/\w'.cell? ⟨w.1.size,6,Z⟩=Y (I s)/\w'.cell? ⟨w.1.size,7,Z⟩=Y (I q)/\w'.cell? ⟨w.1.size,8,Z⟩=Y (I bl)/\w'.cell? ⟨w.1.size,9,Z⟩=Y (I v)/\w'.cell? ⟨w.1.size,10,Z⟩=Y (J a W.length c))) λ_=>?_;refine tk 0 ?_;refine tk 1 ?_;refine tk 3 ?_;refine dT 2 λK o=>?_;(try go_simp);go_at_call 239;refine(wR m k f e b wa p s q bl v _ W3.drew).mono ?_;rintro r w4 ⟨rfl,l⟩;have aI:=l.size;rw[aw.out];have z0:=(l.cell (p:=⟨X,0,Z⟩) R).trans x0;have z1:=(l.cell (p:=⟨X,1,Z⟩) R).trans x1;have z2:=(l.cell (p:=⟨X,2,Z⟩) R).trans x2;have z3:=(l.cell (p:=⟨X,3,Z⟩) R).trans x3;have z4:=(l.cell (p:=⟨w.1.size,0,Z⟩) n).trans m0;have z5:=(l.cell (p:=⟨w.1.size,1,Z⟩) n).trans m1;have z6:=(l.cell (p:=⟨w.1.size,2,Z⟩) n).trans m2;have z7:=(l.cell (p:=⟨w.1.size,3,Z⟩) n).trans m3;have z8:=(l.cell (p:=⟨w.1.size,4,Z⟩) n).trans m4;have z9:=(l.cell (p:=⟨w.1.size,5,Z⟩) n).trans m5;have b0:=(l.cell (p:=⟨w.1.size,6,Z⟩) n).trans m6;have bc:=(l.cell (p:=⟨w.1.size,7,Z⟩) n).trans m7;have bb:=(l.cell (p:=⟨w.1.size,8,Z⟩) n).trans m8;have b1:=(l.cell (p:=⟨w.1.size,9,Z⟩) n).trans m9;have b5:=(l.cell (p:=⟨w.1.size,10,Z⟩) n).trans gF;refine kr o 4 λK o=>?_;(try go_simp);refine kr o 5 λK o=>?_;(try go_simp);refine k1 o λ_=>?_;clear o K;refine jC [6,7] ?_;refine .cons rfl (λK o=>?_) ?_;focus
     (try go_simp)
     refine kr o 7 λK o=>?_
    rotate_left;focus
     refine .cons rfl (λK o=>?_) .nil
     (try go_simp)
     refine kr o 6 λK o=>?_
    all_goals
     (try go_simp)
     refine kr o 8 λK o=>?_
     (try go_simp)
     refine kr o 9 λK o=>?_
     (try go_simp)
     refine kr o 10 λK o=>?_
     (try go_simp)
     refine kd o ?_
     go_wp2_with fail
     go_meet
     exact⟨rfl,(Below.refl W3.1.size W3).drew.trans l⟩
   case rest=>
   obtain⟨rfl,C⟩:=hcut;have O:=dF (HX.later C);have j:=dF (z.later C);have aF:=dF (a1.later C);have aQ:Hid (Bw w wc):=V.trans (C.mono V.size);clear C HX z a1 aL aN V aG x0 x1 x2 x3 m0 m1 m2 m3 m4 m5 m6 m7 m8 m9 gF;have x0:=O.cell 0;have x1:=O.cell 1;have x2:=O.cell 2;have x3:=O.cell 3;simp at x0 x1 x2 x3;obtain⟨m0,m1,m2,m3,m4,m5,m6,m7,m8,m9,gF⟩:=aF.c11;by_cases Q:k=3
   ·obtain rfl:ua=⟨4,0,e,b,0,0,0,0,0,0⟩:=by rw[ah.out,if_neg hb,if_pos Q]
    subst Q;obtain⟨r0,r1,r2,r3,r4,r5,r6,r7,r8,r9,aA⟩:=j.c11;have ae:=j.free 0;have ai:=j.free 1;have ab:=j.free 2;have aa:=j.free 3;have ap:=j.free 4;have an:=j.free 5;have ar:=j.free 6;have aq:=j.free 7;have am:=j.free 8;have aj:=j.free 9;have a2:=j.free 10;have F:=dF (rQ (w.1.size+1) aQ (Nat.le_succ _) (I 4) (I 0) (I e) (I b) (I 0) (I 0) (I 0) (I 0) (I 0) (I 0) (J Z 0 0));have N:=dF (j.s11 (I 4) (I 0) (I e) (I b) (I 0) (I 0) (I 0) (I 0) (I 0) (I 0) (J Z 0 0));go_wp2;generalize World.setCell _ _ _=W9 at*;obtain⟨q0,q1,q2,q3,q4,q5,q6,q7,q8,q9,H⟩:=N.c11;exact bodyPost_ret (v:=.agg (mA 4 0 e b 0 0 0 0 0 0 (J Z 0 0))) (by simp[results,results196,go_sem,q0,q1,q2,q3,q4,q5,q6,q7,q8,q9,H]) rfl ⟨true,rfl,.inl ⟨rfl,rfl,HH.later F,.of_below F⟩⟩
   have aU:decide (k=3)=false:=by simpa using Q
   obtain rfl:ua=⟨2,0,e,b,m.ac,m.pm,m.st,0,0,0⟩:=by rw[ah.out,if_neg hb,if_neg Q]
   obtain⟨r0,r1,r2,r3,r4,r5,r6,r7,r8,r9,aA⟩:=j.c11;have ae:=j.free 0;have ai:=j.free 1;have ab:=j.free 2;have aa:=j.free 3;have ap:=j.free 4;have an:=j.free 5;have ar:=j.free 6;have aq:=j.free 7;have am:=j.free 8;have aj:=j.free 9;have a2:=j.free 10;have F:=dF (rQ (w.1.size+1) aQ (Nat.le_succ _) (I 2) (I 0) (I e) (I b) (I m.ac) (I m.pm) (I m.st) (I 0) (I 0) (I 0) (J Z 0 0));have N:=dF (j.s11 (I 2) (I 0) (I e) (I b) (I m.ac) (I m.pm) (I m.st) (I 0) (I 0) (I 0) (J Z 0 0));go_wp2;generalize World.setCell _ _ _=W9 at*;obtain⟨q0,q1,q2,q3,q4,q5,q6,q7,q8,q9,H⟩:=N.c11;exact bodyPost_ret (v:=.agg (mA 2 0 e b m.ac m.pm m.st 0 0 0 (J Z 0 0))) (by simp[results,results196,go_sem,q0,q1,q2,q3,q4,q5,q6,q7,q8,q9,H]) rfl ⟨true,rfl,.inl ⟨rfl,rfl,HH.later F,.of_below F⟩⟩
  case false=>
   obtain rfl:un=true:=by rw[av.out,al,a3];rfl
   have aw:=dF a3;clear a3;have bj:=V.size;have bf:=z.lt;have aG:∀w',(binOp BinOp.neq 284 (Value.agg #[I (m.after k b p s).pr,I (m.after k b p s).ac,I (m.after k b p s).pm,I (m.after k b p s).st]) (Value.agg #[I m.pr,I m.ac,I m.pm,I m.st])).run pG w'=.ok (.bool true) w':=λw'=>by rw[DQ,show((m.after k b p s).pr==m.pr&&(m.after k b p s).ac==m.ac&&(m.after k b p s).pm==m.pm&&(m.after k b p s).st==m.st)=false from aw.out];rfl
   obtain⟨W3,aD⟩:∃y,y=wc:=⟨_,rfl⟩;subst aD;go_upto_region 6 with fail;go_cut [51] (λs51 wx=>∃ok w4,s51=.bool (!ok)/\dI wx w.1.size (mA k f e b wa p s q bl v (J a W.length c)) 136/\dI wx (w.1.size+1) mz 136/\dI wx X #[I m.pr,I m.ac,I m.pm,I m.st] 284/\Bw w w4/\w.1.size+1<w4.1.size/\i2 P (x.after ok) d fs left t A (⟨k,f,e,b,wa,p,s,q,bl,v,a,c,W⟩:dN) ok w4 wx);case first=>
    refine eZ (S:=(λw'=>w'.cell? ⟨X,0,Z⟩=Y (I m.pr)/\w'.cell? ⟨X,1,Z⟩=Y (I m.ac)/\w'.cell? ⟨X,2,Z⟩=Y (I m.pm)/\w'.cell? ⟨X,3,Z⟩=Y (I m.st)/\w'.cell? ⟨w.1.size,0,Z⟩=Y (I k)/\w'.cell? ⟨w.1.size,1,Z⟩=Y (I f)/\w'.cell? ⟨w.1.size,2,Z⟩=Y (I e)/\w'.cell? ⟨w.1.size,3,Z⟩=Y (I b)/\w'.cell? ⟨w.1.size,4,Z⟩=Y (I wa)/\w'.cell? ⟨w.1.size,5,Z⟩=Y (I p)/\w'.cell? ⟨w.1.size,6,Z⟩=Y (I s)/\w'.cell? ⟨w.1.size,7,Z⟩=Y (I q)/\w'.cell? ⟨w.1.size,8,Z⟩=Y (I bl)/\w'.cell? ⟨w.1.size,9,Z⟩=Y (I v)/\w'.cell? ⟨w.1.size,10,Z⟩=Y (J a W.length c))) λ_=>?_;refine tk 0 ?_;refine tk 1 ?_;refine tk 3 ?_;refine dT 2 λK o=>?_;(try go_simp);go_at_call 239;refine(wR m k f e b wa p s q bl v _ W3.drew).mono ?_;rintro r w4 ⟨rfl,l⟩;have aI:W3.1.size<=w4.1.size:=l.size;have af:Bw w w4:=(V.drew).trans (l.mono (by exact V.size));have ba:w.1.size+1<w4.1.size:=oG;have z0:=(l.cell (p:=⟨X,0,Z⟩) R).trans x0;have z1:=(l.cell (p:=⟨X,1,Z⟩) R).trans x1;have z2:=(l.cell (p:=⟨X,2,Z⟩) R).trans x2;have z3:=(l.cell (p:=⟨X,3,Z⟩) R).trans x3;have z4:=(l.cell (p:=⟨w.1.size,0,Z⟩) n).trans m0;have z5:=(l.cell (p:=⟨w.1.size,1,Z⟩) n).trans m1;have z6:=(l.cell (p:=⟨w.1.size,2,Z⟩) n).trans m2;have z7:=(l.cell (p:=⟨w.1.size,3,Z⟩) n).trans m3;have z8:=(l.cell (p:=⟨w.1.size,4,Z⟩) n).trans m4;have z9:=(l.cell (p:=⟨w.1.size,5,Z⟩) n).trans m5;have b0:=(l.cell (p:=⟨w.1.size,6,Z⟩) n).trans m6;have bc:=(l.cell (p:=⟨w.1.size,7,Z⟩) n).trans m7;have bb:=(l.cell (p:=⟨w.1.size,8,Z⟩) n).trans m8;have b1:=(l.cell (p:=⟨w.1.size,9,Z⟩) n).trans m9;have b5:=(l.cell (p:=⟨w.1.size,10,Z⟩) n).trans gF;refine kr o 4 λK o=>?_;(try go_simp);refine kr o 5 λK o=>?_;(try go_simp);refine k1 o λ_=>?_;clear o K;refine jC [6,7] ?_;refine .cons rfl (λK o=>?_) ?_;focus
     (try go_simp)
     refine kr o 7 λK o=>?_
     (try go_simp)
     refine kr o 8 λK o=>?_
     (try go_simp)
     go_at_call 139
     refine(qT hSO hBW hBS P x d fs left t A k f e b wa p s q bl v a W c w4 (HH.later af) aP ht (aZ.later af) aW ax au aJ).mono ?_
     rintro r w5 ⟨ok,rfl,B⟩
     have ak:Hid (dI w5 w.1.size _ 136):=B.blk (a1.drew.later l) (U.out _ r_);have aX:Hid (dI w5 (w.1.size+1) _ 136):=B.blk (z.drew.later l) (U.out _ (Nat.le_succ _));have L:Hid (dI w5 X _ 284):=B.blk (HX.drew.later l) (U.out _ oG);have a6:=dF B;clear B;have u0:=L.cell 0;have u1:=L.cell 1;have u2:=L.cell 2;have u3:=L.cell 3;simp at u0 u1 u2 u3;have bu:=ak.cell
    rotate_left;focus
     refine .cons rfl (λK o=>?_) .nil
     (try go_simp)
     refine kr o 6 λK o=>?_
     (try go_simp)
     refine kr o 8 λK o=>?_
     (try go_simp)
     go_at_call 139
     refine(qT hSO hBW hBS P x d fs left t A k f e b wa p s q bl v a W c w4 (HH.later af) aP ht (aZ.later af) aW ax au aJ).mono ?_
     rintro r w5 ⟨ok,rfl,B⟩
     have ak:Hid (dI w5 w.1.size _ 136):=B.blk (a1.drew.later l) (U.out _ r_);have aX:Hid (dI w5 (w.1.size+1) _ 136):=B.blk (z.drew.later l) (U.out _ (Nat.le_succ _));have L:Hid (dI w5 X _ 284):=B.blk (HX.drew.later l) (U.out _ oG);have a6:=dF B;clear B;have u0:=L.cell 0;have u1:=L.cell 1;have u2:=L.cell 2;have u3:=L.cell 3;simp at u0 u1 u2 u3;have bt:=ak.cell
    all_goals
     cases ok
     all_goals
      refine kr o 9 λK o=>?_
      (try go_simp)
      refine kr o 10 λK o=>?_
      (try go_simp)
      refine kd o ?_
      go_wp2_with fail
      go_meet
      exact⟨_,w4,rfl,ak,aX,L,af,ba,a6⟩
   case rest=>
   obtain⟨ok,w4,rfl,aY,aO,aK,l,aS,B⟩:=hcut;have O:=dF aK;have j:=dF aO;have aF:=dF aY;have a6:=dF B;have aC:=dF l;clear aY aO aK B l HX z a1 aL aN V aG x0 x1 x2 x3 m0 m1 m2 m3 m4 m5 m6 m7 m8 m9 gF;have x0:=O.cell 0;have x1:=O.cell 1;have x2:=O.cell 2;have x3:=O.cell 3;simp at x0 x1 x2 x3;have bn:=aF.cell;cases ok;·simp only[Bool.not_false];have bd:=qB (P:=pG) (t:=136) (i:=0) (vs:=mz) j oL sG sG (by intro u hu;simp at hu;rcases hu with rfl|rfl<;>rfl);obtain⟨q0,q1,q2,q3,q4,q5,q6,q7,q8,q9,H⟩:=j.c11;go_wp2_with(refine qA rfl 136 _ _ rfl _ _ rfl rfl bd ?_);exact bodyPost_ret (v:=.agg mz) (by simp[results,results196,go_sem,q0,q1,q2,q3,q4,q5,q6,q7,q8,q9,H]) rfl ⟨false,rfl,.inr ⟨rfl,a6.pre aC⟩⟩
   simp only[Bool.not_true];by_cases Q:k=3
   ·obtain rfl:ua=⟨4,0,e,b,0,0,0,0,0,0⟩:=by rw[ah.out,if_neg hb,if_pos Q]
    subst Q;obtain⟨r0,r1,r2,r3,r4,r5,r6,r7,r8,r9,aA⟩:=j.c11;have ae:=j.free 0;have ai:=j.free 1;have ab:=j.free 2;have aa:=j.free 3;have ap:=j.free 4;have an:=j.free 5;have ar:=j.free 6;have aq:=j.free 7;have am:=j.free 8;have aj:=j.free 9;have a2:=j.free 10;have F:=dF (pN wc (w.1.size+1) (I 4) (I 0) (I e) (I b) (I 0) (I 0) (I 0) (I 0) (I 0) (I 0) (J Z 0 0));have N:=dF (j.s11 (I 4) (I 0) (I e) (I b) (I 0) (I 0) (I 0) (I 0) (I 0) (I 0) (J Z 0 0));go_wp2;generalize World.setCell _ _ _=W9 at*;obtain⟨q0,q1,q2,q3,q4,q5,q6,q7,q8,q9,H⟩:=N.c11;exact bodyPost_ret (v:=.agg (mA 4 0 e b 0 0 0 0 0 0 (J Z 0 0))) (by simp[results,results196,go_sem,q0,q1,q2,q3,q4,q5,q6,q7,q8,q9,H]) rfl ⟨true,rfl,.inr ⟨rfl,a6.put aC F (Nat.le_succ _) aS (U.out _ (Nat.le_succ _)) oG⟩⟩
   have aU:decide (k=3)=false:=by simpa using Q
   obtain rfl:ua=⟨2,0,e,b,m.ac,m.pm,m.st,0,0,0⟩:=by rw[ah.out,if_neg hb,if_neg Q]
   have bo:=j.cell;have ae:=j.free 0;have ai:=j.free 1;have ab:=j.free 2;have aa:=j.free 3;have ap:=j.free 4;have an:=j.free 5;have ar:=j.free 6;have aq:=j.free 7;have am:=j.free 8;have aj:=j.free 9;have a2:=j.free 10;have F:=dF (pN wc (w.1.size+1) (I 2) (I 0) (I e) (I b) (I m.ac) (I m.pm) (I m.st) (I 0) (I 0) (I 0) (J Z 0 0));have N:=dF (j.s11 (I 2) (I 0) (I e) (I b) (I m.ac) (I m.pm) (I m.st) (I 0) (I 0) (I 0) (J Z 0 0));go_wp2;generalize World.setCell _ _ _=W9 at*;obtain⟨q0,q1,q2,q3,q4,q5,q6,q7,q8,q9,H⟩:=N.c11;exact bodyPost_ret (v:=.agg (mA 2 0 e b m.ac m.pm m.st 0 0 0 (J Z 0 0))) (by simp[results,results196,go_sem,q0,q1,q2,q3,q4,q5,q6,q7,q8,q9,H]) rfl ⟨true,rfl,.inr ⟨rfl,a6.put aC F (Nat.le_succ _) aS (U.out _ (Nat.le_succ _)) oG⟩⟩
def AE(k f e b wa p s q bl v:Int)(a:Option Addr)(g:Nat)(c:Nat)(w:World):Calls pG 235 #[.agg (mA k f e b wa p s q bl v (J a g c))] w λr w'=>r=.returned (kP (k,e,max b q,f))/\Bw w w':=by
 have d:=λ(o o':Obj)=>((Below.refl w.1.size w).alloc r_ o).alloc sG o';go_enter func235,ntmps235;go_wp2;all_goals
  refine bodyPost_ret (v:=kP (k,e,max b q,f)) (by first|(rw[show max b q=q by omega];simp[results,results235,go_sem,kP];done)|(rw[show max b q=b by omega];simp[results,results235,go_sem,kP])) rfl ⟨rfl,d _ _⟩
def CX(B:Nat)(l:List Ky)(k f e b wa p s q bl v:Int)(a:Option Addr)(n:Nat)(c:Nat)(w:World)(h:gH w B l):Calls pG 232 #[.map (Y B),.agg (mA k f e b wa p s q bl v (J a n c))] w λr w'=>r=.returned (.bool (decide ((k,e,max b q,f)∈l)))/\Bw w w':=by go_enter func232,ntmps232;go_upto_region 1 with fail;generalize m:World.alloc _ _=W0;have j:=dF (uC m);have t:=dF (uR m);have u:=dF (h.later j);clear m h;have x:=t.cell;go_wp2_with fail;refine(AE k f e b wa p s q bl v a n c W0).mono ?_;rintro r w1 ⟨rfl,d⟩;have y:=(u.later d).look (k,e,max b q,f);have g:Hid (Bw w w1):=j.trans (d.mono j.size);have i:=dF (λo:Obj=>g.alloc g.size o);clear d;go_wp2;go_ret;exact⟨rfl,i.out _⟩
def jB(a:Ky)(l:List Ky):List Ky:=if a∈l then l else l++[a]
def uO(B:Nat)(l:List Ky)(k f e b wa p s q bl v:Int)(a:Option Addr)(N:Nat)(c:Nat)(w:World)(h:gH w B l):Calls pG 188 #[.map (Y B),.agg (mA k f e b wa p s q bl v (J a N c))] w λr w'=>r=.returned (.bool (!decide ((k,e,max b q,f)∈l)))/\gH w' B (jB (k,e,max b q,f) l)/\dQ (λg=>g=B) w w':=by
 have y:decide ((k,e,max b q,f)∈l)=true∨decide ((k,e,max b q,f)∈l)=false:=by cases decide ((k,e,max b q,f)∈l)<;>simp
 have U:=h.lt;rcases y with y|y;all_goals
  go_enter func188,ntmps188
  go_upto_region 1 with fail
  generalize K:World.alloc _ _=W0
  have E:=dF (uC K)
  have D:=dF (uR K)
  have F:=dF (h.later E)
  clear K h
  have H:=D.cell
  go_wp2_with fail
  refine(CX B l k f e b wa p s q bl v a N c W0 F).mono ?_
  rintro r w1 ⟨O,j⟩
  rw[y]at O
  subst O
  have z:=dF y
  have t:=dF (F.later j)
  have m:Hid (Bw w w1):=E.trans (j.mono E.size)
  have M:=dF (D.later j)
  clear j D F H
  have R:=M.cell
  first
  | have S:decide ((k,e,max b q,f)∈l)=true:=z.out
    go_wp2
    go_ret
    exact⟨by rw[z.out];rfl,by unfold jB;rw[if_pos (by simpa using S)];exact t,dQ.of_below m⟩
  | go_wp2_with fail
    refine(AE k f e b wa p s q bl v a N c w1).mono ?_
    rintro r w2 ⟨rfl,n⟩
    have o:¬(k,e,max b q,f)∈l:=by simpa using z.out
    obtain⟨w3,V,u,x⟩:=(t.later n).put (k,e,max b q,f) o
    have i:Hid (Bw w w2):=m.trans (n.mono m.size)
    have A:=dF u
    have d:=dF x
    have L:=dF o
    clear n u x o
    go_wp2
    go_ret
    refine⟨by rw[z.out];rfl,by unfold jB;rw[if_neg L.out];exact A,?_⟩
    exact⟨d.os.trans i.os,d.tape.trans i.tape,d.output.trans i.output,by rw[d.size];exact i.size,λg Q C=>(d.block g C).trans (i.block g Q)⟩
def kN(d:SD)(e p s:Int):Bool:=lA d.ek.E d.ek.P d.ek.S (e+1) p s
def mL(x:NB)(d:SD)(e p:Int)(ok:Bool):NB:=bif ok then{x.stand with act:=d.takes (e+1) p} else x.after false
def BG.last{t:Nat}{d:SD}(h:BG t d):0<=d.ek.E/\d.ek.E<=10000000000000:=by have a:=h.ne;refine h.re _ ?_;unfold SD.ek;rw[List.getD_eq_getElem?_getD,List.getElem?_eq_getElem oG,Option.getD_some];exact List.getElem_mem _
def AN(hSO:fB)(hBW:fH)(hBS:fI)(P:Pl)(x:NB)(d:SD)(fs:List FD)(left:Int)(t:Nat)(A:Nat->Prop)(f e b wa p s q bl v:Int)(a:Option Addr)(F:List Int)(c:Nat)(w:World)(h:gI w P x d fs left (eB t) A)(hB:BG t d)(ht:t<=20000000)(hz:fK w a F)(ap:∀ad,a=Y ad->¬A ad.block)(L:e_ e)(a8:x.5=false):Calls pG 200 #[P0 (Y ⟨P.Nd,0,Z⟩),.agg (mA 6 f e b wa p s q bl v (J a F.length c))] w λr w'=>qU (kN d e p s) P x (mL x d e p) d fs left t A (⟨6,f,e,b,wa,p,s,q,bl,v,a,c,F⟩:dN) (λok=>.bool (kN d e p s&&ok)) r w w':=by
 obtain⟨vr,va,h1,h2,h3⟩:=h.ex;have ac:=hB.ne;have av:=hB.recs;have hE:=hB.last;have aq:=dF hz;have HH:=dF h;have ag:=dF h1;have ay:Hid (∀g,w.1.size<=g->¬A g):=λg hg=>h.fresh hg;have a0:=dF hB;have ak:=dF a8;obtain⟨fo,Q⟩:∃y,kN d e p s=y:=⟨_,rfl⟩;have ai:Hid (lA d.ek.E d.ek.P d.ek.S (e+1) p s=fo):=Q;rw[Q];clear Q;have ab:=(Below.refl w.1.size w).alloc r_ (G (mA 6 f e b wa p s q bl v (J a F.length c)) 136);have HM:=dF (dI.new w (mA 6 f e b wa p s q bl v (J a F.length c)) 136);have HB:=dF ab;have af:Hid (kX w P.Nd x):=⟨h.blk⟩;clear ab h h1 h2 h3 hz hB a8;go_enter func200,ntmps200;go_upto_region 1 with fail;generalize World.alloc _ _=W0 at*;have N:=HB.size;have ao:=HM.cell;go_wp2_with fail;refine(AL 6 f e b wa p s q bl v _ W0 L.1 L.2).mono ?_;rintro r w1 ⟨rfl,o⟩;have a4:=dI.new w1 #[I (e+1),I p,I s] 66;have n:Hid (Bw w (w1.alloc (G #[I (e+1),I p,I s] 66))):=(HB.trans (o.mono N)).alloc (Nat.le_trans N o.size) _;have a7:Hid (dI (w1.alloc (G #[I (e+1),I p,I s] 66)) w.1.size (mA 6 f e b wa p s q bl v (J a F.length c)) 136):=(HM.later o).old _;have au:w.1.size<=w1.1.size:=Nat.le_trans N o.size;have a6:=dF a4;clear o a4 HM HB ao;go_upto_region 2 with fail;generalize World.alloc _ _=W2 at*;generalize w1.1.size=X at*;have HX:=dF a6;clear a6;have B:=dF (af.later n);have O:=dF (ag.later n);have ah:=n.size;have x0:=HX.cell 0;have x1:=HX.cell 1;have x2:=HX.cell 2;simp at x0 x1 x2;go_cut [13] (λs13 wx=>s13=.bool (!fo)/\Bw W2 wx);case first=>refine eZ (S:=(λw'=>w'.cell? ⟨X,0,Z⟩=Y (I (e+1))/\w'.cell? ⟨X,1,Z⟩=Y (I p)/\w'.cell? ⟨X,2,Z⟩=Y (I s))) λ_=>?_;refine tk 0 ?_;refine tk 2 ?_;refine dT 1 λK C=>?_;(try go_simp);go_at_call 133;have n3:=B.drew.blk.cell 3;simp at n3;refine(uS P.low x.St P.Nd d vr P.Mp P.D W2.drew n3 B.drew.blk.lt O.drew ac oG).mono ?_;rintro r w3 ⟨rfl,V⟩;have i:=dF (HX.drew.later V);have y0:=i.cell 0;have y1:=i.cell 1;have y2:=i.cell 2;simp at y0 y1 y2;refine kr C 3 λK C=>?_;(try go_simp);go_at_call 134;refine(AH d.ek.E d.ek.P d.ek.S (e+1) p s w3 oG oG).mono ?_;rintro r w4 ⟨rfl,k⟩;rw[ai.out];have m:=dF (i.later k);have ax:=m.cell;refine kr C 4 λK C=>?_;(try go_simp);refine kd C ?_;go_wp2_with fail;go_meet;exact⟨rfl,((Below.refl W2.1.size W2).drew.trans V).trans (k.mono (by exact V.size))⟩
 case rest=>
  obtain⟨rfl,j⟩:=hcut;obtain⟨W,aj⟩:∃y,y=wc:=⟨_,rfl⟩;subst aj;have l:Hid (Bw w W):=n.trans (j.mono ah);have i:=dF (HX.later j);have aa:=dF (a7.later j);have U:=dF (B.later j);have gO:=dF (O.later j);have ae:=l.size;clear j n HX a7 B O x0 x1 x2;cases fo;·simp only[Bool.not_false,Bool.false_and];go_wp2;go_ret;exact⟨true,rfl,.inl ⟨rfl,rfl,HH.later l,.of_below l⟩⟩
  simp only[Bool.not_true,Bool.true_and];have x0:=i.cell 0;have x1:=i.cell 1;have x2:=i.cell 2;simp at x0 x1 x2;have c3:=U.blk.cell 3;simp at c3;go_upto_region 4 with fail;go_cut [6] (λs6 wx=>s6=.bool (d.takes (e+1) p)/\Bw W wx);case first=>refine eZ (S:=(λw'=>w'.cell? ⟨P.Nd,3,Z⟩=Y (P0 (Y ⟨x.St,0,Z⟩))/\w'.cell? ⟨X,0,Z⟩=Y (I (e+1))/\w'.cell? ⟨X,1,Z⟩=Y (I p)/\w'.cell? ⟨X,2,Z⟩=Y (I s))) λ_=>?_;refine tk 0 ?_;refine tk 1 ?_;refine tk 2 ?_;refine tk 3 ?_;refine tk 4 ?_;refine tk 5 ?_;refine tk 6 ?_;refine dT 7 λK C=>?_;(try go_simp);go_at_call 246;refine(BQ P.low x.St d vr P.Mp P.D (e+1) p s W.drew gO.drew a0.id).mono ?_;rintro r w4 ⟨rfl,k⟩;have m:=dF (i.drew.later k);have an:=dF (U.drew.later k);have y0:=m.cell 0;have y1:=m.cell 1;have y2:=m.cell 2;simp at y0 y1 y2;have n3:=an.blk.cell 3;simp at n3;refine kr C 8 λK C=>?_;(try go_simp);refine kd C ?_;go_wp2_with fail;go_meet;exact⟨rfl,(Below.refl W.1.size W).drew.trans k⟩
  case rest=>
  obtain⟨rfl,j⟩:=hcut;have z:Hid (Bw w wc):=l.trans (j.mono ae);have a2:=dF (aa.later j);have aw:=z.size;clear j l i aa U gO x0 x1 x2 c3;have a3:Hid (mL x d e p=λok=>bif ok then{x.stand with act:=d.takes (e+1) p} else x.after false):=rfl;generalize am:d.takes (e+1) p=tk at*;clear am;have al:=a2.cell;go_wp2_with fail;refine(qT hSO hBW hBS P x d fs left t A 6 f e b wa p s q bl v a F c wc (HH.later z) a0 ht (aq.later z) ap L (.inr (.inr (.inl rfl))) ak).mono ?_;rintro r w5 ⟨ok,rfl,a1⟩;have u:=dF (a1.pre z);clear a1 a2 al;cases ok;·go_wp2;go_ret;rw[a3.out];exact⟨false,rfl,.inr ⟨rfl,u⟩⟩
  go_wp2_with fail;refine(wT P.Nd x w5 u.at).mono ?_;rintro r w6 ⟨rfl,M,H⟩;have R:=dF M;have a5:=dF (u.node (x':=x.stand) H M rfl);clear M H u;have c5:=R.cell 5;simp[NB.stand]at c5;have az:=R.free 5;have ar:Hid (dI (w6.setCell ⟨P.Nd,5,Z⟩ (bool tk)) P.Nd ({x.stand with act:=tk}:NB).arr 192):=by have h9:=R.set 5 (bool tk);unfold Hid;simpa using h9
  have a9:Hid (i2 P {x.stand with act:=tk} d fs left t A (⟨6,f,e,b,wa,p,s,q,bl,v,a,c,F⟩:dN) true w (w6.setCell ⟨P.Nd,5,Z⟩ (bool tk))):=a5.node (dM.setCell w6 ⟨P.Nd,5,Z⟩ _) ar rfl;go_wp2;go_ret;rw[a3.out];exact⟨true,rfl,.inr ⟨rfl,a9⟩⟩
end Go.Proofs.YtdcainmlcpafbaaGreatDoor
