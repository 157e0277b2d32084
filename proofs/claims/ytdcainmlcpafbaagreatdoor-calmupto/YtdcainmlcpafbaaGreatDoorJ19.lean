import Derived.Test.YtdcainmlcpafbaaGreatDoorJ18
set_option linter.all false
set_option maxHeartbeats 8000000
set_option maxRecDepth 20000
namespace Go.Proofs.YtdcainmlcpafbaaGreatDoor
open Go.RowKit
open Value renaming slice->J,pointer->P0
open Tryz
open Tryz renaming prog->pG
open IntKind renaming i64->T
open Option renaming none->Z,some->Y
open Obj renaming cells->G
open Value (bool)
def vU(f e q bl v:Int)(a:0<=f/\f<5)(c:e_ e)(b:e_ q)(g:0<=bl/\bl<=3)(d:i_ v):fP 7 f [0,e,0,0,0,0,q,bl,v,0]=true:=nN 7 f _ oG a ((oF e 0 0 0 0 q bl v 0).2 ⟨c,b,g,d,rfl,rfl,rfl,rfl,rfl⟩)
def sN{P:Program}{ops:Array Oper}{o:Oper}{a:Act}{w w':World}{K:Act->World->Prop}{Q:Exit->Act->World->Prop}{E:Prop}(t:TypeId)(x y:Operand)(d vs:Value)(b:(Instr.storeAt t d vs).run P w=.ok () w')(h:K (a.put o.dst (.tuple #[])) w')(f:o.guard=none:=by rfl)(c:o.op=Op.store t x y:=by rfl)(g:a.eval x=d:=by kernel_rfl)(hy:a.eval y=vs:=by kernel_rfl):if Region.wanted o (yielded ops a.tmps)=true then Oper.wp P o a w K Q else E:=by
 have e:Region.wanted o (yielded ops a.tmps)=true:=by simp[Region.wanted,f]
 rw[if_pos e];unfold Oper.wp;simp only[execOp,c,g,hy];simp[b,Result.andThen];exact h
def iP.pz{w w1:World}{X:Nat}{cs:Array Value}{ty:TypeId}{o:Option Nat}{l:List Ky}(h:iP w o l)(d:dI w X cs ty)(b:dQ (λg=>g=X) w w1):iP w1 o l:=by
 rcases h with h|⟨B,c,a⟩;·exact .inl h
 ·exact .inr ⟨B,c,a.same (b.block B a.lt (a.ne d))⟩
def wW{w w1:World}{X base:Nat}{cs:Array Value}{ty e:TypeId}{size n:Nat}{v:Value}{xs:List Value}(h:w.ownsRow base e size v n xs)(i:dI w X cs ty)(a:ty≠e)(j:dQ (λg=>g=X) w w1):w1.ownsRow base e size v n xs:=dW h (λg c=>j.block g (h.lt g c).2 (λf=>by obtain⟨d,b⟩:=fC h c;rw[f,i.blk]at b;simp at b;exact a b.2))
def dZ.ql{w w':World}{base:Nat}{l:Value}{ps:List (Int×List UInt8)}{C C':Nat->Prop}(h:dZ w base l ps)(c:∀g,base<=g->¬C g)(d:dR C C' w w'):dZ w' base l ps:=by obtain⟨cs,b,f⟩:=h;exact⟨cs,dW b (λg a=>d.kept.block g (b.lt g a).2 (c g (b.lt g a).1)),f.same (λg e i a=>d.kept.block g (nM a) (c g i))⟩
def fR(d:SD)(bl v:Int):dN:=⟨7,0,d.ep,0,0,0,0,d.last+1,bl,v,none,0,[]⟩
@[reducible] def iB(x:NB)(d:SD)(bl v:Int)(B:Nat):NB:={x with ops:=x.ops+1,on:=x.ops+1,ow:=⟨7,0,d.ep,0,0,0,0,d.last+1,bl,v⟩,oa:=some B}
def H6(d:SD)(a:SD)(bl v:Int)(h:d.recs=a.recs)(e:SD):(d.stepM (fR e bl v)).ek=a.ek:=by
 have b:(d.stepM (fR e bl v)).recs=d.recs:=by
  unfold SD.stepM fR SD.step SD.lg;simp;split;·rfl
  split;·rfl
  split<;>rfl
 unfold SD.ek;rw[b,h]
def tW(P:Pl)(x:NB)(d:SD)(fs:List FD)(left:Int)(t:Nat)(C:Nat->Prop)(la:List Ky)(rs:List dO)(bl v:Int)(r:Ending)(w w':World):Prop:=
 (r=.returned (.tuple #[I 0,J Z 0 0,I 3])/\eQ P (x.after false) d fs left t C [] [] rs (fR d bl v) false w w')∨
 (∃l B,r=.returned (.tuple #[I (x.ops+1),l,I 0])/\dZ w' w.1.size l (fZ (gW d.ek.S x.id d.ep (d.last+1) [] x.2.toNat) (gR 7 x.id d.ep 0 0 0 0 (d.last+1) bl v []) x.2.toNat)/\(((gW d.ek.S x.id d.ep (d.last+1) [] x.2.toNat)≠0/\FX (pT true d fs left t (fR d bl v)) P (iB x d bl v B) C la [] rs w w')∨((gW d.ek.S x.id d.ep (d.last+1) [] x.2.toNat)=0/\∃vv,FX (pT true d fs left t (fR d bl v)) P (lE (iB x d bl v B) vv) C la [] (rs++[oT (iB x d bl v B)]) w w')))
def AP(hSO:fB)(hBW:fH)(hBS:fI)(P:Pl)(x:NB)(d:SD)(fs:List FD)(left:Int)(t:Nat)(C:Nat->Prop)(la lo:List Ky)(rs:List dO)(bl v:Int)(w:World)(h:dP w P x d fs left (eB t) C la lo rs)(hB:BG t d)(ht:t+1<=20000000)(aN:x.5=false)(aD:2<=x.2/\x.2<=5)(aL:0<=x.id/\x.id<x.2)(aC:0<=bl/\bl<=3)(hv:i_ v)(ba:0<=d.last/\d.last<1000000000000)(hS:0<=d.ek.S/\d.ek.S<=31)(bc:0<=x.ops/\x.ops<=1000000000)(b0:rs.length<=20000000):Calls pG 194 #[P0 (Y ⟨P.Nd,0,Z⟩),I bl,I v] w λr w'=>tW P x d fs left t C la rs bl v r w w':=by
 obtain⟨A,hA,ax,a9⟩:=h.1;obtain⟨vr,va,h1,h2,h3⟩:=hA.ex;have ar:=hB.ne;have b8:=hB.recs;have b6:=h.tabs.two;have ab:0<=d.ep/\d.ep<=1000000000000:=by unfold SD.ep;omega
 have aR:∀w',Sem.run pG (Instr.field 196 (Value.agg #[I d.seen,I d.last]) 1) w'=.ok (I d.last) w':=λ_=>rfl;have HF:=dF h;have HA:=dF hA;have aj:=dF hB;have aP:=dF aN;have R:=dF h.blk.drew;have U:=dF h1.drew;have q:Hid (Bw w w.drew):=b_.drew;clear h hA h1 h2 h3 hB aN;go_enter func194,ntmps194;go_upto_region 1 with fail;go_cut [9] (λs9 wx=>∃X,s9=P0 (Y ⟨X,0,Z⟩)/\w.1.size<=X/\dI wx X (mA 7 0 d.ep 0 0 0 0 (d.last+1) bl v (J Z 0 0)) 136/\Bw w wx);case first=>
  refine l9 (S:=(λw'=>dI w' P.Nd x.arr 192)) (λ_=>?_) (hS:=R);refine dH 0 ?_;refine dH 1 ?_;refine dH 2 ?_;refine dH 3 ?_ (hy:=by intro w o;have L:=o.cell 3;(try simp at L);go_simp;(try with_reducible rfl));refine dH 4 ?_;refine dH 5 ?_;refine dH 7 ?_;refine dH 8 ?_;refine dH 9 ?_;refine dH 10 ?_ (hy:=by intro w o;have L:=o.cell 3;(try simp at L);go_simp;(try with_reducible rfl));refine dH 11 ?_;refine dH 12 ?_;refine dH 16 ?_;refine dH 17 ?_;generalize World.drew _=V0 at*;refine jC [6,19] ?_;refine .cons rfl (λK j=>?_) ?_
  ·(try go_simp);go_at_call 179;refine(mG P.low x.St d vr P.Mp P.D _ U ar oG).mono ?_;rintro r wv ⟨rfl,al⟩;obtain rfl:=al.symm;refine k2 j (λ_=>?_) R;clear j K;refine jC [13,19] ?_;refine .cons rfl (λK j=>?_) ?_;focus
    (try go_simp)
    go_at_call 189
    refine(oZ P.low x.St d vr P.Mp P.D _ U).mono ?_
    rintro r V1 ⟨rfl,a⟩
    have p:=dF (R.later a);have s:=dF (U.later a);have f:Hid (Bw w V1):=q.trans (a.mono q.size)
    clear a
    refine k2 j (λ_=>?_) p;clear j K;refine dH 14 ?_;refine dH 15 (v:=I (d.last+1)) ?_ (hy:=by intro w o;have E:IntKind.i64.wrap (d.last+1)=d.last+1:=IntWalk.i64_in _ oG;go_simp;first|done|rw[E]|simp only[E]);refine dH 18 ?_
    refine dT 19 λK j=>?_
    (try go_simp)
    have a:=(Below.refl V1.1.size V1).alloc r_ (G mz 136)
    have m:=dF (dI.new V1 mz 136)
    have b:=dF (p.later a);have az:=dF (s.later a);have a5:=dF (f.trans (a.mono f.size))
    have V:w.1.size<=V1.1.size:=f.size
    clear a
    generalize World.alloc _ _=V2 at*
    generalize V1.1.size=X at*
    refine k2 j (λ_=>?_) b;clear j K
   rotate_left;focus
    refine .cons rfl (λK j=>?_) .nil
    (try go_simp)
    have a:=(Below.refl V0.1.size V0).alloc r_ (G mz 136)
    have ai:=dF (dI.new V0 mz 136)
    have p:=dF (R.later a);have s:=dF (U.later a);have f:=dF (q.trans (a.mono q.size))
    have V:w.1.size<=V0.1.size:=q.size
    clear a
    generalize World.alloc _ _=V1 at*
    generalize V0.1.size=X at*
    refine kr j 13 (λK j=>?_) p
    (try go_simp)
    go_at_call 189
    refine(oZ P.low x.St d vr P.Mp P.D _ s).mono ?_
    rintro r V2 ⟨rfl,a⟩
    have b:=dF (p.later a);have az:=dF (s.later a);have a5:Hid (Bw w V2):=f.trans (a.mono f.size)
    have m:=dF (ai.later a)
    clear a
    refine k2 j (λ_=>?_) b;clear j K;refine dH 14 ?_;refine dH 15 (v:=I (d.last+1)) ?_ (hy:=by intro w o;have E:IntKind.i64.wrap (d.last+1)=d.last+1:=IntWalk.i64_in _ oG;go_simp;first|done|rw[E]|simp only[E]);refine dH 18 ?_
   all_goals
    refine dT 20 λK j=>?_
    have z:=lW (P:=pG) (t:=136) (i:=0) (vs:=(mA 7 0 d.ep 0 0 0 0 (d.last+1) bl v (J Z 0 0))) m oL sG (by intro u hu;simp at hu;rcases hu with rfl|rfl|rfl|rfl|rfl|rfl|rfl|rfl<;>rfl) (mA 7 0 d.ep 0 0 0 0 (d.last+1) bl v (J Z 0 0)) sG
    refine sN 136 (.tmp 9) (.tmp 29) _ _ z ?_
    have e:=lP V2 X (mA 7 0 d.ep 0 0 0 0 (d.last+1) bl v (J Z 0 0))
    have Q:=dF (m.row (ds:=(mA 7 0 d.ep 0 0 0 0 (d.last+1) bl v (J Z 0 0))))
    have N:=dF (b.same (e.block P.Nd (Ne.symm (m.ne b dG))))
    have ao:=dF (a5.trans (e.below V))
    clear e z
    generalize World.setRow _ _ _=V3 at*
    refine kd j ?_ N
    go_wp2_with fail
    go_meet
    exact⟨X,rfl,V,Q,ao⟩
  refine .cons rfl (λK j=>?_) .nil;(try go_simp);have a:=(Below.refl V0.1.size V0).alloc r_ (G mz 136);have ai:=dF (dI.new V0 mz 136);have p:=dF (R.later a);have s:=dF (U.later a);have f:=dF (q.trans (a.mono q.size));have V:w.1.size<=V0.1.size:=q.size;clear a;generalize World.alloc _ _=V1 at*;generalize V0.1.size=X at*;refine kr j 6 (λK j=>?_) p;(try go_simp);go_at_call 179;refine(mG P.low x.St d vr P.Mp P.D _ s ar oG).mono ?_;rintro r wv ⟨rfl,al⟩;obtain rfl:=al.symm;refine kr j 13 (λK j=>?_) p;(try go_simp);go_at_call 189;refine(oZ P.low x.St d vr P.Mp P.D _ s).mono ?_;rintro r V2 ⟨rfl,a⟩;have b:=dF (p.later a);have az:=dF (s.later a);have a5:Hid (Bw w V2):=f.trans (a.mono f.size);have m:=dF (ai.later a);clear a;refine k2 j (λ_=>?_) b;clear j K;refine dH 14 ?_;refine dH 15 (v:=I (d.last+1)) ?_ (hy:=by intro w o;have E:IntKind.i64.wrap (d.last+1)=d.last+1:=IntWalk.i64_in _ oG;go_simp;first|done|rw[E]|simp only[E]);refine dH 18 ?_;refine dT 20 λK j=>?_;have z:=lW (P:=pG) (t:=136) (i:=0) (vs:=(mA 7 0 d.ep 0 0 0 0 (d.last+1) bl v (J Z 0 0))) m oL sG (by intro u hu;simp at hu;rcases hu with rfl|rfl|rfl|rfl|rfl|rfl|rfl|rfl<;>rfl) (mA 7 0 d.ep 0 0 0 0 (d.last+1) bl v (J Z 0 0)) sG;refine sN 136 (.tmp 9) (.tmp 29) _ _ z ?_;have e:=lP V2 X (mA 7 0 d.ep 0 0 0 0 (d.last+1) bl v (J Z 0 0));have Q:=dF (m.row (ds:=(mA 7 0 d.ep 0 0 0 0 (d.last+1) bl v (J Z 0 0))));have N:=dF (b.same (e.block P.Nd (Ne.symm (m.ne b dG))));have ao:=dF (a5.trans (e.below V));clear e z;generalize World.setRow _ _ _=V3 at*;refine kd j ?_ N;go_wp2_with fail;go_meet;exact⟨X,rfl,V,Q,ao⟩
 case rest=>
 obtain⟨X,rfl,hX,aJ,ae⟩:=hcut;obtain⟨W1,aU⟩:∃y,y=wc:=⟨_,rfl⟩;subst aU;have HX:=dF aJ;have f:=dF ae;have b9:=ae.size;clear aJ ae aR R U q;have aZ:¬A X:=HA.fresh hX;have bd:¬C X:=HF.fresh hX;have b2:=HX.cell;go_wp2_with fail;refine(qT hSO hBW hBS P x d fs left t A 7 0 d.ep 0 0 0 0 (d.last+1) bl v none [] 0 W1 (HA.later f) aj oG (.inl rfl) (λ_ L=>by cases L) ab (.inr (.inr (.inr (.inl ⟨rfl,aC⟩)))) aP).mono ?_;rintro r w2 ⟨ok,rfl,W⟩;clear b2;have m:=dF (W.blk HX aZ);cases ok;·have H:Hid (eQ P (x.after false) d fs left t C [] [] rs (fR d bl v) false w w2):=((HF.later f).jk (x':=x.after false) ax a9 W rfl rfl rfl).pre f;clear W;go_wp2;refine bodyPost_ret (v:=.tuple #[I 0,J Z 0 0,I 3]) (by simp[results,results194,go_sem]) rfl ?_;exact .inl ⟨rfl,H⟩
 have b4:eQ P x d fs left t C la lo rs (fR d bl v) true w w2:=((HF.later f).saved (x':=x) ax a9 W rfl rfl rfl).pre f;clear W;obtain⟨fs',left',d1,C',hw,hf,hx⟩:=b4;have aa:BG (t+1) (d1.stepM (fR d bl v)):=aj.step hw ab;have aF:(d1.stepM (fR d bl v)).ek=d.ek:=H6 d1 d bl v hw.same.2.1 d;have aB:dP w2 P x (d1.stepM (fR d bl v)) fs' left' (eB (t+1)) C' la lo rs:=hf;have HR:Hid (pT true d fs left t (fR d bl v) (d1.stepM (fR d bl v)) fs' left' (eB (t+1))):=.inr ⟨rfl,d1,hw,rfl,rfl⟩;generalize d1.stepM (fR d bl v)=d2 at*;have H:=dF aB;have a3:=dF hx;have a8:=dF aa;have am:=dF aF;clear hw hf aB hx aa aF HF HA aj;have b:=dF H.blk;have c:=b.cell 38;simp at c;have aw:=b.free 38;have F:Hid (dM P.Nd w2 (w2.setCell ⟨P.Nd,38,Z⟩ (I (x.ops+1)))):=dM.setCell w2 ⟨P.Nd,38,Z⟩ _;have N:Hid (dI (w2.setCell ⟨P.Nd,38,Z⟩ (I (x.ops+1))) P.Nd ({x with ops:=x.ops+1}:NB).arr 192):=by have L:=b.set 38 (I (x.ops+1));unfold Hid;simpa using L
 have Q:=dF (m.same (F.block X (m.ne b dG)));go_upto_region 5 with fail;generalize World.setCell _ _ _=W3 at*;clear c aw;have b5:=F.size;go_cut [47] (λ_ wx=>∃n,W3.1.size<=n/\dI wx P.Nd (iB x d bl v n).arr 192/\gH wx n []/\dQ (λg=>g=P.Nd) W3 wx);case first=>have c:=N.drew.cell 38;simp at c;refine l9 (S:=(λw'=>w'.cell? ⟨P.Nd,38,Z⟩=Y (I (x.ops+1))/\dI w' X (mA 7 0 d.ep 0 0 0 0 (d.last+1) bl v (J Z 0 0)) 136)) (λ_=>?_) (hS:=⟨c,Q.drew⟩);clear c;refine dH 0 ?_;refine dH 1 ?_;refine dH 2 ?_;refine dH 3 ?_;refine dH 4 ?_ (hy:=by intro w o;have L:=o.1;(try simp at L);go_simp;(try with_reducible rfl));refine i4 5 X 0 [I 7,I 0,I d.ep,I 0,I 0,I 0,I 0,I (d.last+1),I bl,I v,J Z 0 0] ?_ (λw o=>o.2.range rfl);have aQ:=dF N.drew;have aY:=dF Q.drew;have ap:Hid (Bw W3 W3.drew):=b_.drew;generalize World.drew _=V4 at*;refine dT 6 λK j=>?_;(try go_simp);rw[run_makeMap];(try go_simp);have a0:=dF (aQ.old (Obj.map #[] 0));have ag:=dF (aY.old (Obj.map #[] 0));have aW:Hid (dQ (λg=>g=P.Nd) W3 (V4.alloc (Obj.map #[] 0))):=dQ.of_below (ap.alloc ap.size _);have av:Hid (gH (V4.alloc (Obj.map #[] 0)) V4.1.size []):=⟨⟨#[],0,heap_alloc_new _ _,rfl⟩⟩;have aM:W3.1.size<=V4.1.size:=ap.size;generalize World.alloc _ _=V5 at*;generalize V4.1.size=n at*;have c:=a0.cell 38;simp at c;refine k2 j (λ_=>?_) ⟨c,ag⟩;clear j K c;refine dH 7 ?_;refine dH 8 ?_;refine dH 9 ?_;refine dT 10 λK j=>?_;have z:=lW (P:=pG) (t:=190) (i:=25) (vs:=#[I (x.ops+1),I 7,I 0,I d.ep,I 0,I 0,I 0,I 0,I (d.last+1),I bl,I v,J Z 0 0,Value.map (some n)]) a0 EZ sG (by intro u hu;simp at hu;rcases hu with rfl|rfl|rfl|rfl|rfl|rfl|rfl|rfl|rfl|rfl<;>rfl) (iB x d bl v n).arr sG;refine sN 190 (.tmp 50) (.tmp 48) _ _ z ?_;have e:=lP V5 P.Nd (iB x d bl v n).arr;have aA:=dF (a0.row (ds:=(iB x d bl v n).arr));have aT:=dF (ag.same (e.block X (ag.ne a0 dG)));have aV:=dF (av.same (e.block n (av.ne a0)));have b1:Hid (dQ (λg=>g=P.Nd) W3 (V5.setRow P.Nd (iB x d bl v n).arr)):=aW.trans (B:=λg=>g=P.Nd) ⟨e.os,e.tape,e.output,by rw[e.size];exact Nat.le_refl _,λk hk hA=>e.block k hA⟩ (λ_ hh=>hh) (λ_ _ hh=>hh);clear e z;generalize World.setRow _ _ _=V6 at*;have c:=aA.cell 38;simp at c;refine kd j ?_ ⟨c,aT⟩;go_wp2_with fail;go_meet;exact⟨n,aM,aA,aV,b1⟩
 case rest=>
 obtain⟨n,aM,aE,aO,aH⟩:=hcut;obtain⟨W8,aX⟩:∃y,y=wc:=⟨_,rfl⟩;subst aX;have a7:dQ (λg=>g=P.Nd) w2 W8:=dQ.trans (A:=λg=>g=P.Nd) ⟨F.os,F.tape,F.output,by rw[F.size];exact Nat.le_refl _,λk hk hA=>F.block k hA⟩ aH (λ_ hh=>hh) (λ_ _ hh=>hh);have b3:w2.1.size<=n:=oG;have a2:=H.reset (x':=(iB x d bl v n)) (la':=la) (lo':=[]) (rs':=rs) a7 aE rfl (λg hg=>by
  rcases hg with L|L|L;·exact .inl (.inl L)
  ·cases L;exact .inr b3
  ·exact .inl (.inr (.inr L))) (H.an.pz b a7) (.inr ⟨n,rfl,aO⟩) (λg hg L=>by cases L;have:=H.an.lt hg;omega) (wW H.row b dG a7)
 have a6:=dF a2.1;have ah:=dF (a3.trans a2.2);clear a2 a7 aH aE aO N Q F b H a3;generalize (λg=>C' g∨((iB x d bl v n):NB).own g)=C8 at*;have ad:=dF (ah.kept.size);go_wp2_with fail;refine(BX P (iB x d bl v n) d2 fs' left' (eB (t+1)) (t+1) C8 la [] rs n W8 a6 a8 ht aD aL rfl (by rw[am.out];exact hS) (vU x.id d.ep (d.last+1) bl v oG ab oG aC hv)).mono ?_;rintro r w9 ⟨l,rfl,hl,af⟩;rw[am.out]at hl;obtain⟨au,aG,aI,rfl⟩:=hl.shape;have b7:=dF (hl.mono ad);have aS:=dF (a6.later af);have a3:=dF (ah.later af);have ay:Hid (∀g,W8.1.size<=g->¬C8 g):=λg hg=>a6.fresh hg;have aK:=dF hl;clear hl af a6 ah;go_wp2_with fail;refine(BC P (iB x d bl v n) d2 fs' left' (eB (t+1)) (t+1) C8 la [] rs n w9 aS a8 ht aD aL rfl b0).mono ?_;rintro r bb ⟨rfl,hq⟩;rw[am.out]at hq;rcases hq with⟨a4,O,M⟩|⟨a4,vv,C9,O,M⟩;·have a1:=dF O.blk;have c:=a1.cell 38;simp at c;have HP:=dF ((aK.ql ay M).mono ad);have aq:=dF O;have ak:=dF (a3.trans M);have ac:=dF a4;clear a4 O M;go_wp2;refine bodyPost_ret (v:=.tuple #[I (x.ops+1),J au aG aI,I 0]) (by simp[results,results194,go_sem]) rfl ?_;exact .inr ⟨_,n,rfl,HP,.inl ⟨ac,d2,fs',left',_,C8,HR,aq,ak⟩⟩
 have a1:=dF O.blk;have c:=a1.cell 38;simp at c;have HP:=dF ((aK.ql ay M).mono ad);have aq:=dF O;have ak:=dF (a3.trans M);have ac:=dF a4;clear a4 O M;go_wp2;refine bodyPost_ret (v:=.tuple #[I (x.ops+1),J au aG aI,I 0]) (by simp[results,results194,go_sem]) rfl ?_;exact .inr ⟨_,n,rfl,HP,.inr ⟨ac,vv,d2,fs',left',_,C9,HR,aq,ak⟩⟩
def jQ(x:NB)(d:SD)(right:Bool):Int:=vM x.5 x.act right (d.last==1000000000000) (x.ph != 0 || decide (0<x.on))
def lM(x:NB)(bl:Int):Bool:=decide (0<=bl)&&decide (bl<x.nb)
def tJ{x:NB}{d:SD}{r:Bool}(h:jQ x d r=0):x.5=false/\x.act=true/\r=true/\d.last≠1000000000000/\x.ph=0/\¬0<x.on:=by
 unfold jQ vM at h;cases h1:x.5<;>rw[h1]at h;case true=>simp at h
 cases h2:x.act<;>rw[h2]at h;case false=>simp at h
 cases r;case false=>simp at h
 cases h4:(d.last==1000000000000)<;>rw[h4]at h;case true=>simp at h
 cases h5:(x.ph != 0 || decide (0<x.on))<;>rw[h5]at h;case true=>simp at h
 simp at h4 h5;exact⟨rfl,rfl,rfl,h4,h5.1,oG⟩
def yR(P:Pl)(x:NB)(d:SD)(fs:List FD)(left:Int)(L:Nat)(C:Nat->Prop)(la lo:List Ky)(rs:List dO)(right:Bool)(w:World)(h:dP w P x d fs left L C la lo rs):Calls pG 137 #[P0 (Y ⟨P.Nd,0,Z⟩),.bool right] w λr w'=>r=.returned (I (jQ x d right))/\Bw w w':=by obtain⟨A,f,c,b⟩:=h.1;obtain⟨vr,i,e,g,j⟩:=f.ex;have a:=h.blk;exact PQ P.Nd x.5 x.act right x.ph x.on P.low x.St d vr P.Mp P.D w e (a.cell 3) (a.cell 4) (a.cell 5) (a.cell 6) (a.cell 25) a.lt
def tW.pre{P:Pl}{x:NB}{d:SD}{fs:List FD}{left:Int}{t:Nat}{C:Nat->Prop}{la:List Ky}{rs:List dO}{bl v:Int}{r:Ending}{w w1 w':World}(h:tW P x d fs left t C la rs bl v r w1 w')(b:Bw w w1):tW P x d fs left t C la rs bl v r w w':=by
 rcases h with⟨f,c⟩|⟨l,B,f,c,a⟩;·exact .inl ⟨f,c.pre b⟩
 ·refine .inr ⟨l,B,f,c.mono b.size,?_⟩;rcases a with⟨a,e⟩|⟨a,v,e⟩;·exact .inl ⟨a,e.pre b⟩
  ·exact .inr ⟨a,v,e.pre b⟩
def zO(P:Pl)(x:NB)(d:SD)(fs:List FD)(left:Int)(t:Nat)(C:Nat->Prop)(la lo:List Ky)(rs:List dO)(bl v:Int)(r:Ending)(w w':World):Prop:=
 ((jQ x d (lM x bl))≠0/\r=.returned (.tuple #[I 0,J Z 0 0,I (jQ x d (lM x bl))])/\dP w' P x d fs left (eB t) C la lo rs/\dR C C w w')∨((jQ x d (lM x bl))=0/\tW P x d fs left t C la rs bl v r w w')
def SD.bk(d:SD)(i:Int):Int:=if i=0 then d.b0 else if i=1 then d.b1 else if i=2 then d.b2 else if i=3 then d.b3 else 0
def KR(hSO:fB)(hBW:fH)(hBS:fI)(P:Pl)(x:NB)(d:SD)(fs:List FD)(left:Int)(t:Nat)(C:Nat->Prop)(la lo:List Ky)(rs:List dO)(bl:Int)(v:Int)(X:i_ v)(w:World)(h:dP w P x d fs left (eB t) C la lo rs)(N:BG t d)(O:t+1<=20000000)(n:2<=x.2/\x.2<=5)(H:0<=x.id/\x.id<x.2)(a0:1<=x.nb/\x.nb<=4)(U:e_ d.last)(hS:0<=d.ek.S/\d.ek.S<=31)(q:0<=x.ops/\x.ops<=1000000000)(z:rs.length<=20000000):Calls pG 142 #[P0 (Y ⟨P.Nd,0,Z⟩),I bl,I v] w λr w'=>zO P x d fs left t C la lo rs bl v r w w':=by
 have L:=dF h;have R:=dF h.blk;have o:=dF N;have f:=dF (EX P.Nd x bl w h.blk);have b:=dF (yR P x d fs left (eB t) C la lo rs (lM x bl) w h);obtain⟨e,E⟩:∃y,(jQ x d (lM x bl))=y:=⟨_,rfl⟩;rw[E]at b;have k:=dF E;clear h N E;go_enter func142,ntmps142;go_wp2_with fail;refine f.mono ?_;rintro r wv ⟨rfl,s⟩;obtain rfl:=s.symm;go_wp2_with fail;refine b.mono ?_;rintro r w2 ⟨rfl,a⟩;have g:=dF (L.later a);have j:=dF a;clear a f b L R;by_cases m:e=0;case neg=>
  have F:Hid ((jQ x d (lM x bl))≠0):=by unfold Hid;rw[k.out];exact m
  have W:(e != 0)=true:=by simpa using m
  clear m;go_wp2;refine bodyPost_ret (v:=.tuple #[I 0,J Z 0 0,I e]) (by simp[results,results142,go_sem]) rfl (.inl ⟨F,by rw[k.out],g,.of_below j⟩)
 subst m;obtain⟨u,_,c,V,_,_⟩:=tJ k;have Q:0<=bl/\bl<x.nb:=by unfold lM at c;simpa using c
 clear c;go_wp2_with fail;refine(AP hSO hBW hBS P x d fs left t C la lo rs bl v w2 g o O u n H oG X oG hS q z).mono ?_;rintro r w3 M;have K:=dF (M.pre j);rcases M with⟨rfl,_⟩|⟨l,B,rfl,i,_⟩;·go_wp2;refine bodyPost_ret (v:=.tuple #[I 0,J Z 0 0,I 3]) (by simp[results,results142,go_sem]) rfl (.inr ⟨k,K⟩)
 obtain⟨p,A,D,rfl⟩:=i.shape;clear i;go_wp2;refine bodyPost_ret (v:=.tuple #[I (x.ops+1),J p A D,I 0]) (by simp[results,results142,go_sem]) rfl (.inr ⟨k,K⟩)
def MK(hSO:fB)(hBW:fH)(hBS:fI)(P:Pl)(x:NB)(d:SD)(fs:List FD)(left:Int)(t:Nat)(C:Nat->Prop)(la lo:List Ky)(rs:List dO)(bl:Int)(q:∀i,0<=i->i<4->-9223372036854775808<=d.bk i/\d.bk i<=9223372036854775807)(w:World)(h:dP w P x d fs left (eB t) C la lo rs)(hB:BG t d)(ht:t+1<=20000000)(s:2<=x.2/\x.2<=5)(N:0<=x.id/\x.id<x.2)(a8:1<=x.nb/\x.nb<=4)(a4:e_ d.last)(hS:0<=d.ek.S/\d.ek.S<=31)(Q:0<=x.ops/\x.ops<=1000000000)(U:rs.length<=20000000):Calls pG 141 #[P0 (Y ⟨P.Nd,0,Z⟩),I bl] w λr w'=>zO P x d fs left t C la lo rs bl (d.bk bl) r w w':=by
 have HF:=dF h;have HN:=dF h.blk;have u:=dF hB;have m:=dF (EX P.Nd x bl w h.blk);have g:=dF (yR P x d fs left (eB t) C la lo rs (lM x bl) w h);obtain⟨e,M⟩:∃y,(jQ x d (lM x bl))=y:=⟨_,rfl⟩;rw[M]at g;have o:=dF M;clear h hB M;go_enter func141,ntmps141;go_wp2_with fail;refine m.mono ?_;rintro r wv ⟨rfl,E⟩;obtain rfl:=E.symm;go_wp2_with fail;refine g.mono ?_;rintro r w2 ⟨rfl,f⟩;have a:=dF (HF.later f);have c:=dF f;clear f m g HF HN;by_cases p:e=0;case neg=>
  have X:Hid ((jQ x d (lM x bl))≠0):=by unfold Hid;rw[o.out];exact p
  have a7:(e != 0)=true:=by simpa using p
  clear p;go_wp2;refine bodyPost_ret (v:=.tuple #[I 0,J Z 0 0,I e]) (by simp[results,results141,go_sem]) rfl (.inl ⟨X,by rw[o.out],a,.of_below c⟩)
 subst p;obtain⟨R,_,b,a6,_,_⟩:=tJ o;have a5:0<=bl/\bl<x.nb:=by unfold lM at b;simpa using b
 clear b;obtain⟨A,hA,L,k⟩:=a.1;obtain⟨vr,va,h1,h2,h3⟩:=hA.ex;have V:=dF (C0 P.low x.St d vr P.Mp P.D w2 h1);have O:=dF a.blk;have n3:=O.cell 3;simp at n3;clear hA h1 h2 h3 L k;have a2:∀w',Sem.run pG (Instr.index 194 (Value.agg #[I d.b0,I d.b1,I d.b2,I d.b3]) (I 0)) w'=.ok (I d.b0) w':=λ_=>rfl;have a0:∀w',Sem.run pG (Instr.index 194 (Value.agg #[I d.b0,I d.b1,I d.b2,I d.b3]) (I 1)) w'=.ok (I d.b1) w':=λ_=>rfl;have a1:∀w',Sem.run pG (Instr.index 194 (Value.agg #[I d.b0,I d.b1,I d.b2,I d.b3]) (I 2)) w'=.ok (I d.b2) w':=λ_=>rfl;have a3:∀w',Sem.run pG (Instr.index 194 (Value.agg #[I d.b0,I d.b1,I d.b2,I d.b3]) (I 3)) w'=.ok (I d.b3) w':=λ_=>rfl;have h5:bl=0∨bl=1∨bl=2∨bl=3:=oG;rcases h5 with rfl|rfl|rfl|rfl;all_goals
  go_wp2_with fail
  refine V.mono ?_
  rintro r w3 ⟨rfl,j⟩
  have W:=dF (a.later j);have F:Hid (Bw w w3):=c.trans (j.mono c.size)
  clear j
  go_wp2_with fail
  refine(AP hSO hBW hBS P x d fs left t C la lo rs _ _ w3 W u ht R s N ?_ ?_ oG hS Q U).mono ?_
  ·omega
  ·first|exact q 0 oG oG|exact q 1 oG oG|exact q 2 oG oG|exact q 3 oG oG
  rintro r w4 hq
  have HQ:=dF (hq.pre F)
  rcases hq with⟨rfl,_⟩|⟨l,B,rfl,n,_⟩
  ·go_wp2
   refine bodyPost_ret (v:=.tuple #[I 0,J Z 0 0,I 3]) (by simp[results,results141,go_sem]) rfl (.inr ⟨o,HQ⟩)
  obtain⟨z,H,K,rfl⟩:=n.shape
  clear n
  go_wp2
  refine bodyPost_ret (v:=.tuple #[I (x.ops+1),J z H K,I 0]) (by simp[results,results141,go_sem]) rfl (.inr ⟨o,HQ⟩)
def ML(P:Pl)(x:NB)(d:SD)(fs:List FD)(left:Int)(L:Nat)(C:Nat->Prop)(la lo:List Ky)(rs:List dO)(w:World)(h:dP w P x d fs left L C la lo rs):Calls pG 129 #[P0 (Y ⟨P.Nd,0,Z⟩)] w λr w'=>r=.returned x.res/\dP w' P ({x with res:=J Z 0 0}:NB) d fs left L C la lo []/\w'.ownsRow P.low 76 5 x.res rs.length (rs.flatMap dO.cells)/\dR C C w w':=by
 have i:=dF h.blk;have n:=i.cell 39;simp at n;have p:=i.free 39;have a:Hid (dM P.Nd w (w.setCell ⟨P.Nd,39,Z⟩ (J Z 0 0))):=dM.setCell w ⟨P.Nd,39,Z⟩ _;have j:Hid (dI (w.setCell ⟨P.Nd,39,Z⟩ (J Z 0 0)) P.Nd ({x with res:=J Z 0 0}:NB).arr 192):=by have b:=i.set 39 (J Z 0 0);unfold Hid;simpa using b
 have f:dQ (λg=>g=P.Nd) w (w.setCell ⟨P.Nd,39,Z⟩ (J Z 0 0)):=⟨a.os,a.tape,a.output,by rw[a.size];exact Nat.le_refl _,λk f t=>a.block k t⟩;have u:=dF (wW h.row i dG f);have l:=h.reset (x':=({x with res:=J Z 0 0}:NB)) (la':=la) (lo':=lo) (rs':=[]) f j rfl (λg e=>by
  rcases e with b|b|b;·exact .inl (.inl b)
  ·exact .inl (.inr (.inl b))
  ·simp[Value.ownBlock]at b) (h.an.pz i f) (h.oa.pz i f) h.ne (World.ownsRow_nil _ _ _ _)
 have q:Hid (dP (w.setCell ⟨P.Nd,39,Z⟩ (J Z 0 0)) P ({x with res:=J Z 0 0}:NB) d fs left L C la lo []):=by
  obtain⟨A,v,s,z⟩:=h.1;have o:∀g,(({x with res:=J Z 0 0}:NB):NB).own g->x.own g:=λg e=>by
   rcases e with b|b|b;·exact .inl b
   ·exact .inr (.inl b)
   ·simp[Value.ownBlock]at b
  exact⟨⟨A,v.nodeK f j rfl,s,λg e=>z g (o g e)⟩,l.1.an,l.1.oa,l.1.ne,l.1.row,λg e=>h.6 g (o g e),λg e=>⟨(h.lt g e).1,Nat.lt_of_lt_of_le (h.lt g e).2 f.size⟩⟩
 have y:Hid (dR C C w (w.setCell ⟨P.Nd,39,Z⟩ (J Z 0 0))):=.node a h.nC;clear l f;obtain⟨B,rc,c⟩:=eK h.row;rw[c]at n;have m:=dF c;clear h c;go_enter func129,ntmps129;go_wp2;go_ret;exact⟨by rw[m.out];rfl,q,u,y⟩
def iA.two{w:World}{base:Nat}{ps:List (Int×List UInt8)}{cs:List Value}(h:iA w base ps cs):cs.length=ps.length*2/\∀u∈cs,u.oneCell'=true:=by
 induction h using iA.ind with
 |nil=>exact⟨rfl,λu b=>by cases b⟩
 |cons h1 h2 ih=>
  refine⟨by simp[ih.1];omega,λu b=>?_⟩;rcases List.mem_cons.1 b with rfl|b;·rfl
  rcases List.mem_cons.1 b with rfl|b;·obtain⟨a,c,rfl⟩:=eK h1;rfl
  ·exact ih.2 u b
section
variable {w w' w1:World} {P:Pl} {x:NB} {d:SD} {fs:List FD} {left:Int} {L:Nat} {A C C':Nat->Prop} {la lo:List Ky} {rs:List dO}
def dP.pkt(h:dP w P x d fs left L C la lo rs)(hs:w.1.size<=w'.1.size)(k:∀g,g<w.1.size->(∀b,w.1[g]?≠some (.cells b 172 (0,0)))->w'.1[g]?=w.1[g]?)(M:dY w'):dP w' P x d fs left L C la lo rs:=by
 obtain⟨A,f,z,N⟩:=h.1;obtain⟨vr,F,j,i,Q⟩:=f.ex;have blk:∀{X cs ty},dI w X cs ty->ty≠172->w'.1[X]?=w.1[X]?:=λu p=>k _ u.lt (λb a=>by rw[u.blk]at a;simp at a;exact p a.2);have row:∀{base e size n v xs},w.ownsRow base e size v n xs->e≠172->∀g,v.ownBlock=some g->w'.1[g]?=w.1[g]?:=λt p g c=>k g (t.lt g c).2 (λb a=>by obtain⟨R,m⟩:=fC t c;rw[m]at a;simp at a;exact p a.2);have map:∀{o l},iP w o l->iP w' o l:=λq=>q.same (λg c=>k g (q.lt c) (λb a=>by
  rcases q with⟨m,_⟩|⟨B,m,y⟩;·rw[m]at c;cases c
  ·rw[m]at c;cases c;obtain⟨es,r,s,_⟩:=y.1;rw[s]at a;simp at a))
 have O:w'.1[P.D]?=w.1[P.D]?:=k _ (f.lt _ f.pd) (λb a=>by rw[i.hands.d]at a;simp at a);have E:w'.1[P.H]?=w.1[P.H]?:=k _ (f.lt _ f.ph) (λb a=>by rw[i.hands.h]at a;simp at a);have hS:w'.1[P.S]?=w.1[P.S]?:=k _ i.ds.lt (λb a=>by rw[i.ds.st]at a;simp at a);have K:w'.1[P.Mp]?=w.1[P.Mp]?:=k _ j.jg.lt (λb a=>by obtain⟨es,r,s,_⟩:=j.jg.1;rw[s]at a;simp at a);refine⟨⟨A,⟨f.blk.same (blk f.blk dG),⟨vr,F,⟨j.blk.same (blk j.blk dG),dW j.ji (row j.ji dG),j.jg.same K⟩,⟨i.hands.later O E,i.ds.kept hS (row i.ds.row dG),i.dS,i.hS,i.lf,i.fl,i.bd⟩,Q⟩,f.nd,f.pd,f.ph,f.two,λg c=>Nat.lt_of_lt_of_le (f.lt g c) hs,Nat.le_trans f.low hs,M⟩,z,N⟩,map h.an,map h.oa,h.ne,dW h.row (row h.row dG),h.6,λg c=>⟨(h.lt g c).1,Nat.lt_of_lt_of_le (h.lt g c).2 hs⟩⟩
end
def oU(x:NB)(d:SD)(lo:List Ky):List (Int×List UInt8):=bif decide (0<x.on) then fZ (gW d.ek.S x.id x.ow.e x.ow.q lo x.2.toNat) (gR x.ow.k x.id x.ow.e x.ow.b x.ow.wa x.ow.p x.ow.s x.ow.q x.ow.bl x.ow.v []) x.2.toNat else[]
def sJ(x:NB)(d:SD):List (Int×List UInt8):=if x.ph=0 then fZ (kH x) (gR 1 x.id d.ep 0 0 0 0 0 0 0 []) x.2.toNat else if x.ph=1 then fZ (2^x.jo.toNat) (gR 9 x.id d.ep 0 0 0 0 d.last 0 0 (iJ d x.nb)) x.2.toNat else[]
def tX(P:Pl)(x:NB)(d:SD)(fs:List FD)(left:Int)(t:Nat)(C:Nat->Prop)(la lo:List Ky)(rs:List dO)(r:Ending)(w w':World):Prop:=
 (x.5=true/\r=.returned (J Z 0 0)/\dP w' P x d fs left (eB t) C la lo rs/\dR C C w w')∨
 (x.5=false/\(x.ph=0∨x.ph=1∨1000000000000<x.nb' d)/\∃l,r=.returned l/\dZ w' w.1.size l (sJ x d++oU x d lo)/\dP w' P x d fs left (eB t) C la lo rs/\dR C C w w')∨
 (x.5=false/\(2<=x.ph/\¬1000000000000<x.nb' d)/\r=.returned (J Z 0 0)/\eQ P (x.after false) d fs left t C [] [] rs (fX x d) false w w')∨
 (x.5=false/\(2<=x.ph/\¬1000000000000<x.nb' d)/\∃l B,r=.returned l/\dZ w' w.1.size l (fZ (kH x) (gR 1 x.id d.ep (x.nb' d) 0 0 0 0 0 0 []) x.2.toNat++oU x d lo)/\eQ P (jW x d B) d fs left t C [(2,d.ep,x.nb' d,x.id)] lo rs (fX x d) true w w')
def H8(d a:SD)(e:SD)(x:NB)(h:d.recs=a.recs):(d.stepM (fX x e)).ek=a.ek:=by
 have b:(d.stepM (fX x e)).recs=d.recs:=by unfold SD.stepM fX SD.step;simp
 unfold SD.ek;rw[b,h]
def KS(hSO:fB)(hBW:fH)(hBS:fI)(P:Pl)(x:NB)(d:SD)(fs:List FD)(left:Int)(t:Nat)(C:Nat->Prop)(la lo:List Ky)(rs:List dO)(B:Nat)(w:World)(h:dP w P x d fs left (eB t) C la lo rs)(hB:BG t d)(ht:t+1<=20000000)(ah:2<=x.2/\x.2<=5)(an:0<=x.id/\x.id<x.2)(aH:0<=(dJ d.3 d.ep).pr/\(dJ d.3 d.ep).pr<=1000000000000)(aD:e_ x.rf)(aB:1<=x.nb/\x.nb<=4)(aA:0<=x.jo/\x.jo<5)(aI:e_ d.last)(aN:0<=x.ph)(hS:0<=d.ek.S/\d.ek.S<=31)(ak:0<x.on->x.oa=some B)(hm:0<x.on->fP x.ow.k x.id [0,x.ow.e,x.ow.b,x.ow.wa,x.ow.p,x.ow.s,x.ow.q,x.ow.bl,x.ow.v,0]=true):Calls pG 85 #[P0 (Y ⟨P.Nd,0,Z⟩)] w λr w'=>tX P x d fs left t C la lo rs r w w':=by
 obtain⟨i0,aK,ay,aO,aE⟩:=info_parts D2;obtain⟨b1,U⟩:∃y,decide (0<x.on)=y:=⟨_,rfl⟩;have ao:=dF U;have a9:Hid (oU x d lo=bif b1 then fZ (gW d.ek.S x.id x.ow.e x.ow.q lo x.2.toNat) (gR x.ow.k x.id x.ow.e x.ow.b x.ow.wa x.ow.p x.ow.s x.ow.q x.ow.bl x.ow.v []) x.2.toNat else[]):=by unfold Hid oU;rw[U]
 have aQ:Hid (b1=true->x.oa=some B):=λM=>ak (by rw[M]at U;simpa using U);have aL:Hid (b1=true->fP x.ow.k x.id [0,x.ow.e,x.ow.b,x.ow.wa,x.ow.p,x.ow.s,x.ow.q,x.ow.bl,x.ow.v,0]=true):=λM=>hm (by rw[M]at U;simpa using U);have HF:=dF h;have HN:=dF h.blk;have j:=dF hB;have aT:=h.tabs.two;clear ak hm U;cases hup:x.5;case true=>have n4:=h.blk.cell 4;simp at n4;rw[hup]at n4;have f:=dF hup;clear h hB hup;go_enter func85,ntmps85;go_wp2;go_ret;exact .inl ⟨f,rfl,HF,.refl⟩
 have n4:=h.blk.cell 4;simp at n4;rw[hup]at n4;have ad:=dF (JO hSO hBW hBS P x d fs left t C la lo rs w h hB oG hup ah an aH aD aB aA aI aN);have f:=dF hup;clear h hB hup;go_enter func85,ntmps85;go_wp2_with fail;refine ad.mono ?_;rintro r w1 hq;clear ad;have hu:(r=.returned (J Z 0 0)/\eQ P (x.after false) d fs left t C [] [] rs (fX x d) false w w1/\2<=x.ph/\¬1000000000000<x.nb' d)∨∃l ps x' d' fs' left' L' C' la',r=.returned l/\dZ w1 w.1.size l ps/\dP w1 P x' d' fs' left' L' C' la' lo rs/\dR C C' w w1/\(x'.on=x.on/\x'.ow=x.ow/\x'.oa=x.oa/\x'.id=x.id/\x'.2=x.2)/\d'.ek=d.ek/\BG (t+1) d'/\ps.length<=5/\∀l w',dZ w' w.1.size l (ps++oU x d lo)->dP w' P x' d' fs' left' L' C' la' lo rs->dR C C' w w'->tX P x d fs left t C la lo rs (.returned l) w w':=by
  have a3:∀s b,(fZ s b x.2.toNat).length<=5:=λs b=>Nat.le_trans (uT s b _) oG;rcases hq with⟨l,u,n,z,K,o⟩|⟨l,u,n,z,K,o⟩|⟨u,⟨n,z,K,o⟩|⟨n,z,K⟩|⟨B2,l,n,z,K,o⟩⟩;·exact .inr ⟨l,_,x,d,fs,left,_,C,la,n,z,K,o,⟨rfl,rfl,rfl,rfl,rfl⟩,rfl,j.next,a3 _ _,λl w' g1 g2 g3=>.inr (.inl ⟨f,.inl u,l,rfl,by unfold sJ;rw[if_pos u];exact g1,g2,g3⟩)⟩
  ·exact .inr ⟨l,_,x,d,fs,left,_,C,la,n,z,K,o,⟨rfl,rfl,rfl,rfl,rfl⟩,rfl,j.next,a3 _ _,λl w' g1 g2 g3=>.inr (.inl ⟨f,.inr (.inl u),l,rfl,by unfold sJ;rw[if_neg oG,if_pos u];exact g1,g2,g3⟩)⟩
  ·exact .inr ⟨_,[],x,d,fs,left,_,C,la,z,dZ.nil _ _,K,o,⟨rfl,rfl,rfl,rfl,rfl⟩,rfl,j.next,sG,λl w' g1 g2 g3=>.inr (.inl ⟨f,.inr (.inr n),l,rfl,by unfold sJ;rw[if_neg oG,if_neg oG];exact g1,g2,g3⟩)⟩
  ·exact .inl ⟨z,K,u,n⟩
  ·obtain⟨fs',left',d1,C',q1,q2,q3⟩:=o;exact .inr ⟨l,_,jW x d B2,d1.stepM (fX x d),fs',left',_,C',_,z,K,q2,q3,⟨rfl,rfl,rfl,rfl,rfl⟩,H8 d1 d d x q1.same.2.1,j.step q1 (by have M:=j.ne;have h8:=j.recs;unfold fX SD.ep;dsimp only;omega),a3 _ _,λl w' g1 g2 g3=>.inr (.inr (.inr ⟨f,⟨u,n⟩,l,B2,rfl,g1,fs',left',d1,C',q1,g2,g3⟩))⟩
 clear hq;rcases hu with⟨rfl,W,u,n⟩|⟨l,ps,x',d',fs',left',L',C',la',rfl,a8,W,hx,a6,hl,al,aV,N⟩;·have F:=W.at.cell 25;simp[NB.after,NB.stand]at F;have HQ:Hid (tX P x d fs left t C la lo rs (.returned (J Z 0 0)) w w1):=.inr (.inr (.inl ⟨f,⟨u,n⟩,rfl,W⟩));clear W u n;go_wp2;go_ret;exact HQ
 obtain⟨ax,aC,aF,rfl⟩:=a8.shape;have V:=dF a8;have D:=dF W;have a0:=dF hx;have c:=dF a6;have HL:=dF hl;have ai:=dF al;have L:=dF N;have F:=W.blk.cell 25;simp at F;rw[a6.1]at F;have aG:=hx.kept.size;clear a8 W hx a6 hl al N;cases b1;·have aR:decide (0<x.on)=false:=ao.out;have HQ:Hid (tX P x d fs left t C la lo rs (.returned (J ax aC aF)) w w1):=L.out _ w1 (by rw[a9.out];simpa using V.out) D a0;clear L;go_wp2;go_ret;exact HQ
 have aR:decide (0<x.on)=true:=ao.out;go_wp2_with fail;refine(BX P x' d' fs' left' L' (t+1) C' la' lo rs B w1 D ai ht (by rw[c.2.2.2.2];exact ah) (by rw[c.2.2.2.2,c.2.2.2.1];exact an) (by rw[c.2.2.1];exact aQ.out (by trivial)) (by rw[HL.out];exact hS) (by rw[c.2.1,c.2.2.2.1];exact aL.out (by trivial))).mono ?_;rintro r w2 ⟨l2,rfl,H,E⟩;rw[HL.out,c.2.1,c.2.2.2.1,c.2.2.2.2]at H;obtain⟨aW,aY,aX,rfl⟩:=H.shape;have aa:=dF (H.mono aG);have ar:=dF (D.later E);have m:=dF (a0.later E);have af:=dF (V.later E);have Q:=m.kept.size;clear H E V D a0;obtain⟨ag,R,aq⟩:=af.out;obtain⟨ap,O,aj⟩:=aa.out;have aU:(fZ (gW d.ek.S x.id x.ow.e x.ow.q lo x.2.toNat) (gR x.ow.k x.id x.ow.e x.ow.b x.ow.wa x.ow.p x.ow.s x.ow.q x.ow.bl x.ow.v []) x.2.toNat).length<=5:=Nat.le_trans (uT _ _ _) oG;generalize fZ (gW d.ek.S x.id x.ow.e x.ow.q lo x.2.toNat) (gR x.ow.k x.id x.ow.e x.ow.b x.ow.wa x.ow.p x.ow.s x.ow.q x.ow.bl x.ow.v []) x.2.toNat=ae at*;obtain⟨a1,c1,aS⟩:=eK R;obtain⟨a2,c2,aJ⟩:=eK O;cases aS;cases aJ;have X:=dF R;have az:=dF O;have aP:=dF aq;have ab:=dF aj;clear R O aq aj;have au:=ab.two;go_wp2_with(at_builtin;go_loud (refine wD rfl _ _ 118 rfl w.1.size 172 i0 (.agg #[I 0,J Z 0 0]) 2 32 underlying118 aK ay aO aE rfl dG _ ps.length ag rfl X _ ae.length ap rfl (fM.ig az) au.1 au.2 xG oG Q ?_));intro v' w3 a5 a;obtain⟨aM,aw,rfl⟩:=eK a5;have a7:∀g,g<w2.1.size->(∀i,w2.1[g]?≠some (.cells i 172 (0,0)))->w3.1[g]?=w2.1[g]?:=λg hg av=>a.block g hg (λhh=>by obtain⟨i,M⟩:=fC X hh.symm;exact av i M);have o:∀g i,w.1.size<=g->w2.1[g]?=some (.cells i 5 (0,0))->w3.1[g]?=w2.1[g]?:=λg i _ hg=>a7 g (nM hg) (λc9 M=>by rw[hg]at M;simp at M);have a4:∀g,g<w.1.size->w3.1[g]?=w2.1[g]?:=λg hg=>a.block g (Nat.lt_of_lt_of_le hg Q) (λhh=>by have:=(X.lt g hh.symm).1;omega);have ac:dR C C' w w3:=⟨⟨a.os.trans m.kept.os,a.tape.trans m.kept.tape,a.output.trans m.kept.output,Nat.le_trans Q a.size,λk hk hA=>(a4 k hk).trans (m.kept.block k hk hA)⟩,m.2⟩;have am:dY w3:=ar.tabs.kept (A:=λg=>¬g<2) ⟨a.os,a.tape,a.output,a.size,λk hk hA=>a4 k oG⟩ oG oG;have HQ:Hid (tX P x d fs left t C la lo rs (.returned (J aM (ps.length+ae.length) aw)) w w3):=L.out _ w3 (by rw[a9.out];refine⟨ag++ap,?_,(aP.same o).append (ab.same o)⟩;rw[List.length_append];exact a5) (ar.pkt a.size a7 am) ac
 clear a7 o a4 ac am a a5 L;go_wp2;go_ret;exact HQ
end Go.Proofs.YtdcainmlcpafbaaGreatDoor
