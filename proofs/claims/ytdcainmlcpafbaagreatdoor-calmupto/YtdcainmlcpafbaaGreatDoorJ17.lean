import Derived.Test.YtdcainmlcpafbaaGreatDoorJ16
set_option linter.all false
set_option maxHeartbeats 8000000
set_option maxRecDepth 20000
namespace Go.Proofs.YtdcainmlcpafbaaGreatDoor
open Go.RowKit
open Value renaming slice->J,pointer->P0
open Tryz
open Tryz renaming prog->pG
open IntKind renaming i64->T
open Option renaming none->Z,some->Y
open Obj renaming cells->G
open Value (bool)
def FX(R:SD->List FD->Int->Nat->Prop)(P:Pl)(x:NB)(C:Nat->Prop)(la lo:List Ky)(rs:List dO)(w w':World):Prop:=∃d' fs' left' L' C',R d' fs' left' L'/\dP w' P x d' fs' left' L' C' la lo rs/\dR C C' w w'
def pT(nd:Bool)(d:SD)(fs:List FD)(left:Int)(t:Nat)(m:dN)(d':SD)(fs':List FD)(left':Int)(L':Nat):Prop:=(nd=false/\d'=d/\fs'=fs/\left'=left/\L'=eB t)∨(nd=true/\∃d1,mB d fs left m true fs' left' d1/\d'=d1.stepM m/\L'=eB (t+1))
section
variable {w w0 w1 w2 w3:World} {P:Pl} {x x':NB} {R:SD->List FD->Int->Nat->Prop} {C C':Nat->Prop} {la lo la' lo':List Ky} {rs rs':List dO}
def FX.pre(h:FX R P x C la lo rs w0 w1)(e:Bw w w0):FX R P x C la lo rs w w1:=by obtain⟨d',fs',left',L',c,d,a,b⟩:=h;exact⟨d',fs',left',L',c,d,a,b.pre e⟩
def FX.chain(h:FX R P x C' la lo rs w1 w2)(e:dR C C' w w1):FX R P x C la lo rs w w2:=by obtain⟨d',fs',left',L',c,d,a,b⟩:=h;exact⟨d',fs',left',L',c,d,a,e.trans b⟩
def FX.later(h:FX R P x C la lo rs w w1)(a:Bw w1 w2):FX R P x C la lo rs w w2:=by obtain⟨d',fs',left',L',d,e,b,c⟩:=h;exact⟨d',fs',left',L',d,e,b.later a,c.later a⟩
def FX.at(h:FX R P x C la lo rs w w1):dI w1 P.Nd x.arr 192:=by obtain⟨d',fs',left',L',c,d,a,b⟩:=h;exact a.blk
def FX.tabs(h:FX R P x C la lo rs w w1):dY w1:=by obtain⟨d',fs',left',L',c,d,a,b⟩:=h;exact a.tabs
def FX.size(h:FX R P x C la lo rs w w1):w.1.size<=w1.1.size:=by obtain⟨d',fs',left',L',c,d,b,a⟩:=h;exact a.kept.size
def FX.lt(h:FX R P x C la lo rs w w1){g:Nat}(b:x.own g):g<w1.1.size:=by obtain⟨d',fs',left',L',d,e,a,c⟩:=h;exact(a.lt g (a.6 g b)).2
def FX.oa(h:FX R P x C la lo rs w w1)(d:dQ (λg=>g=P.Nd) w1 w3):iP w3 x.oa lo:=by
 obtain⟨d',fs',left',L',k,l,b,j⟩:=h;have i:=b.blk;exact b.oa.same (λg a=>d.block g (b.oa.lt a) (λe=>by
  rcases b.oa with⟨c,_⟩|⟨B,c,f⟩;·rw[c]at a;cases a
  ·rw[c]at a;cases a;exact f.ne i e))
def FX.row(h:FX R P x C la lo rs w w1)(e:dQ (λg=>g=P.Nd) w1 w3):w3.ownsRow P.low 76 5 x.res rs.length (rs.flatMap dO.cells):=by obtain⟨d',fs',left',L',k,l,a,j⟩:=h;have i:=a.blk.blk;exact dW a.row (λg c=>e.block g (a.row.lt g c).2 (λf=>by obtain⟨d,b⟩:=fC a.row c;rw[f,i]at b;simp at b))
def FX.reset(h:FX R P x C la lo rs w w1)(k:dQ (λg=>g=P.Nd) w1 w3)(i:dI w3 P.Nd x'.arr 192)(hs:x'.St=x.St)(b:∀g,x'.own g->x.own g∨w1.1.size<=g)(e:iP w3 x'.an la')(c:iP w3 x'.oa lo')(d:∀g,x'.an=some g->x'.oa≠some g)(a:w3.ownsRow P.low 76 5 x'.res rs'.length (rs'.flatMap dO.cells)):FX R P x' C la' lo' rs' w w3:=by obtain⟨d',fs',left',L',o,j,m,n⟩:=h;obtain⟨f,l⟩:=m.reset k i hs b e c d a;exact⟨d',fs',left',L',_,j,f,n.trans l⟩
def FX.lu{B:Nat}{d:List Ky}(h:FX R P x C la lo rs w w1)(e:x.an=some B)(b:dQ (λg=>g=B) w1 w2)(f:gH w2 B d):FX R P x C d lo rs w w2:=by obtain⟨d',fs',left',L',j,k,c,i⟩:=h;exact⟨d',fs',left',L',j,k,c.lu e b f,i.trans ⟨b.wide (λg a=>a ▸ c.6 B (.inl e)),λ_ a=>.inl a⟩⟩
end
def dV(x:NB):NB:=bif decide (0<x.fo.wa) then{x with gP:=x.fo.p,gS:=x.fo.s} else x
def gG(x:NB)(d:SD):dN:=⟨3,0,d.ep,x.ba,0,(dV x).gP,(dV x).gS,0,0,0,none,0,[]⟩
def qM(x:NB)(B:Nat):NB:={dV x with ph:=3,an:=some B}
def mZ(x:NB)(d:SD):List Ky:=bif (eP d 3 d.ep x.ba).k==4 then jB ((eP d 3 d.ep x.ba).k,(eP d 3 d.ep x.ba).e,max (eP d 3 d.ep x.ba).b (eP d 3 d.ep x.ba).q,x.id) [] else[]
def mN(P:Pl)(x:NB)(d:SD)(fs:List FD)(left:Int)(t:Nat)(C:Nat->Prop)(lo:List Ky)(rs:List dO)(r:Ending)(w w':World):Prop:=((jA d 3 d.ep x.ba (dV x).gP (dV x).gS=true)/\(r=.returned (J Z 0 0))/\(eQ P ((dV x).after false) d fs left t C [] [] rs (gG x d) false w w'))∨(∃B:Nat,∃l:Value,(r=.returned l)/\(dZ w' w.1.size l (fZ (kH x) (gR 3 x.id d.ep x.ba 0 (dV x).gP (dV x).gS 0 0 0 []) x.2.toNat))/\(FX (pT (jA d 3 d.ep x.ba (dV x).gP (dV x).gS) d fs left t (gG x d)) P (qM x B) C (mZ x d) lo rs w w'))
def mN.fail{P:Pl}{x:NB}{d:SD}{fs:List FD}{left:Int}{t:Nat}{C:Nat->Prop}{lo:List Ky}{rs:List dO}{r:Ending}{w w':World}(h:jA d 3 d.ep x.ba (dV x).gP (dV x).gS=true)(b:r=.returned (J Z 0 0))(a:eQ P ((dV x).after false) d fs left t C [] [] rs (gG x d) false w w'):mN P x d fs left t C lo rs r w w':=.inl ⟨h,b,a⟩
def mN.ok{P:Pl}{x:NB}{d:SD}{fs:List FD}{left:Int}{t:Nat}{C:Nat->Prop}{lo:List Ky}{rs:List dO}{r:Ending}{w w':World}(B:Nat)(l:Value)(c:r=.returned l)(a:dZ w' w.1.size l (fZ (kH x) (gR 3 x.id d.ep x.ba 0 (dV x).gP (dV x).gS 0 0 0 []) x.2.toNat))(b:FX (pT (jA d 3 d.ep x.ba (dV x).gP (dV x).gS) d fs left t (gG x d)) P (qM x B) C (mZ x d) lo rs w w'):mN P x d fs left t C lo rs r w w':=.inr (⟨B,l,c,a,b⟩)
def IR(hSO:fB)(hBW:fH)(hBS:fI)(P:Pl)(x:NB)(d:SD)(fs:List FD)(left:Int)(t:Nat)(C:Nat->Prop)(la lo:List Ky)(rs:List dO)(w0 w:World)(aH:dR C C w0 w)(h:dP w P x d fs left (eB t) C la lo rs)(hB:BG t d)(ht:t<=20000000)(b5:x.5=false)(ar:2<=x.2/\x.2<=5)(aZ:0<=x.id/\x.id<x.2)(bp:e_ x.ba)(aT:0<=(dV x).gP/\(dV x).gP<=5)(aQ:0<=(dV x).gS/\(dV x).gS<=31):Calls pG 242 #[P0 (Y ⟨P.Nd,0,Z⟩)] w λr w'=>mN P x d fs left t C lo rs r w0 w':=by
 have aC:=hB.ne;have bw:=hB.recs;have bu:=h.tabs.two;have aL:0<=x.id/\x.id<5:=oG;have aE:0<=d.ep/\d.ep<=1000000000000:=by unfold SD.ep;omega
 have ah:=dF aH;have Q:=dF h;have bh:=dF hB;have aJ:=dF b5;have aU:=h.blk.cell 17;simp at aU;clear h hB b5 aH;by_cases aj:0<x.fo.wa;have ap:decide (0<x.fo.wa)=true:=by simpa using aj
 have L:Hid (dV x=({x with gP:=x.fo.p,gS:=x.fo.s}:NB)):=by unfold Hid dV;rw[ap];rfl
 clear aj;go_enter func242,ntmps242;go_upto_region 3 with fail;have a3:=dF Q.blk.drew;have u:=a3.cell 18;have F:=a3.cell 19;simp at u F;refine l9 (S:=(λw'=>w'.cell? ⟨P.Nd,18,Z⟩=Y (I x.fo.p)/\w'.cell? ⟨P.Nd,19,Z⟩=Y (I x.fo.s))) (λ_=>?_) (hS:=⟨u,F⟩);have aY:Hid (dQ (λg=>g=P.Nd) w w.drew):=dQ.of_below (b_.drew);generalize World.drew _=Wd at*;refine dH 0 ?_;refine dH 1 ?_;refine dH 2 ?_;refine dH 3 ?_;refine dH 4 ?_;refine dH 5 ?_;refine dH 6 ?_;refine dH 7 ?_;refine dH 8 ?_;refine dH 9 ?_;refine dH 10 ?_;refine dH 11 ?_;refine dH 12 ?_;refine dH 13 ?_;refine dH 14 ?_;refine dT 15 λK i=>?_;have e8:=a3.cell 8;simp at e8;have bc:=a3.free 8;have c:dM P.Nd Wd (Wd.setCell ⟨P.Nd,8,Z⟩ (I x.fo.p)):=(dM.self P.Nd Wd).set 8 (I x.fo.p);have a4:Hid (dI (Wd.setCell ⟨P.Nd,8,Z⟩ (I x.fo.p)) P.Nd ({x with gP:=x.fo.p}:NB).arr 192):=by have f:=a3.set 8 (I x.fo.p);unfold Hid;simpa using f
 have aF:Hid (dQ (λg=>g=P.Nd) w (Wd.setCell ⟨P.Nd,8,Z⟩ (I x.fo.p))):=aY.trans (B:=λg=>g=P.Nd) ⟨c.os,c.tape,c.output,by rw[c.size];exact Nat.le_refl _,λk hk hA=>c.block k hA⟩ (λ_ O=>O) (λ_ _ O=>O);clear c;(try go_simp);generalize World.setCell _ _ _=We at*;clear e8 bc u F;have u:=a4.cell 18;have F:=a4.cell 19;simp at u F;refine k2 i (λ_=>?_) ⟨u,F⟩;clear i K;refine dH 16 ?_;refine dH 17 ?_;refine dH 18 ?_;refine dT 19 λK i=>?_;have e9:=a4.cell 9;simp at e9;have b8:=a4.free 9;have c:dM P.Nd We (We.setCell ⟨P.Nd,9,Z⟩ (I x.fo.s)):=(dM.self P.Nd We).set 9 (I x.fo.s);have ae:Hid (dI (We.setCell ⟨P.Nd,9,Z⟩ (I x.fo.s)) P.Nd ({x with gP:=x.fo.p,gS:=x.fo.s}:NB).arr 192):=by have f:=a4.set 9 (I x.fo.s);unfold Hid;simpa using f
 have aa:Hid (dQ (λg=>g=P.Nd) w (We.setCell ⟨P.Nd,9,Z⟩ (I x.fo.s))):=aF.trans (B:=λg=>g=P.Nd) ⟨c.os,c.tape,c.output,by rw[c.size];exact Nat.le_refl _,λk hk hA=>c.block k hA⟩ (λ_ O=>O) (λ_ _ O=>O);clear c;(try go_simp);generalize World.setCell _ _ _=W1 at*;clear e9 b8 u F;have u:=ae.cell 18;have F:=ae.cell 19;simp at u F;refine k2 i (λ_=>?_) ⟨u,F⟩;clear i K u F;refine dn ?_;have az:=Q.reset (x':=({x with gP:=x.fo.p,gS:=x.fo.s}:NB)) (la':=la) (lo':=lo) (rs':=rs) aa ae rfl (λg M=>.inl M) (Q.an.same (λg M=>aa.block g (Q.an.lt M) (λO=>by rcases Q.an with⟨h8,_⟩|⟨B,h8,h7⟩;rw[h8]at M;cases M;rw[h8]at M;cases M;exact h7.ne Q.blk O))) (Q.oa.same (λg M=>aa.block g (Q.oa.lt M) (λO=>by rcases Q.oa with⟨h8,_⟩|⟨B,h8,h7⟩;rw[h8]at M;cases M;rw[h8]at M;cases M;exact h7.ne Q.blk O))) Q.ne (dW Q.row (λg M=>aa.block g (Q.row.lt g M).2 (λO=>by obtain⟨bv,f⟩:=fC Q.row M;rw[O,Q.blk.blk]at f;simp at f)));have V:=dF az.1;have ag:=dF (ah.trans az.2);clear az Q a3 a4 ae aY aF aa aU ah;generalize x.fo.p=a at V L;generalize x.fo.s=b at V L;generalize W1=w at*;rotate_left;have ap:decide (0<x.fo.wa)=false:=by simpa using aj
 obtain⟨a,b,ay⟩:∃a b,x=({x with gP:=a,gS:=b}:NB):=⟨x.gP,x.gS,rfl⟩;have L:Hid (dV x=({x with gP:=a,gS:=b}:NB)):=by unfold Hid dV;rw[ap];exact ay
 clear aj;go_enter func242,ntmps242;have V:Hid (dP w P ({x with gP:=a,gS:=b}:NB) d fs left (eB t) C la lo rs):=by rw[←ay];exact Q
 have ag:=ah;clear Q ah ay;all_goals
  obtain⟨A,hA,ak,a9⟩:=V.1
  obtain⟨vr,va,h1,h2,h3⟩:=hA.ex
  have aN:Hid (eI w P.low x.St d vr P.Mp P.D):=h1
  have HA:=dF hA
  have z:=dF hA.blk
  clear hA h1 h2 h3
  have W:Bw w (w.alloc (G mz 136)).drew:=(a_ _ _).drew
  have a7:Bw w (w.alloc (G (mA 3 0 d.ep x.ba 0 a b 0 0 0 (J Z 0 0)) 136)).drew:=(a_ _ _).drew
  have ad:Bw w w.drew:=b_.drew
  go_upto_region 4 with fail
  go_cut [4] (λs4 wx=>∃X,s4=P0 (Y ⟨X,0,Z⟩)/\w.1.size<=X/\dI wx X (mA 3 0 d.ep x.ba 0 a b 0 0 0 (J Z 0 0)) 136/\Bw w wx)
  case first=>
   refine l9 (S:=(λw'=>dI w' P.Nd ({x with gP:=a,gS:=b}:NB).arr 192)) (λ_=>?_) (hS:=z.drew)
   refine dH 0 ?_;refine dH 1 ?_;refine dH 2 ?_;refine dH 3 ?_ (hy:=by intro w j;have f:=j.cell 3;simp at f;go_simp;(try with_reducible rfl));refine dH 4 ?_;refine dH 5 ?_;refine dH 7 ?_;refine dH 8 ?_;refine dH 9 ?_;refine dH 10 ?_ (hy:=by intro w j;have f:=j.cell 11;simp at f;go_simp;(try with_reducible rfl));refine dH 11 ?_;refine dH 12 ?_;refine dH 13 ?_;refine dH 14 ?_;refine dH 15 ?_ (hy:=by intro w j;have f:=j.cell 8;simp at f;go_simp;(try with_reducible rfl));refine dH 16 ?_;refine dH 17 ?_;refine dH 18 ?_;refine dH 19 ?_;refine dH 20 ?_ (hy:=by intro w j;have f:=j.cell 9;simp at f;go_simp;(try with_reducible rfl))
   refine jC [6,22] ?_
   refine .cons rfl (λK i=>?_) ?_
   ·(try go_simp)
    go_at_call 179
    refine(mG P.low x.St d vr P.Mp P.D _ (aN.later ad) aC oG).mono ?_
    rintro r w1 ⟨rfl,rfl⟩
    refine k2 i (λ_=>?_) (z.later ad);clear i K
    refine jC [21,22] ?_
    refine .cons rfl (λK i=>?_) ?_
    focus
     (try go_simp)
     refine kr i 22 (λK i=>?_) (z.later ad)
    rotate_left
    focus
     refine .cons rfl (λK i=>?_) .nil
     (try go_simp)
     refine kr i 21 (λK i=>?_) (z.later W)
    all_goals
     (try go_simp)
     refine kr i 23 (λK i=>?_) (z.later W)
     (try go_simp)
     refine kd i ?_ (z.later a7)
     go_wp2_with fail
     go_meet
     exact⟨w.1.size,rfl,Nat.le_refl _,(dI.new _ _ _).drew,a7⟩
   refine .cons rfl (λK i=>?_) .nil
   (try go_simp)
   refine kr i 6 (λK i=>?_) (z.later W)
   (try go_simp)
   go_at_call 179
   refine(mG P.low x.St d vr P.Mp P.D _ (aN.later W) aC oG).mono ?_
   rintro r w1 ⟨rfl,rfl⟩
   refine kr i 21 (λK i=>?_) (z.later W)
   (try go_simp)
   refine kr i 23 (λK i=>?_) (z.later W)
   (try go_simp)
   refine kd i ?_ (z.later a7)
   go_wp2_with fail
   go_meet
   exact⟨w.1.size,rfl,Nat.le_refl _,(dI.new _ _ _).drew,a7⟩
  case rest=>
   clear W ad a7
   obtain⟨X,rfl,hX,aX,al⟩:=hcut
   obtain⟨W3,bk⟩:∃y,y=wc:=⟨_,rfl⟩
   subst bk
   have HX:=dF aX;have a0:=dF al;have bs:=al.size;clear aX al
   have bo:¬A X:=HA.fresh hX
   have bq:=HX.cell
   go_wp2_with fail
   refine(AD hSO hBW hBS P ({x with gP:=a,gS:=b}:NB) d fs left t A 3 0 d.ep x.ba 0 a b 0 0 0 none [] 0 W3 (HA.later a0) bh ht (.inl rfl) (λ_ f=>by cases f) aE (.inr rfl) aJ).mono ?_
   rintro r R ⟨ok,b7,U⟩
   dsimp only at b7
   subst b7
   clear bq
   have b0:=dF (U.blk HX bo)
   obtain⟨nd,aB⟩:∃y,jA d 3 d.ep x.ba a b=y:=⟨_,rfl⟩
   rw[aB]at U
   have aG:Hid (jA d 3 d.ep x.ba (dV x).gP (dV x).gS=nd):=by unfold Hid;rw[L.out];exact aB
   have ax:Hid (gG x d=⟨3,0,d.ep,x.ba,0,a,b,0,0,0,none,0,[]⟩):=by unfold Hid gG;rw[L.out]
   clear aB
   by_cases a8:nd=true/\ok=false
   ·obtain⟨rfl,rfl⟩:=a8
    have aO:i2 P ((({x with gP:=a,gS:=b}:NB):NB).after false) d fs left t A (⟨3,0,d.ep,x.ba,0,a,b,0,0,0,none,0,[]⟩:dN) false W3 R:=by rcases U with⟨f,_⟩|⟨_,f⟩;cases f;exact f
    clear U
    have E:Hid (eQ P ((({x with gP:=a,gS:=b}:NB):NB).after false) d fs left t C [] [] rs (⟨3,0,d.ep,x.ba,0,a,b,0,0,0,none,0,[]⟩:dN) false w0 R):=((V.later a0).jk (x':=(({x with gP:=a,gS:=b}:NB):NB).after false) ak a9 aO rfl rfl rfl).chain (ag.later a0)
    clear aO
    generalize (bif false then eP d 3 d.ep x.ba else iO.nil)=o
    have c4:=E.at.cell 4;simp[NB.after,NB.stand]at c4
    have aA:=E.at.lt
    have a2:Hid (Bw R (R.alloc (G (mA o.k x.id o.e o.b o.wa o.p o.s o.q o.bl o.v (J Z 0 0)) 136))):=a_ _ _
    have n4:=(a2.cell (p:=⟨P.Nd,4,Z⟩) aA).trans c4
    go_wp2
    go_ret
    refine .fail aG rfl ?_
    rw[ax.out,L.out]
    exact E.later a2
   have b9:ok=true:=by
    rcases U with⟨_,f,_⟩|⟨f,_⟩
    ·exact f
    ·cases ok
     ·exact absurd ⟨f,rfl⟩ a8
     ·rfl
   subst b9
   clear a8
   have E:Hid (FX (pT nd d fs left t (gG x d)) P ({x with gP:=a,gS:=b}:NB) C la lo rs w0 R):=by
    rcases U with⟨f,_,h8,h7⟩|⟨f,h8⟩
    ·obtain⟨g1,g2⟩:=(V.later a0).turn (x':=({x with gP:=a,gS:=b}:NB)) ak a9 h8 h7 rfl rfl rfl
     exact⟨d,fs,left,eB t,_,.inl ⟨f,rfl,rfl,rfl,rfl⟩,g1,(ag.later a0).trans g2⟩
    ·have h7:=((V.later a0).saved (x':=({x with gP:=a,gS:=b}:NB)) ak a9 h8 rfl rfl rfl).chain (ag.later a0)
     obtain⟨fs',left',d1,C2,g1,g2,g3⟩:=h7
     exact⟨_,fs',left',_,C2,.inr ⟨f,d1,by rw[ax.out];exact g1,by rw[ax.out];rfl,rfl⟩,g2,g3⟩
   clear U
   generalize ho:(bif true then eP d 3 d.ep x.ba else iO.nil)=o
   have HO:Hid (o=eP d 3 d.ep x.ba):=ho.symm
   clear ho
   have c4:=E.at.cell 4;simp at c4;rw[aJ.out]at c4
   have aA:=E.at.lt
   have aK:Hid (dI (R.alloc (G (mA o.k x.id o.e o.b o.wa o.p o.s o.q o.bl o.v (J Z 0 0)) 136)) R.1.size (mA o.k x.id o.e o.b o.wa o.p o.s o.q o.bl o.v (J Z 0 0)) 136):=dI.new _ _ _
   have aR:=dF (b0.old (G (mA o.k x.id o.e o.b o.wa o.p o.s o.q o.bl o.v (J Z 0 0)) 136))
   have aI:=dF (E.at.old (G (mA o.k x.id o.e o.b o.wa o.p o.s o.q o.bl o.v (J Z 0 0)) 136))
   have a2:Hid (Bw R (R.alloc (G (mA o.k x.id o.e o.b o.wa o.p o.s o.q o.bl o.v (J Z 0 0)) 136))):=a_ _ _
   have n4:=(a2.cell (p:=⟨P.Nd,4,Z⟩) aA).trans c4
   go_upto_region 8 with fail
   generalize World.alloc _ _=n at*
   have bA:=@run_makeMap pG
   have N:=dF (aI.old (Obj.map #[] 0));have aq:=dF (aR.old (Obj.map #[] 0));have aw:=dF (aK.old (Obj.map #[] 0))
   have av:Hid (gH (n.alloc (Obj.map #[] 0)) n.1.size []):=⟨⟨#[],0,heap_alloc_new _ _,rfl⟩⟩
   have e6:=N.cell 6;have aV:=N.cell 24;simp at e6 aV
   have bn:=N.free 6;have b3:=N.free 24
   have c:dM P.Nd (n.alloc (Obj.map #[] 0)) (((n.alloc (Obj.map #[] 0)).setCell ⟨P.Nd,6,Z⟩ (I 3)).setCell ⟨P.Nd,24,Z⟩ (Value.map (some n.1.size))):=((dM.self P.Nd _).set 6 (I 3)).set 24 (Value.map (some n.1.size))
   have H:Hid (dI (((n.alloc (Obj.map #[] 0)).setCell ⟨P.Nd,6,Z⟩ (I 3)).setCell ⟨P.Nd,24,Z⟩ (Value.map (some n.1.size))) P.Nd ({({x with gP:=a,gS:=b}:NB) with ph:=3,an:=some n.1.size}:NB).arr 192):=by have f:=(N.set 6 (I 3)).set 24 (Value.map (some n.1.size));unfold Hid;simpa using f
   have a6:=dF (aq.same (c.block X (aq.ne N dG)));have a5:=dF (aw.same (c.block R.1.size (aw.ne N dG)));have a1:=dF (av.same (c.block _ (av.ne N)))
   have ai:Hid (dQ (λg=>g=P.Nd) R (((n.alloc (Obj.map #[] 0)).setCell ⟨P.Nd,6,Z⟩ (I 3)).setCell ⟨P.Nd,24,Z⟩ (Value.map (some n.1.size)))):=(dQ.of_below (A:=λ_=>False) (a2.alloc a2.size (Obj.map #[] 0))).trans (B:=λg=>g=P.Nd) ⟨c.os,c.tape,c.output,by rw[c.size];exact Nat.le_refl _,λk hk hA=>c.block k hA⟩ (λ_ O=>O.elim) (λ_ _ O=>O)
   have b2:R.1.size<=n.1.size:=a2.size
   clear c
   go_upto_region 9 with fail
   generalize World.setCell _ _ _=W7 at*
   clear e6 aV bn b3 N aq aw av aI aR aK b0 HX z
   have af:Hid (FX (pT nd d fs left t (gG x d)) P ({({x with gP:=a,gS:=b}:NB) with ph:=3,an:=some n.1.size}:NB) C [] lo rs w0 W7):=E.reset (x':=({({x with gP:=a,gS:=b}:NB) with ph:=3,an:=some n.1.size}:NB)) ai H rfl (λg M=>M.elim (λf=>.inr (by cases f;exact b2)) (λf=>.inl (.inr f))) (.inr ⟨n.1.size,rfl,a1⟩) (E.oa ai) (λg M O=>by cases M;exact absurd (E.lt (.inr (.inl O))) (Nat.not_lt.2 b2)) (E.row ai)
   have b6:n.1.size≠P.Nd:=a1.ne H
   have bi:n.1.size≠R.1.size:=a1.ne a5
   have bj:n.1.size≠X:=a1.ne a6
   have aM:=a5.cell
   obtain⟨b4,h4⟩:∃y,(o.k==4)=y:=⟨_,rfl⟩
   have bf:Hid (mZ x d=bif b4 then jB (o.k,o.e,max o.b o.q,x.id) [] else[]):=by have f:=HO.out;subst f;unfold Hid mZ;rw[h4]
   cases b4
   go_upto_region 11 with fail
   clear a1 a5 aM
   rotate_left
   go_upto_region 10 with fail
   focus go_cut [77] (λs77 wx=>gH wx n.1.size (jB (o.k,o.e,max o.b o.q,x.id) [])/\dQ (λg=>g=n.1.size) W7 wx)
   case first=>
    refine eZ (S:=(λw'=>dI w' P.Nd ({({x with gP:=a,gS:=b}:NB) with ph:=3,an:=some n.1.size}:NB).arr 192/\dI w' R.1.size (mA o.k x.id o.e o.b o.wa o.p o.s o.q o.bl o.v (J Z 0 0)) 136)) (λ_=>?_) (hS:=⟨H.drew,a5.drew⟩)
    refine dH 0 ?_;refine dH 1 ?_;refine dH 2 ?_;refine dH 3 ?_ (hy:=by intro w j;have f:=j.1.cell 24;simp at f;go_simp;(try with_reducible rfl));refine i4 4 R.1.size 0 [I o.k,I x.id,I o.e,I o.b,I o.wa,I o.p,I o.s,I o.q,I o.bl,I o.v,J Z 0 0] ?_ (λw j=>j.2.range rfl)
    refine dT 5 λK i=>?_
    (try go_simp)
    go_at_call 188
    refine(uO n.1.size [] o.k x.id o.e o.b o.wa o.p o.s o.q o.bl o.v none 0 0 W7.drew ⟨a1.1⟩).mono ?_
    rintro r wv ⟨rfl,ab,m⟩
    have br:=dF (m.jv a5.drew (Ne.symm bi));have bm:=dF (m.jv H.drew (Ne.symm b6))
    refine kd i ?_ ⟨bm,br⟩
    go_wp2_with fail
    go_meet
    exact⟨ab,⟨m.os,m.tape,m.output,m.size,m.block⟩⟩
   obtain⟨ab,m⟩:=hcut
   obtain⟨Wa,bb⟩:∃y,y=wc:=⟨_,rfl⟩
   subst bb
   have aW:=dF (m.jv a6 (Ne.symm bj));have aP:=dF (m.jv H (Ne.symm b6))
   have aD:=dF (af.lu rfl m ab)
   clear ab m a6 H af a1 a5 ai aM
   have a6:=aW;have H:=aP;have af:=aD
   clear aW aP aD
   generalize Wa=W7 at*
   go_upto_region 11 with fail
   all_goals
    refine eZ (S:=(λw'=>dI w' X (mA 3 0 d.ep x.ba 0 a b 0 0 0 (J Z 0 0)) 136)) (λ_=>?_) (hS:=a6.drew)
    refine dH 0 ?_;refine dH 1 ?_;refine i4 3 X 0 [I 3,I 0,I d.ep,I x.ba,I 0,I a,I b,I 0,I 0,I 0,J Z 0 0] ?_ (λw j=>j.range rfl)
    refine dT 2 λK i=>?_
    (try go_simp)
    go_at_call 178
    have y0:=H.drew.cell 0;have y1:=H.drew.cell 1;simp at y0 y1
    refine(uL P.Nd x.id x.2 W7.drew y0 y1 ar aZ).mono ?_
    rintro r wv ⟨rfl,nq,rfl⟩
    have ac:Bw W7 (W7.drew.drewN nq):=b_.drew.trans (below_drewN b_ _)
    have aS:=dF (a6.later ac);have ao:=dF (H.later ac);have au:=dF (af.later ac);have be:=dF au.tabs
    clear ac
    generalize World.drewN _ _=W8 at*
    refine k1 i (λ_=>?_) aS
    clear i K y0 y1
    refine dT 4 λK i=>?_
    (try go_simp)
    go_at_call 140
    have y0:=ao.cell 0;have y1:=ao.cell 1;simp at y0 y1
    refine(pE P.Nd x.id x.2 (kH x) 3 0 d.ep x.ba 0 a b 0 0 0 none [] 0 W8 y0 y1 ao.lt be (.inl rfl) ⟨oG,ar.2⟩ (uU _ _ ar aZ) (vT x.id d.ep x.ba a b aL aE bp (by rw[L.out]at aT;exact aT) (by rw[L.out]at aQ;exact aQ))).mono ?_
    rintro r w9 ⟨l,rfl,hl,am⟩
    obtain⟨bt,bx,bz,rfl⟩:=hl.shape
    have b1:=dF (aS.later am);have bg:=dF (au.later am);have bd:=dF (hl.mono au.size)
    clear hl am
    refine kr i 5 (λK i=>?_) b1
    (try go_simp)
    refine kd i ?_ b1
    go_wp2
    go_ret
    refine .ok n.1.size _ rfl ?_ ?_
    ·rw[L.out];exact bd
    ·rw[aG.out,bf.out];unfold qM;rw[L.out];exact bg
def IS(hSO:fB)(hBW:fH)(hBS:fI)(P:Pl)(x:NB)(d:SD)(fs:List FD)(left:Int)(t:Nat)(C:Nat->Prop)(la lo:List Ky)(rs:List dO)(w:World)(h:dP w P x d fs left (eB t) C la lo rs)(j:BG t d)(i:t<=20000000)(b:x.5=false)(a:2<=x.2/\x.2<=5)(f:0<=x.id/\x.id<x.2)(c:e_ x.ba)(g:0<=(dV x).gP/\(dV x).gP<=5)(e:0<=(dV x).gS/\(dV x).gS<=31):
  Calls pG 242 #[P0 (Y ⟨P.Nd,0,Z⟩)] w λr w'=>mN P x d fs left t C lo rs r w w':=IR hSO hBW hBS P x d fs left t C la lo rs w w .refl h j i b a f c g e
def mN.pre{P:Pl}{x:NB}{d:SD}{fs:List FD}{left:Int}{t:Nat}{C:Nat->Prop}{lo:List Ky}{rs:List dO}{r:Ending}{w w1 w':World}(h:mN P x d fs left t C lo rs r w1 w')(c:dR C C w w1):mN P x d fs left t C lo rs r w w':=by
 rcases h with⟨f,a,b⟩|⟨B,l,a,b,e⟩;·exact .fail f a (b.chain c)
 ·exact .ok B l a (b.mono c.kept.size) (e.chain c)
def gV(x:NB)(k f e b wa p s q bl v:Int):NB:=bif decide (x.fo.wa<wa) then({x with fo:=⟨k,f,e,b,wa,p,s,q,bl,v⟩}:NB) else x
def pY(P:Pl)(x:NB)(d:SD)(fs:List FD)(left:Int)(t:Nat)(C:Nat->Prop)(la lo:List Ky)(rs:List dO)(k f e b wa p s q bl v:Int)(r:Ending)(w w':World):Prop:=(((gT x d e b 2&&!decide (iU k f e b q∈la))=false)/\(r=.returned (J Z 0 0))/\(dP w' P x d fs left (eB t) C (iV x d la k f e b q 2) lo rs)/\(dR C C w w'))∨((kO x d la k f e b q 2=false)/\((gT x d e b 2&&!decide (iU k f e b q∈la))=true)/\(r=.returned (J Z 0 0))/\(dP w' P (gV x k f e b wa p s q bl v) d fs left (eB t) C (iV x d la k f e b q 2) lo rs)/\(dR C C w w'))∨((kO x d la k f e b q 2=true)/\(mN P (gV x k f e b wa p s q bl v) d fs left t C lo rs r w w'))
def pY.no{P:Pl}{x:NB}{d:SD}{fs:List FD}{left:Int}{t:Nat}{C:Nat->Prop}{la lo:List Ky}{rs:List dO}{k f e b wa p s q bl v:Int}{r:Ending}{w w':World}(h:(gT x d e b 2&&!decide (iU k f e b q∈la))=false)(c:r=.returned (J Z 0 0))(a:dP w' P x d fs left (eB t) C (iV x d la k f e b q 2) lo rs)(g:dR C C w w'):pY P x d fs left t C la lo rs k f e b wa p s q bl v r w w':=.inl ⟨h,c,a,g⟩
def pY.few{P:Pl}{x:NB}{d:SD}{fs:List FD}{left:Int}{t:Nat}{C:Nat->Prop}{la lo:List Ky}{rs:List dO}{k f e b wa p s q bl v:Int}{r:Ending}{w w':World}(h:kO x d la k f e b q 2=false)(c:(gT x d e b 2&&!decide (iU k f e b q∈la))=true)(g:r=.returned (J Z 0 0))(a:dP w' P (gV x k f e b wa p s q bl v) d fs left (eB t) C (iV x d la k f e b q 2) lo rs)(i:dR C C w w'):pY P x d fs left t C la lo rs k f e b wa p s q bl v r w w':=.inr (.inl ⟨h,c,g,a,i⟩)
def pY.go{P:Pl}{x:NB}{d:SD}{fs:List FD}{left:Int}{t:Nat}{C:Nat->Prop}{la lo:List Ky}{rs:List dO}{k f e b wa p s q bl v:Int}{r:Ending}{w w':World}(h:kO x d la k f e b q 2=true)(a:mN P (gV x k f e b wa p s q bl v) d fs left t C lo rs r w w'):pY P x d fs left t C la lo rs k f e b wa p s q bl v r w w':=.inr (.inr (⟨h,a⟩))
def H5(hSO:fB)(hBW:fH)(hBS:fI)(P:Pl)(x:NB)(d:SD)(fs:List FD)(left:Int)(t:Nat)(C:Nat->Prop)(la lo:List Ky)(rs:List dO)(k f e b wa p s q bl v:Int)(w:World)(h:dP w P x d fs left (eB t) C la lo rs)(hB:BG t d)(ht:t<=20000000)(ad:x.5=false)(W:2<=x.2/\x.2<=5)(ao:0<=x.id/\x.id<x.2)(au:e_ x.ba)(aj:0<=(dV (gV x k f e b wa p s q bl v)).gP/\(dV (gV x k f e b wa p s q bl v)).gP<=5)(ah:0<=(dV (gV x k f e b wa p s q bl v)).gS/\(dV (gV x k f e b wa p s q bl v)).gS<=31)(aA:la.length<=19999999)(B:Nat)(hm:gT x d e b 2=true->x.an=some B):Calls pG 197 #[P0 (Y ⟨P.Nd,0,Z⟩),.agg (mA k f e b wa p s q bl v (J Z 0 0))] w λr w'=>pY P x d fs left t C la lo rs k f e b wa p s q bl v r w w':=by
 have R:=(Below.refl w.1.size w).alloc r_ (G (mA k f e b wa p s q bl v (J Z 0 0)) 136);have HM:=dF (dI.new w (mA k f e b wa p s q bl v (J Z 0 0)) 136);have HB:=dF R;have HC:=dF (BA P x d fs left (eB t) t C la lo rs k f e b wa p s q bl v none 0 0 2 B (w.alloc (G (mA k f e b wa p s q bl v (J Z 0 0)) 136)) (h.later R) hB ht hm (.inl rfl));have M:=λ(y:NB) (hy:gV x k f e b wa p s q bl v=y) w1 (af:List Ky) (h:dP w1 P y d fs left (eB t) C af lo rs)=>IS hSO hBW hBS P y d fs left t C af lo rs w1 h hB ht (by subst hy;unfold gV;cases decide (x.fo.wa<wa)<;>exact ad) (by subst hy;unfold gV;cases decide (x.fo.wa<wa)<;>exact W) (by subst hy;unfold gV;cases decide (x.fo.wa<wa)<;>exact ao) (by subst hy;unfold gV;cases decide (x.fo.wa<wa)<;>exact au) (by subst hy;exact aj) (by subst hy;exact ah);replace M:=dF M;have ac:=dF hm;have aa:Hid (dR C C w (w.alloc (G (mA k f e b wa p s q bl v (J Z 0 0)) 136))):=.of_below R;have az:Hid (¬C w.1.size):=h.fresh r_;obtain⟨b1,e1⟩:∃y,(gT x d e b 2&&!decide (iU k f e b q∈la))=y:=⟨_,rfl⟩;obtain⟨b2,e2⟩:∃y,decide (x.2<2*((iV x d la k f e b q 2).length:Int))=y:=⟨_,rfl⟩;have X:Hid (kO x d la k f e b q 2=(b1&&b2)):=by unfold Hid kO;rw[e1,e2]
 have a4:=dF e1;have ap:=dF e1;have ag:=dF e2;have ab:(iV x d la k f e b q 2).length<=20000000:=by
  unfold iV jB;cases gT x d e b 2;·simp;omega
  ·simp only[cond_true];split;·omega
   ·simp;omega
 clear h hB ad hm R e1 e2 aj ah;go_enter func197,ntmps197;go_upto_region 1 with fail;generalize World.alloc _ _=W0 at*;have aq:=HM.cell;go_wp2_with fail;refine HC.mono ?_;rintro r w1 ⟨rfl,ai,a7⟩;have D:Hid (dP w1 P x d fs left (eB t) C (iV x d la k f e b q 2) lo rs):=ai;have a1:Hid (dR C C w w1):=aa.trans a7;have V:=dF (a7.blk HM az);have E:(gT x d e b 2&&!decide ((k,e,max b q,f)∈la))=b1:=ap.out;rw[E];clear ai a7 HC aa aq;cases b1;·clear E;go_wp2;go_ret;exact .no a4 rfl D a1
 have ae:gT x d e b 2=true:=by rw[Bool.and_eq_true]at E;exact E.1
 have u:=dF (ac.out ae);clear E ae ac;obtain⟨bw,a8⟩:∃y,decide (x.fo.wa<wa)=y:=⟨_,rfl⟩;have L:=dF a8;clear a8;go_upto_region 3 with fail;go_cut [17] (λs17 wx=>s17=.bool bw/\Bw w1 wx);case first=>refine eZ (S:=(λw'=>dI w' w.1.size (mA k f e b wa p s q bl v (J Z 0 0)) 136/\dI w' P.Nd x.arr 192)) (λ_=>?_) (hS:=⟨V.drew,D.blk.drew⟩);refine dH 0 ?_;refine dH 1 ?_ (hy:=by intro w a2;have i:=a2.1.cell 4;simp at i;go_simp;(try with_reducible rfl));refine dH 2 ?_;refine dH 3 ?_;refine dH 4 ?_;refine dH 5 ?_;refine dH 6 ?_;refine dH 7 ?_ (hy:=by intro w a2;have i:=a2.2.cell 17;simp at i;go_simp;(try with_reducible rfl));refine dT 8 λK hK=>?_;(try go_simp);rw[L.out];refine kd hK ?_ ⟨V.drew,D.blk.drew⟩;go_wp2_with fail;go_meet;exact⟨rfl,b_.drew⟩
 case rest=>
 obtain⟨rfl,Q⟩:=hcut;obtain⟨w2,al⟩:∃y,y=wc:=⟨_,rfl⟩;subst al;have j:=dF (D.later Q);have a5:=dF (a1.later Q);have a3:=dF (V.later Q);clear Q D a1 V;cases bw;focus
  have o:Hid (gV x k f e b wa p s q bl v=x):=by unfold Hid gV;rw[L.out];rfl
  clear L a3
  obtain⟨A,am⟩:∃y,y=w2:=⟨_,rfl⟩
  subst am
  have F:gH A B (iV x d la k f e b q 2):=by
   rcases j.an with⟨i,_⟩|⟨B2,i,h8⟩
   ·rw[show(x:NB).an=x.an from rfl,u.out]at i;cases i
   ·rw[show(x:NB).an=x.an from rfl,u.out]at i;cases i;exact h8
  have y1:=j.blk.cell 1;have g:=j.blk.cell 24;simp at y1 g;rw[u.out]at g
  have H:=dF (yN P.Nd B x.2 _ A y1 g F W ab)
  clear F y1 g
  go_wp2_with fail
  refine H.mono ?_
  rintro r w4 ⟨rfl,nq,rfl⟩
  have m:Bw A (A.drewN nq):=below_drewN b_ _
  have z:=dF (j.later m);have N:=dF (a5.later m)
  clear m H
  generalize World.drewN _ _=W4 at*
  rw[ag.out]
  cases b2
  ·go_wp2
   go_ret
   refine .few (by rw[X.out];rfl) a4 rfl ?_ N
   rw[o.out];exact z
  go_wp2_with fail
  refine(M.out x (by rw[o.out]) W4 _ z).mono ?_
 rotate_left;focus
  have o:Hid (gV x k f e b wa p s q bl v=({x with fo:=⟨k,f,e,b,wa,p,s,q,bl,v⟩}:NB)):=by unfold Hid gV;rw[L.out];rfl
  have O:=dF j.blk
  have ax:=a3.cell
  have av:=O.cell
  have ar:=O.free
  have a0:dM P.Nd w2 (((((((((((w2.setCell ⟨P.Nd,13,Z⟩ (I k)).setCell ⟨P.Nd,14,Z⟩ (I f)).setCell ⟨P.Nd,15,Z⟩ (I e)).setCell ⟨P.Nd,16,Z⟩ (I b)).setCell ⟨P.Nd,17,Z⟩ (I wa)).setCell ⟨P.Nd,18,Z⟩ (I p)).setCell ⟨P.Nd,19,Z⟩ (I s)).setCell ⟨P.Nd,20,Z⟩ (I q)).setCell ⟨P.Nd,21,Z⟩ (I bl)).setCell ⟨P.Nd,22,Z⟩ (I v)).setCell ⟨P.Nd,23,Z⟩ (J Z 0 0)):=((((((((((((dM.self P.Nd w2).set 13 (I k)).set 14 (I f)).set 15 (I e)).set 16 (I b)).set 17 (I wa)).set 18 (I p)).set 19 (I s)).set 20 (I q)).set 21 (I bl)).set 22 (I v)).set 23 (J Z 0 0))
  have aw:Hid (dI (((((((((((w2.setCell ⟨P.Nd,13,Z⟩ (I k)).setCell ⟨P.Nd,14,Z⟩ (I f)).setCell ⟨P.Nd,15,Z⟩ (I e)).setCell ⟨P.Nd,16,Z⟩ (I b)).setCell ⟨P.Nd,17,Z⟩ (I wa)).setCell ⟨P.Nd,18,Z⟩ (I p)).setCell ⟨P.Nd,19,Z⟩ (I s)).setCell ⟨P.Nd,20,Z⟩ (I q)).setCell ⟨P.Nd,21,Z⟩ (I bl)).setCell ⟨P.Nd,22,Z⟩ (I v)).setCell ⟨P.Nd,23,Z⟩ (J Z 0 0)) P.Nd ({x with fo:=⟨k,f,e,b,wa,p,s,q,bl,v⟩}:NB).arr 192):=by have i:=(((((((((((O.set 13 (I k)).set 14 (I f)).set 15 (I e)).set 16 (I b)).set 17 (I wa)).set 18 (I p)).set 19 (I s)).set 20 (I q)).set 21 (I bl)).set 22 (I v)).set 23 (J Z 0 0));unfold Hid;simpa using i
  have U:=dF (j.node (x':=({x with fo:=⟨k,f,e,b,wa,p,s,q,bl,v⟩}:NB)) a0 aw rfl rfl rfl rfl)
  have ak:=dF (a5.trans (.node a0 j.nC))
  clear a0 L
  go_upto_region 5 with fail
  generalize World.setCell _ _ _=A at*
  clear O j a5 a3 ar av ax
  have F:gH A B (iV x d la k f e b q 2):=by
   rcases U.an with⟨i,_⟩|⟨B2,i,h8⟩
   ·rw[show(({x with fo:=⟨k,f,e,b,wa,p,s,q,bl,v⟩}:NB):NB).an=x.an from rfl,u.out]at i;cases i
   ·rw[show(({x with fo:=⟨k,f,e,b,wa,p,s,q,bl,v⟩}:NB):NB).an=x.an from rfl,u.out]at i;cases i;exact h8
  have y1:=U.blk.cell 1;have g:=U.blk.cell 24;simp at y1 g;rw[u.out]at g
  have H:=dF (yN P.Nd B x.2 _ A y1 g F W ab)
  clear F y1 g
  go_wp2_with fail
  refine H.mono ?_
  rintro r w4 ⟨rfl,nq,rfl⟩
  have m:Bw A (A.drewN nq):=below_drewN b_ _
  have z:=dF (U.later m);have N:=dF (ak.later m)
  clear m H
  generalize World.drewN _ _=W4 at*
  rw[ag.out]
  cases b2
  ·go_wp2
   go_ret
   refine .few (by rw[X.out];rfl) a4 rfl ?_ N
   rw[o.out];exact z
  go_wp2_with fail
  refine(M.out ({x with fo:=⟨k,f,e,b,wa,p,s,q,bl,v⟩}:NB) (by rw[o.out]) W4 _ z).mono ?_
 all_goals
  rintro r w6 a6
  have HQ:=dF a6
  have ay:∃l,r=.returned l/\∃a n c,l=J a n c:=by
   rcases a6 with⟨h1,h2,h3⟩|⟨B,l,h2,h3,h4⟩
   · exact⟨_,h2,_,_,_,rfl⟩
   · obtain⟨a9,n9,c9,i⟩:=h3.shape;exact⟨l,h2,a9,n9,c9,i⟩
  obtain⟨l,rfl,a9,n9,c9,rfl⟩:=ay
  clear a6
  go_wp2
  go_ret
  refine .go (by rw[X.out];rfl) ?_
  rw[o.out];exact HQ.pre N
def nW(x:NB)(d:SD)(e b wa:Int):NB:=bif e==d.ep&&(b==x.ba&&decide (0<b)) then({x with rf:=if x.rf<wa then wa else x.rf}:NB) else x
def IT(P:Pl)(x:NB)(d:SD)(fs:List FD)(left:Int)(L t:Nat)(C:Nat->Prop)(la lo:List Ky)(rs:List dO)(k f e b wa p s q bl v:Int)(a:Option Addr)(B c:Nat)(w:World)(h:dP w P x d fs left L C la lo rs)(V:BG t d)(ht:t<=20000000):Calls pG 199 #[P0 (Y ⟨P.Nd,0,Z⟩),.agg (mA k f e b wa p s q bl v (J a B c))] w λr w'=>r=.returned (.tuple #[])/\dP w' P (nW x d e b wa) d fs left L C la lo rs/\dR C C w w':=by
 obtain⟨A,hA,K,n⟩:=h.1;obtain⟨vr,va,h1,h2,h3⟩:=hA.ex;have E:=V.ne;have a1:=V.recs;have g:=(Below.refl w.1.size w).alloc r_ (G (mA k f e b wa p s q bl v (J a B c)) 136);have F:=dF (dI.new w (mA k f e b wa p s q bl v (J a B c)) 136);have X:=dF g;have W:=dF (h.later g);have z:=dF (D4 P.Nd x P.low d vr P.Mp P.D k f e b wa p s q bl v a B c _ (h1.later g) E oG (h.blk.later g));have a2:Hid (w.1.size≠P.Nd):=λhh=>by have:=h.blk.lt;omega
 obtain⟨b2,H⟩:∃y,(e==d.ep&&(b==x.ba&&decide (0<b)))=y:=⟨_,rfl⟩;have Q:=dF H;have m:Hid (nW x d e b wa=bif b2 then({x with rf:=if x.rf<wa then wa else x.rf}:NB) else x):=by unfold Hid nW;rw[H]
 clear h hA h1 h2 h3 V g K n H;go_enter func199,ntmps199;go_upto_region 1 with fail;generalize World.alloc _ _=W0 at*;have N:=X.size;obtain⟨m0,m1,m2,m3,m4,m5,m6,m7,m8,m9,gF⟩:=F.c11;go_wp2_with fail;refine z.mono ?_;rintro r w1 ⟨rfl,j⟩;rw[Q.out];have i:=dF (W.later j);have U:=dF (F.later j);have u:Hid (dR C C w w1):=.of_below (X.trans (j.mono N));clear j W F m0 m1 m2 m3 m4 m5 m6 m7 m8 m9 gF z;cases b2;·go_wp2;refine bodyPost_end (v:=.tuple #[]) (by simp[results,results199,go_sem]) rfl ?_;refine⟨rfl,?_,u⟩;rw[m.out];exact i
 have l:=dF i.blk;have S:=l.cell 12;simp at S;have a0:=l.free 12;have m4:=U.cell 4;simp at m4;have o:Hid (dM P.Nd w1 (w1.setCell ⟨P.Nd,12,Z⟩ (I (if x.rf<wa then wa else x.rf)))):=dM.setCell w1 ⟨P.Nd,12,Z⟩ _;have M:Hid (dI (w1.setCell ⟨P.Nd,12,Z⟩ (I (if x.rf<wa then wa else x.rf))) P.Nd ({x with rf:=if x.rf<wa then wa else x.rf}:NB).arr 192):=by have h9:=l.set 12 (I (if x.rf<wa then wa else x.rf));unfold Hid;simpa using h9
 have R:=dF (i.node (x':=({x with rf:=if x.rf<wa then wa else x.rf}:NB)) o M rfl rfl rfl rfl);have O:=dF (u.trans (.node o i.nC));go_upto_region 2 with fail;go_region;generalize World.setCell _ _ _=W2 at*;generalize (if x.rf<wa then wa else x.rf)=mx at*;go_wp2;refine bodyPost_end (v:=.tuple #[]) (by simp[results,results199,go_sem]) rfl ?_;refine⟨rfl,?_,O.later (b_.drew)⟩;rw[m.out];exact R.later (b_.drew)
def gW(S id e q:Int)(lo:List Ky):Nat->Int
 |0=>bits BinOp.andNot IntKind.i64 S (2^id.toNat)
 |t+1=>bif decide (((8:Int),e,max 0 q,(t:Int))∈lo) then bits BinOp.andNot IntKind.i64 (gW S id e q lo t) (2^t) else gW S id e q lo t
def AO(P:Pl)(x:NB)(d:SD)(fs:List FD)(left:Int)(L t0:Nat)(C:Nat->Prop)(la lo:List Ky)(rs:List dO)(B:Nat)(w:World)(h:dP w P x d fs left L C la lo rs)(hB:BG t0 d)(ht:t0<=20000000)(aB:2<=x.2/\x.2<=5)(aE:0<=x.id/\x.id<x.2)(u:x.oa=some B):Calls pG 180 #[P0 (Y ⟨P.Nd,0,Z⟩)] w λr w'=>r=.returned (I (gW d.ek.S x.id x.ow.e x.ow.q lo x.2.toNat))/\Bw w w':=by
 obtain⟨A,hA,ap,a3⟩:=h.1;obtain⟨vr,va,h1,h2,h3⟩:=hA.ex;have ai:=hB.ne;have aC:=hB.recs;have HS:=dF h1;have HN:=dF h.blk;have aa:gH w B lo:=by
  rcases h.oa with⟨i,_⟩|⟨B2,i,h8⟩;·rw[u]at i;cases i
  ·rw[u]at i;cases i;exact h8
 have ao:=dF aa;have az:=dF u;clear h hA h1 h2 h3 hB ap a3 aa u;have ay:∀w',Sem.run pG (Instr.field 66 (Value.agg #[I d.ek.E,I d.ek.P,I d.ek.S]) 2) w'=.ok (I d.ek.S) w':=λ_=>rfl;generalize U:gW d.ek.S x.id x.ow.e x.ow.q lo=mf;have H:Hid (mf=gW d.ek.S x.id x.ow.e x.ow.q lo):=U.symm;have ab:mf 0=bits BinOp.andNot IntKind.i64 d.ek.S (2^x.id.toNat):=by rw[H.out];rfl
 have ar:Hid (∀t,mf (t+1)=bif decide (((8:Int),x.ow.e,max 0 x.ow.q,(t:Int))∈lo) then bits BinOp.andNot IntKind.i64 (mf t) (2^t) else mf t):=λt=>by rw[H.out];rfl
 have am:=dF ab;clear U ab H;have m:x.id=0∨x.id=1∨x.id=2∨x.id=3∨x.id=4:=oG;go_enter func180,ntmps180;go_upto_region 1 with fail;go_cut [3] (λs3 wx=>s3=I (mf 0)/\Bw w wx);case first=>
  rcases m with m|m|m|m|m;all_goals
   have a8:=dF m
   clear m
   refine eZ (S:=(λw'=>dI w' P.Nd x.arr 192)) (λ_=>?_) (hS:=HN.drew)
   refine dH 0 ?_;refine dH 3 ?_;refine dH 4 ?_;refine dH 5 ?_;refine dH 6 ?_ (hy:=by intro w g;have i:=g.cell 0;simp at i;rw[a8.out]at i;go_simp;(try with_reducible rfl));refine dH 7 ?_
   refine dT 1 λK F=>?_
   (try go_simp)
   go_at_call 133
   refine(uS P.low x.St P.Nd d vr P.Mp P.D w.drew (HN.drew.cell 3) HN.drew.lt HS.drew ai oG).mono ?_
   rintro r w1 ⟨rfl,ah⟩
   have z:Hid (Bw w w1):=b_.drew.trans ah
   have a:=dF (HN.later z)
   clear ah
   refine kr F 2 (λK F=>?_) a
   (try go_simp)
   refine kr F 8 (λK F=>?_) a
   (try go_simp)
   refine kr F 9 (λK F=>?_) a
   (try go_simp)
   refine kd F ?_ a
   go_wp2_with fail
   go_meet
   exact⟨by rw[am.out,a8.out];rfl,z⟩
 case rest=>
 obtain⟨rfl,c⟩:=hcut;obtain⟨W1,aj⟩:∃y,y=wc:=⟨_,rfl⟩;subst aj;have z:=dF c;have a:=dF (HN.later c);have a1:=dF (ao.later c);have ak:=c.size;clear c m ay;have a4:=a.cell 26;have a0:=a.cell 27;have af:=a.cell 28;have ae:=a.cell 29;have W:=a.cell 30;have Q:=a.cell 31;have a9:=a.cell 32;have a2:=a.cell 33;have a6:=a.cell 34;have a5:=a.cell 35;have ac:=a.cell 36;have n1:=a.cell 1;simp at n1 a4 a0 af ae W Q a9 a2 a6 a5 ac;have o:Bw W1 (W1.alloc (G (mA x.ow.k x.ow.f x.ow.e x.ow.b x.ow.wa x.ow.p x.ow.s x.ow.q x.ow.bl x.ow.v (J Z 0 0)) 136)):=a_ _ _;have av:Hid (dI (W1.alloc (G (mA x.ow.k x.ow.f x.ow.e x.ow.b x.ow.wa x.ow.p x.ow.s x.ow.q x.ow.bl x.ow.v (J Z 0 0)) 136)) W1.1.size (mA x.ow.k x.ow.f x.ow.e x.ow.b x.ow.wa x.ow.p x.ow.s x.ow.q x.ow.bl x.ow.v (J Z 0 0)) 136):=dI.new _ _ _;have au:=dF (a.later o);have a7:=dF (a1.later o);have ag:Hid (Bw w (W1.alloc (G (mA x.ow.k x.ow.f x.ow.e x.ow.b x.ow.wa x.ow.p x.ow.s x.ow.q x.ow.bl x.ow.v (J Z 0 0)) 136))):=z.trans (o.mono ak);have aq:=(o.cell (p:=⟨P.Nd,1,Z⟩) a.lt).trans n1;clear o;go_upto_region 4 with fail;generalize World.alloc _ _=W2 at*;clear n1 aq a4 a0 af ae W Q a9 a2 a6 a5 ac;have an:=ag.size;go_loopw [3,24] (λs3 s24 wr=>∃t:Nat,(t:Int)<=x.2/\s24=I (t:Int)/\s3=I (mf t)/\Bw W2 wr) (λs3 s24 wr=>x.2.toNat - (intOf s24).toNat);case atStart=>exact⟨0,oG,rfl,rfl,Below.refl _ _⟩
 case round=>
  obtain⟨t,aD,rfl,rfl,n⟩:=hrel;have O:=dF n;have ad:=dF (au.later n);have R:=dF (av.later n);have V:=dF (a7.later n);clear n;by_cases aF:(t:Int)<x.2
  ·obtain⟨bb,M⟩:∃y,decide (((8:Int),x.ow.e,max 0 x.ow.q,(t:Int))∈lo)=y:=⟨_,rfl⟩;have ax:=dF M;have j:Hid (mf (t+1)=bif bb then bits BinOp.andNot IntKind.i64 (mf t) (2^t) else mf t):=by unfold Hid;rw[ar.out t,M]
   clear M;go_upto_region 6 with fail;go_cut [38] (λs38 wx=>s38=.bool bb/\Bw wr wx);case first=>refine eZ (S:=(λw'=>dI w' P.Nd x.arr 192/\dI w' W1.1.size (mA x.ow.k x.ow.f x.ow.e x.ow.b x.ow.wa x.ow.p x.ow.s x.ow.q x.ow.bl x.ow.v (J Z 0 0)) 136)) (λ_=>?_) (hS:=⟨ad.drew,R.drew⟩);refine dH 0 ?_;refine dH 1 ?_;refine dH 2 ?_;refine dH 3 ?_;refine dH 4 ?_ (hy:=by intro w g;have i:=g.1.cell 37;simp at i;rw[az.out]at i;go_simp;(try with_reducible rfl));refine dH 5 ?_;refine dH 6 ?_;refine dH 7 ?_ (hy:=by intro w g;have i:=g.2.cell 2;simp at i;go_simp;(try with_reducible rfl));refine dH 8 ?_;refine dH 9 ?_ (hy:=by intro w g;have i:=g.2.cell 7;simp at i;go_simp;(try with_reducible rfl));refine dH 10 ?_;refine dT 11 λK F=>?_;(try go_simp);go_at_call 232;refine(CX B lo 8 (t:Int) x.ow.e 0 0 0 0 x.ow.q 0 0 none 0 0 wr.drew ⟨V.1⟩).mono ?_;rintro r w4 ⟨rfl,aA⟩;have aw:decide (((8:Int),x.ow.e,max 0 x.ow.q,(t:Int))∈lo)=bb:=ax.out;rw[aw];have N:Hid (Bw wr w4):=b_.drew.trans aA;refine kd F ?_ ⟨ad.later N,R.later N⟩;go_wp2_with fail;go_meet;exact⟨rfl,N⟩
   case rest=>
   obtain⟨rfl,c⟩:=hcut;have l:Hid (Bw W2 wc):=O.trans (c.mono O.size);clear c;cases bb
   ·go_wp2_with fail;go_roundw;case rel=>exact⟨t+1,oG,rfl,by rw[j.out];rfl,l⟩
    case measure=>simp[intOf];omega
   have m:t=0∨t=1∨t=2∨t=3∨t=4:=oG;rcases m with rfl|rfl|rfl|rfl|rfl;all_goals
    go_wp2_with fail
    go_roundw
    case rel=>first|exact⟨1,oG,rfl,congrArg I j.symm,l⟩|exact⟨2,oG,rfl,congrArg I j.symm,l⟩|exact⟨3,oG,rfl,congrArg I j.symm,l⟩|exact⟨4,oG,rfl,congrArg I j.symm,l⟩|exact⟨5,oG,rfl,congrArg I j.symm,l⟩
    case measure=>simp[intOf];omega
  obtain X:x.2.toNat=t:=oG;have al:=dF X;clear X;go_wp2;go_ret;rw[al.out];exact⟨rfl,ag.trans (O.mono an)⟩
def BW(s:Int)(t:Nat)(hs:0<=s/\s<=31)(a:t<5):0<=bits BinOp.andNot IntKind.i64 s (2^t)/\bits BinOp.andNot IntKind.i64 s (2^t)<=31:=by obtain⟨m,rfl⟩:=Int.eq_ofNat_of_zero_le hs.1;have b:∀m:Nat,m<32->∀t:Nat,t<5->0<=bits BinOp.andNot IntKind.i64 (m:Int) (2^t)/\bits BinOp.andNot IntKind.i64 (m:Int) (2^t)<=31:=dG;exact b m oG t a
def CZ(S id e q:Int)(lo:List Ky)(hS:0<=S/\S<=31)(a:0<=id/\id<5):∀t,t<=5->0<=gW S id e q lo t/\gW S id e q lo t<=31
 |0,_=>BW S _ hS oG
 |t+1,h=>by
  have ih:=CZ S id e q lo hS a t oG;unfold gW;cases decide (((8:Int),e,max 0 q,(t:Int))∈lo);·exact ih
  ·exact BW _ t ih oG
def BX(P:Pl)(x:NB)(d:SD)(fs:List FD)(left:Int)(L z:Nat)(C:Nat->Prop)(la lo:List Ky)(rs:List dO)(B:Nat)(w:World)(h:dP w P x d fs left L C la lo rs)(U:BG z d)(V:z<=20000000)(i:2<=x.2/\x.2<=5)(H:0<=x.id/\x.id<x.2)(A:x.oa=some B)(hS:0<=d.ek.S/\d.ek.S<=31)(R:fP x.ow.k x.id [0,x.ow.e,x.ow.b,x.ow.wa,x.ow.p,x.ow.s,x.ow.q,x.ow.bl,x.ow.v,0]=true):Calls pG 132 #[P0 (Y ⟨P.Nd,0,Z⟩)] w λr w'=>∃l,r=.returned l/\dZ w' w.1.size l (fZ (gW d.ek.S x.id x.ow.e x.ow.q lo x.2.toNat) (gR x.ow.k x.id x.ow.e x.ow.b x.ow.wa x.ow.p x.ow.s x.ow.q x.ow.bl x.ow.v []) x.2.toNat)/\Bw w w':=by have O:=dF h.blk;have HT:=dF h.tabs;have F:=dF (AO P x d fs left L z C la lo rs B w.drew (h.later b_.drew) U V i H A);have t:=CZ d.ek.S x.id x.ow.e x.ow.q lo hS oG x.2.toNat oG;have u:=dF R;have y:=h.tabs.two;generalize gW d.ek.S x.id x.ow.e x.ow.q lo x.2.toNat=mi at*;clear h U R;go_enter func132,ntmps132;go_upto_region 1 with fail;refine eZ (S:=(λw'=>dI w' P.Nd x.arr 192)) (λ_=>?_) (hS:=O.drew);refine dH 0 ?_;refine dH 1 ?_;refine dH 3 ?_;refine dH 4 ?_;refine dH 5 ?_;refine dH 6 ?_;refine i4 7 P.Nd 26 [I x.ow.k,I x.ow.f,I x.ow.e,I x.ow.b,I x.ow.wa,I x.ow.p,I x.ow.s,I x.ow.q,I x.ow.bl,I x.ow.v,J Z 0 0] ?_ (λw M=>M.range rfl);refine dT 2 λK m=>?_;(try go_simp);go_at_call 180;refine F.mono ?_;rintro r w1 ⟨rfl,o⟩;have c:Hid (Bw w w1):=b_.drew.trans o;have a:=dF (O.later c);have n:=c.size;clear o;refine kr m 8 (λK m=>?_) a;(try go_simp);go_at_call 140;have Q:=a.cell 0;have N:=a.cell 1;simp at Q N;refine(pE P.Nd x.id x.2 mi x.ow.k x.ow.f x.ow.e x.ow.b x.ow.wa x.ow.p x.ow.s x.ow.q x.ow.bl x.ow.v none [] 0 w1 Q N a.lt (HT.below c y) (.inl rfl) ⟨oG,i.2⟩ t u).mono ?_;rintro r w2 ⟨l,rfl,D,g⟩;obtain⟨W,X,a0,rfl⟩:=D.shape;have j:=dF (a.later g);have HL:=dF (D.mono n);have E:Hid (Bw w w2):=c.trans (g.mono n);clear D g;refine kr m 9 (λK m=>?_) j;(try go_simp);refine kd m ?_ j;go_wp2;go_ret;exact⟨_,rfl,HL,E⟩
def EX(Nd:Nat)(x:NB)(bl:Int)(w:World)(a:dI w Nd x.arr 192):Calls pG 193 #[P0 (Y ⟨Nd,0,Z⟩),I bl] w λr w'=>r=.returned (.bool (decide (0<=bl)&&decide (bl<x.nb)))/\w'=w:=by
 have f:=a.cell 2;simp at f;obtain⟨b,d⟩:∃y,decide (0<=bl)=y:=⟨_,rfl⟩;obtain⟨e,c⟩:∃y,decide (bl<x.nb)=y:=⟨_,rfl⟩;rw[d,c];clear a;cases b<;>cases e;all_goals
  go_enter func193,ntmps193
  go_wp2
  go_ret
  exact⟨rfl,rfl⟩
def C0(low St:Nat)(d:SD)(vr:Value)(Mp D:Nat)(w:World)(h:eI w low St d vr Mp D):Calls pG 190 #[P0 (Y ⟨St,0,Z⟩)] w λr w'=>r=.returned (.agg #[I d.b0,I d.b1,I d.b2,I d.b3])/\Bw w w':=by have b:=(Below.refl w.1.size w).alloc r_ (G #[I 0,I 0,I 0,I 0] 194);have q:=dF b;have o:=dF (dI.new w #[I 0,I 0,I 0,I 0] 194);have p:=dF (h.later b);clear h b;go_enter func190,ntmps190;go_upto_region 1 with fail;generalize World.alloc _ _=W1 at*;have c:W1.rangeAt St 3 [I d.b0,I d.b1,I d.b2,I d.b3]:=p.blk.range rfl;have e:=dF c;clear c;have g:=lW (P:=pG) (t:=194) (i:=0) (vs:=#[I d.b0,I d.b1,I d.b2,I d.b3]) o kG sG (by intro u k;simp at k;rcases k with rfl|rfl|rfl|rfl<;>rfl) #[I d.b0,I d.b1,I d.b2,I d.b3] sG;have a:=dF (o.row (ds:=#[I d.b0,I d.b1,I d.b2,I d.b3]));have f:Hid (Bw w (W1.setRow w.1.size #[I d.b0,I d.b1,I d.b2,I d.b3])):=q.trans ((lP W1 w.1.size _).below r_);go_wp2_with(first|(refine wpList_load_mid rfl 194 _ rfl St 3 rfl [I d.b0,I d.b1,I d.b2,I d.b3] _ e underlying194 rfl kG ?_)|(refine rB rfl 194 _ _ rfl _ _ rfl rfl g ?_));go_wp2;generalize World.setRow _ _ _=s at*;have j:=a.cell 0;have l:=a.cell 1;have n:=a.cell 2;have m:=a.cell 3;simp at j l n m;exact bodyPost_ret (v:=.agg #[I d.b0,I d.b1,I d.b2,I d.b3]) (by simp[results,results190,go_sem,j,l,n,m]) rfl ⟨rfl,f⟩
end Go.Proofs.YtdcainmlcpafbaaGreatDoor
