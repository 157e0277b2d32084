import Derived.Test.YtdcainmlcpafbaaGreatDoorJ15
import Derived.Test.YtdcainmlcpafbaaGreatDoorJ16
set_option linter.all false
set_option maxHeartbeats 8000000
set_option maxRecDepth 20000
namespace Go.Proofs.YtdcainmlcpafbaaGreatDoor
open Go.RowKit
open Value renaming slice->J,pointer->P0
open Tryz
open Tryz renaming prog->pG
open IntKind renaming i64->T
open Option renaming none->Z,some->Y
open Obj renaming cells->G
open Value (bool)
@[reducible] def gN(x:NB):NB:={x with ph:=0,gE:=0,gP:=0,gS:=0,jo:=0,ba:=0,rf:=0,fo:=⟨0,0,0,0,0,0,0,0,0,0⟩,an:=none}
def gW(x:NB)(d:SD):dK:=⟨6,0,d.ep,0,0,x.gP,x.gS,0,0,0,none,0,[]⟩
def BL(a:Act)(v:Value):a.put none v=a:=rfl
def eK.chain{w w1 w2:World}{P:Pl}{x:NB}{d:SD}{fs:List FD}{left:Int}{t:Nat}{C C':Nat->Prop}{la lo:List Ky}{rs:List dJ}{m:dK}{ok:Bool}(h:eK P x d fs left t C' la lo rs m ok w1 w2)(e:dP C C' w w1):eK P x d fs left t C la lo rs m ok w w2:=by obtain⟨fs',left',d',b,f,a,c⟩:=h;exact⟨fs',left',d',b,f,a,e.trans c⟩
def lW(P:Pl)(x:NB)(d:SD)(fs:List FD)(left:Int)(t:Nat)(C:Nat->Prop)(lo:List Ky)(rs:List dJ)(r:Ending)(w w':World):Prop:=(∃C':Nat->Prop,(kI d d.ep x.gP x.gS=false)/\(r=.returned (J Z 0 0))/\(dO w' P (gN x) d fs left (eA t) C' [] lo rs)/\(dP C C' w w'))∨((kI d d.ep x.gP x.gS=true)/\(r=.returned (J Z 0 0))/\(eK P ((gN x).after false) d fs left t C [] [] rs (gW x d) false w w'))∨(∃l:Value,(kI d d.ep x.gP x.gS=true)/\(r=.returned l)/\(dY w' w.heap.size l (fT (kC x) (gO 6 x.id d.ep 0 0 x.gP x.gS 0 0 0 []) x.nodes.toNat))/\(eK P (mB (gN x) d d.ep x.gP true) d fs left t C [] [] rs (gW x d) true w w'))
def lW.no{P:Pl}{x:NB}{d:SD}{fs:List FD}{left:Int}{t:Nat}{C:Nat->Prop}{lo:List Ky}{rs:List dJ}{r:Ending}{w w':World}(C':Nat->Prop)(h:kI d d.ep x.gP x.gS=false)(b:r=.returned (J Z 0 0))(a:dO w' P (gN x) d fs left (eA t) C' [] lo rs)(c:dP C C' w w'):lW P x d fs left t C lo rs r w w':=.inl ⟨C',h,b,a,c⟩
def lW.fail{P:Pl}{x:NB}{d:SD}{fs:List FD}{left:Int}{t:Nat}{C:Nat->Prop}{lo:List Ky}{rs:List dJ}{r:Ending}{w w':World}(h:kI d d.ep x.gP x.gS=true)(b:r=.returned (J Z 0 0))(a:eK P ((gN x).after false) d fs left t C [] [] rs (gW x d) false w w'):lW P x d fs left t C lo rs r w w':=.inr (.inl ⟨h,b,a⟩)
def lW.ok{P:Pl}{x:NB}{d:SD}{fs:List FD}{left:Int}{t:Nat}{C:Nat->Prop}{lo:List Ky}{rs:List dJ}{r:Ending}{w w':World}(l:Value)(h:kI d d.ep x.gP x.gS=true)(c:r=.returned l)(a:dY w' w.heap.size l (fT (kC x) (gO 6 x.id d.ep 0 0 x.gP x.gS 0 0 0 []) x.nodes.toNat))(b:eK P (mB (gN x) d d.ep x.gP true) d fs left t C [] [] rs (gW x d) true w w'):lW P x d fs left t C lo rs r w w':=.inr (.inr (⟨l,h,c,a,b⟩))
def FU(hSO:fA)(hBW:fC)(hBS:fD)(P:Pl)(x:NB)(d:SD)(fs:List FD)(left:Int)(t:Nat)(C:Nat->Prop)(la lo:List Ky)(rs:List dJ)(w:World)(h:dO w P x d fs left (eA t) C la lo rs)(hB:BG t d)(ht:t<=1000000)(ad:x.down=false)(N:2<=x.nodes/\x.nodes<=5)(a9:0<=x.id/\x.id<x.nodes)(aw:0<=x.gP/\x.gP<=5)(av:0<=x.gS/\x.gS<=31):Calls pG 243 #[P0 (Y ⟨P.Nd,0,Z⟩)] w λr w'=>lW P x d fs left t C lo rs r w w':=by
 have a5:=hB.ne;have ay:=hB.recs;have aA:=h.tabs.two;have ab:0<=x.id/\x.id<5:=oG;have a6:0<=d.ep/\d.ep<=1000000000000:=by unfold SD.ep;omega
 have a3:=a_ w (G #[I x.gE,I x.gP,I x.gS] 66);have HB:=dA a3;have HG:=dA (dC.new w #[I x.gE,I x.gP,I x.gS] 66);have HF:=dA (h.later a3);have aj:=dA hB;have ao:=dA ad;have v:=dA HF.blk;have ak:=h.blk.cell;have aG:Hid (∀g,w.heap.size<=g->¬C g):=λg W=>h.fresh W;obtain⟨fo,af⟩:∃y,kI d d.ep x.gP x.gS=y:=⟨_,rfl⟩;have z:=dA af;clear h hB ad a3 af;go_enter func243,ntmps243;go_upto_region 2 with fail;generalize World.alloc _ _=W1 at*;clear ak;have aE:=HB.size;have ah:=lO (P:=pG) (t:=188) (i:=6) (vs:=#[I 0,I 0,I 0,I 0,I 0,I 0,I 0,I 0,I 0,I 0,I 0,I 0,I 0,I 0,I 0,I 0,I 0,J Z 0 0,Value.map none]) v sY sG (by intro u hu;simp at hu;rcases hu with rfl|rfl|rfl<;>rfl) (gN x).arr sG;have m:=lH W1 P.Nd (gN x).arr;have c:=dA (v.row (ds:=(gN x).arr));have e:=dA (HG.same (m.block w.heap.size (HG.ne v dG)));have ac:dM (λg=>g=P.Nd) W1 (W1.setRow P.Nd (gN x).arr):=⟨m.os,m.tape,m.output,by rw[m.size];exact Nat.le_refl _,λk hk hA=>m.block k hA⟩;have a1:dO (W1.setRow P.Nd (gN x).arr) P (gN x) d fs left (eA t) (λg=>C g∨((gN x):NB).own g) [] lo rs/\dP C (λg=>C g∨((gN x):NB).own g) W1 (W1.setRow P.Nd (gN x).arr):=by have al:iL (W1.setRow P.Nd (gN x).arr) x.oa lo:=HF.oa.node v m;have a8:=dQ HF.row (w':=W1.setRow P.Nd (gN x).arr) (λg W=>m.block g (λhh=>by obtain⟨aC,f⟩:=eU HF.row W;rw[hh,v.blk]at f;simp at f));exact HF.reset (x':=(gN x)) ac c rfl (λg W=>.inl (by rcases W with f|f|f;cases f;exact .inr (.inl f);exact .inr (.inr f))) (.inl ⟨rfl,rfl⟩) al (λg W=>by cases W) a8
 have L:=dA a1.1;have a0:=dA (a1.2.pre HB);have aF:W1.heap.size<=(W1.setRow P.Nd (gN x).arr).heap.size:=by rw[m.size];exact Nat.le_refl _
 clear a1 ac m HF v HG;go_upto_region 3 with(refine qQ rfl 188 _ _ rfl _ _ rfl rfl ah ?_);rw[BL];clear ah;generalize World.setRow _ _ _=W2 at*;obtain⟨A,hA,R,B⟩:=L.nod;obtain⟨vr,va,h1,h2,h3⟩:=hA.ex;have ae:Hid (eE W2 P.low x.St d vr P.Mp P.D):=h1;have HA:=dA hA;clear hA h1 h2 h3;have b:Below W2.heap.size W2 (W2.alloc (G mz 136)).drew:=(a_ _ _).drew;have j:Below W2.heap.size W2 (W2.alloc (G (mA 6 0 d.ep 0 0 x.gP x.gS 0 0 0 (J Z 0 0)) 136)).drew:=(a_ _ _).drew;have s:Below W2.heap.size W2 W2.drew:=b_.drew;go_cut [4] (λs4 wx=>∃X,s4=P0 (Y ⟨X,0,Z⟩)/\W2.heap.size<=X/\dC wx X (mA 6 0 d.ep 0 0 x.gP x.gS 0 0 0 (J Z 0 0)) 136/\Below W2.heap.size W2 wx);case first=>
  refine lU (S:=(λw'=>dC w' P.Nd (gN x).arr 192/\dC w' w.heap.size #[I x.gE,I x.gP,I x.gS] 66)) (λ_=>?_) (hS:=⟨c.drew,e.drew⟩);refine dB 0 ?_;refine dB 1 ?_;refine dB 2 ?_;refine dB 3 ?_ (hy:=by intro w o;have f:=o.1.cell 3;simp at f;go_simp;(try with_reducible rfl));refine dB 4 ?_;refine dB 5 ?_;refine dB 7 ?_;refine dB 8 ?_ (hy:=by intro w o;have f:=o.2.cell 1;simp at f;go_simp;(try with_reducible rfl));refine dB 9 ?_;refine dB 10 ?_ (hy:=by intro w o;have f:=o.2.cell 2;simp at f;go_simp;(try with_reducible rfl));refine jC [6,12] ?_;refine .cons rfl (λK a=>?_) ?_
  ·(try go_simp);go_at_call 179;refine(lQ P.low x.St d vr P.Mp P.D _ (ae.later s) a5 oG).mono ?_;rintro r w1 ⟨rfl,rfl⟩;refine k2 a (λ_=>?_) ⟨c.later s,e.later s⟩;clear a K;refine jC [11,12] ?_;refine .cons rfl (λK a=>?_) ?_;·(try go_simp);refine k2 a (λ_=>?_) ⟨c.later s,e.later s⟩;clear a K;refine dF 12 λK a=>?_;(try go_simp);refine k2 a (λ_=>?_) ⟨c.later b,e.later b⟩;clear a K;refine dF 13 λK a=>?_;(try go_simp);refine k2 a (λ_=>?_) ⟨c.later j,e.later j⟩;clear a K;refine dn ?_;go_wp2_with fail;go_meet;exact⟨W2.heap.size,rfl,Nat.le_refl _,(dC.new _ _ _).drew,j⟩
   refine .cons rfl (λK a=>?_) .nil;(try go_simp);refine k2 a (λ_=>?_) ⟨c.later b,e.later b⟩;clear a K;refine dF 11 λK a=>?_;(try go_simp);refine k2 a (λ_=>?_) ⟨c.later b,e.later b⟩;clear a K;refine dF 13 λK a=>?_;(try go_simp);refine k2 a (λ_=>?_) ⟨c.later j,e.later j⟩;clear a K;refine dn ?_;go_wp2_with fail;go_meet;exact⟨W2.heap.size,rfl,Nat.le_refl _,(dC.new _ _ _).drew,j⟩
  refine .cons rfl (λK a=>?_) .nil;(try go_simp);refine k2 a (λ_=>?_) ⟨c.later b,e.later b⟩;clear a K;refine dF 6 λK a=>?_;(try go_simp);go_at_call 179;refine(lQ P.low x.St d vr P.Mp P.D _ (ae.later b) a5 oG).mono ?_;rintro r w1 ⟨rfl,rfl⟩;refine k2 a (λ_=>?_) ⟨c.later b,e.later b⟩;clear a K;refine dF 11 λK a=>?_;(try go_simp);refine k2 a (λ_=>?_) ⟨c.later b,e.later b⟩;clear a K;refine dF 13 λK a=>?_;(try go_simp);refine k2 a (λ_=>?_) ⟨c.later j,e.later j⟩;clear a K;refine dn ?_;go_wp2_with fail;go_meet;exact⟨W2.heap.size,rfl,Nat.le_refl _,(dC.new _ _ _).drew,j⟩
 case rest=>
  clear b s j;obtain⟨X,rfl,hX,a7,a2⟩:=hcut;obtain⟨W3,an⟩:∃y,y=wc:=⟨_,rfl⟩;subst an;have HX:=dA a7;have n:=dA a2;have ax:=a2.size;clear a7 a2;have ap:¬A X:=HA.fresh hX;have aq:=HX.cell;go_wp2_with fail;refine(zM hSO hBW hBS P (gN x) d fs left t A 0 d.ep 0 0 x.gP x.gS 0 0 0 none [] 0 W3 (HA.later n) aj ht (.inl rfl) (λ_ f=>by cases f) a6 ao).mono ?_;rintro r E ⟨ok,ag,p⟩;dsimp only at ag;subst ag;clear aq;rw[z.out]at p;rw[z.out];have aa:=dA (p.blk HX ap);cases fo
  ·have V:gF E P (gN x) d fs left (eA t) A/\dP A A W3 E:=by rcases p with⟨_,_,f,h8⟩|⟨f,_⟩;exact⟨f,h8⟩;cases f
   clear p;obtain⟨g1,g2⟩:=(L.later n).turn (x':=(gN x)) R B V.1 V.2 rfl rfl rfl;have q:=dA g1;have M:=dA ((a0.later n).trans g2);clear g1 g2 V;simp only[Bool.false_and];go_wp2;go_ret;exact .no _ z rfl q M
  have H:iW P (mB (gN x) d d.ep x.gP ok) d fs left t A (gW x d) ok W3 E:=by rcases p with⟨f,_⟩|⟨_,f⟩;cases f;exact f
  clear p;simp only[Bool.true_and];cases ok;·have q:Hid (eK P (((gN x):NB).after false) d fs left t C [] [] rs (gW x d) false w E):=((L.later n).jf (x':=((gN x):NB).after false) R B H rfl rfl rfl).chain (a0.later n);clear H;go_wp2;go_ret;exact .fail z rfl q
  have q:Hid (eK P (mB (gN x) d d.ep x.gP true) d fs left t C [] [] rs (gW x d) true w E):=((L.later n).jf (x':=mB (gN x) d d.ep x.gP true) R B H rfl rfl rfl).chain (a0.later n);clear H;have a4:=dA q.at;go_upto_region 6 with fail;refine eY (S:=(λw'=>dC w' X (mA 6 0 d.ep 0 0 x.gP x.gS 0 0 0 (J Z 0 0)) 136)) (λ_=>?_) (hS:=aa.drew);refine dB 0 ?_;refine dB 1 ?_;refine i8 3 X 0 [I 6,I 0,I d.ep,I 0,I 0,I x.gP,I x.gS,I 0,I 0,I 0,J Z 0 0] ?_ (λw o=>o.range rfl);refine dF 2 λK a=>?_;(try go_simp);go_at_call 178;have y0:=a4.drew.cell 0;have y1:=a4.drew.cell 1;simp[mB,NB.stand]at y0 y1;refine(tZ P.Nd x.id x.nodes E.drew y0 y1 N a9).mono ?_;rintro r w5 ⟨rfl,nq,rfl⟩;have F:Below E.heap.size E (E.drew.drewN nq):=b_.drew.trans (below_drewN b_ _);have M:=dA (aa.later F);have U:=dA (a4.later F);have Q:=dA (q.later F);have au:=dA Q.tabs;clear F;generalize World.drewN _ _=W5 at*;refine k1 a (λ_=>?_) M;clear a K y0 y1;refine dF 4 λK a=>?_;(try go_simp);go_at_call 140;have y0:=U.cell 0;have y1:=U.cell 1;simp[mB,NB.stand]at y0 y1;refine(oV P.Nd x.id x.nodes (kC x) 6 0 d.ep 0 0 x.gP x.gS 0 0 0 none [] 0 W5 y0 y1 U.lt au (.inl rfl) ⟨oG,N.2⟩ (uH _ _ N a9) (rF x.id d.ep x.gP x.gS ab a6 aw av)).mono ?_;rintro r w6 ⟨l,rfl,hl,O⟩;obtain⟨az,aB,aD,rfl⟩:=hl.shape;have ai:=dA (M.later O);have am:=dA (Q.later O);have ar:=dA (hl.mono Q.size);clear hl O;refine k1 a (λ_=>?_) ai;clear a K;refine dF 5 λK a=>?_;(try go_simp);refine k1 a (λ_=>?_) ai;clear a K;refine dn ?_;go_wp2;go_ret;exact .ok _ z rfl ar am
def lW.pre{P:Pl}{x:NB}{d:SD}{fs:List FD}{left:Int}{t:Nat}{C:Nat->Prop}{lo:List Ky}{rs:List dJ}{r:Ending}{w w1 w':World}(h:lW P x d fs left t C lo rs r w1 w')(e:dP C C w w1):lW P x d fs left t C lo rs r w w':=by
 rcases h with⟨C',c,a,b,f⟩|⟨c,a,b⟩|⟨l,c,a,b,f⟩;·exact .no C' c a b (e.trans f)
 ·exact .fail c a (b.chain e)
 ·exact .ok l c a (b.mono e.kept.size) (f.chain e)
def iQ(k f e b q:Int):Ky:=(k,e,max b q,f)
def iR(x:NB)(d:SD)(la:List Ky)(k f e b q ph:Int):List Ky:=bif gQ x d e b ph then i7 (iQ k f e b q) la else la
def kJ(x:NB)(d:SD)(la:List Ky)(k f e b q ph:Int):Bool:=(gQ x d e b ph&&!decide (iQ k f e b q∈la))&&decide (x.nodes<2*((iR x d la k f e b q ph).length:Int))
def rO(P:Pl)(x:NB)(d:SD)(fs:List FD)(left:Int)(t:Nat)(C:Nat->Prop)(la lo:List Ky)(rs:List dJ)(k f e b q:Int)(r:Ending)(w w':World):Prop:=((kJ x d la k f e b q 3=false)/\(r=.returned (J Z 0 0))/\(dO w' P x d fs left (eA t) C (iR x d la k f e b q 3) lo rs)/\(dP C C w w'))∨((kJ x d la k f e b q 3=true)/\(lW P x d fs left t C lo rs r w w'))
def rO.no{P:Pl}{x:NB}{d:SD}{fs:List FD}{left:Int}{t:Nat}{C:Nat->Prop}{la lo:List Ky}{rs:List dJ}{k f e b q:Int}{r:Ending}{w w':World}(h:kJ x d la k f e b q 3=false)(c:r=.returned (J Z 0 0))(a:dO w' P x d fs left (eA t) C (iR x d la k f e b q 3) lo rs)(g:dP C C w w'):rO P x d fs left t C la lo rs k f e b q r w w':=.inl ⟨h,c,a,g⟩
def rO.go{P:Pl}{x:NB}{d:SD}{fs:List FD}{left:Int}{t:Nat}{C:Nat->Prop}{la lo:List Ky}{rs:List dJ}{k f e b q:Int}{r:Ending}{w w':World}(h:kJ x d la k f e b q 3=true)(a:lW P x d fs left t C lo rs r w w'):rO P x d fs left t C la lo rs k f e b q r w w':=.inr (⟨h,a⟩)
def FV(hSO:fA)(hBW:fC)(hBS:fD)(P:Pl)(x:NB)(d:SD)(fs:List FD)(left:Int)(t:Nat)(C:Nat->Prop)(la lo:List Ky)(rs:List dJ)(k f e b wa p s q bl v:Int)(a:Option Addr)(F c:Nat)(w:World)(h:dO w P x d fs left (eA t) C la lo rs)(hB:BG t d)(ht:t<=1000000)(Q:x.down=false)(H:2<=x.nodes/\x.nodes<=5)(a2:0<=x.id/\x.id<x.nodes)(a8:0<=x.gP/\x.gP<=5)(a6:0<=x.gS/\x.gS<=31)(aa:la.length<=999999)(B:Nat)(hm:x.ph=3->x.an=some B):Calls pG 198 #[P0 (Y ⟨P.Nd,0,Z⟩),.agg (mA k f e b wa p s q bl v (J a F c))] w λr w'=>rO P x d fs left t C la lo rs k f e b q r w w':=by
 have o:=a_ w (G (mA k f e b wa p s q bl v (J a F c)) 136);have HM:=dA (dC.new w (mA k f e b wa p s q bl v (J a F c)) 136);have HB:=dA o;have HC:=dA (AA P x d fs left (eA t) t C la lo rs k f e b wa p s q bl v a F c 3 B (w.alloc (G (mA k f e b wa p s q bl v (J a F c)) 136)) (h.later o) hB ht (λg=>hm (by unfold gQ at g;rw[Bool.and_eq_true]at g;simpa using g.1)) (.inr rfl));have D:=λw1 (W:List Ky) (h:dO w1 P x d fs left (eA t) C W lo rs)=>FU hSO hBW hBS P x d fs left t C W lo rs w1 h hB ht Q H a2 a8 a6;replace D:=dA D;have N:=dA hm;have L:Hid (dP C C w (w.alloc (G (mA k f e b wa p s q bl v (J a F c)) 136))):=.of_below o;obtain⟨b1,e1⟩:∃y,(gQ x d e b 3&&!decide (iQ k f e b q∈la))=y:=⟨_,rfl⟩;obtain⟨b2,e2⟩:∃y,decide (x.nodes<2*((iR x d la k f e b q 3).length:Int))=y:=⟨_,rfl⟩;have A:Hid (kJ x d la k f e b q 3=(b1&&b2)):=by unfold Hid kJ;rw[e1,e2]
 have a3:=dA e1;have a5:=dA e2;have a1:(iR x d la k f e b q 3).length<=1000000:=by
  unfold iR i7;cases gQ x d e b 3;·simp;omega
  ·simp only[cond_true];split;·omega
   ·simp;omega
 clear h hB Q hm o e1 e2;go_enter func198,ntmps198;go_upto_region 1 with fail;generalize World.alloc _ _=W0 at*;have a4:=HM.cell;go_wp2_with fail;refine HC.mono ?_;rintro r w1 ⟨rfl,a0,V⟩;have i:Hid (dO w1 P x d fs left (eA t) C (iR x d la k f e b q 3) lo rs):=a0;have M:Hid (dP C C w w1):=L.trans V;have j:(gQ x d e b 3&&!decide ((k,e,max b q,f)∈la))=b1:=a3.out;rw[j];clear a0 V HC L a4;cases b1;·clear j;go_wp2;go_ret;exact .no (by rw[A.out];rfl) rfl i M
 have R:x.ph=3:=by rw[Bool.and_eq_true]at j;have g:=j.1;unfold gQ at g;rw[Bool.and_eq_true]at g;simpa using g.1
 have u:=N.out R;have S:fZ w1 B (iR x d la k f e b q 3):=by
  rcases i.an with⟨g,_⟩|⟨B2,g,h8⟩;·rw[u]at g;cases g
  ·rw[u]at g;cases g;exact h8
 have y1:=i.blk.cell 1;have m:=i.blk.cell 24;simp at y1 m;rw[u]at m;have U:=dA (xO P.Nd B x.nodes _ w1 y1 m S H a1);clear j R u S y1 m N;go_wp2_with fail;refine U.mono ?_;rintro r w2 ⟨rfl,nq,rfl⟩;have E:Below w1.heap.size w1 (w1.drewN nq):=below_drewN b_ _;have X:=dA (i.later E);have O:=dA (M.later E);clear E U;generalize World.drewN _ _=W2 at*;rw[a5.out];cases b2;·go_wp2;go_ret;exact .no (by rw[A.out];rfl) rfl X O
 go_wp2_with fail;refine(D.out W2 _ X).mono ?_;rintro r w3 z;have HQ:=dA z;have a7:∃l,r=.returned l/\∃a n c,l=J a n c:=by
  rcases z with⟨C',h1,K,h3,h4⟩|⟨h1,K,h3⟩|⟨l,h1,K,h3,h4⟩;·exact⟨_,K,_,_,_,rfl⟩
  ·exact⟨_,K,_,_,_,rfl⟩
  ·obtain⟨a9,n9,c9,g⟩:=h3.shape;exact⟨l,K,a9,n9,c9,g⟩
 obtain⟨l,rfl,a9,n9,c9,rfl⟩:=a7;clear z;go_wp2;go_ret;exact .go (by rw[A.out];rfl) (HQ.pre O)
def FX(R:SD->List FD->Int->Nat->Prop)(P:Pl)(x:NB)(C:Nat->Prop)(la lo:List Ky)(rs:List dJ)(w w':World):Prop:=∃d' fs' left' L' C',R d' fs' left' L'/\dO w' P x d' fs' left' L' C' la lo rs/\dP C C' w w'
def pF(nd:Bool)(d:SD)(fs:List FD)(left:Int)(t:Nat)(m:dK)(d':SD)(fs':List FD)(left':Int)(L':Nat):Prop:=(nd=false/\d'=d/\fs'=fs/\left'=left/\L'=eA t)∨(nd=true/\∃d1,lV d fs left m true fs' left' d1/\d'=d1.stepM m/\L'=eA (t+1))
section
variable {w w0 w1 w2 w3:World} {P:Pl} {x x':NB} {R:SD->List FD->Int->Nat->Prop} {C C':Nat->Prop} {la lo la' lo':List Ky} {rs rs':List dJ}
def FX.pre(h:FX R P x C la lo rs w0 w1)(e:Below w.heap.size w w0):FX R P x C la lo rs w w1:=by obtain⟨d',fs',left',L',c,d,a,b⟩:=h;exact⟨d',fs',left',L',c,d,a,b.pre e⟩
def FX.chain(h:FX R P x C' la lo rs w1 w2)(e:dP C C' w w1):FX R P x C la lo rs w w2:=by obtain⟨d',fs',left',L',c,d,a,b⟩:=h;exact⟨d',fs',left',L',c,d,a,e.trans b⟩
def FX.later(h:FX R P x C la lo rs w w1)(a:Below w1.heap.size w1 w2):FX R P x C la lo rs w w2:=by obtain⟨d',fs',left',L',d,e,b,c⟩:=h;exact⟨d',fs',left',L',d,e,b.later a,c.later a⟩
def FX.at(h:FX R P x C la lo rs w w1):dC w1 P.Nd x.arr 192:=by obtain⟨d',fs',left',L',c,d,a,b⟩:=h;exact a.blk
def FX.tabs(h:FX R P x C la lo rs w w1):dW w1:=by obtain⟨d',fs',left',L',c,d,a,b⟩:=h;exact a.tabs
def FX.size(h:FX R P x C la lo rs w w1):w.heap.size<=w1.heap.size:=by obtain⟨d',fs',left',L',c,d,b,a⟩:=h;exact a.kept.size
def FX.lt(h:FX R P x C la lo rs w w1){g:Nat}(b:x.own g):g<w1.heap.size:=by obtain⟨d',fs',left',L',d,e,a,c⟩:=h;exact(a.lt g (a.jq g b)).2
def FX.oa(h:FX R P x C la lo rs w w1)(d:dM (λg=>g=P.Nd) w1 w3):iL w3 x.oa lo:=by
 obtain⟨d',fs',left',L',k,l,b,j⟩:=h;have i:=b.blk;exact b.oa.same (λg a=>d.block g (b.oa.lt a) (λe=>by
  rcases b.oa with⟨c,_⟩|⟨B,c,f⟩;·rw[c]at a;cases a
  ·rw[c]at a;cases a;exact f.ne i e))
def FX.row(h:FX R P x C la lo rs w w1)(e:dM (λg=>g=P.Nd) w1 w3):w3.ownsRow P.low 76 5 x.res rs.length (rs.flatMap dJ.cells):=by obtain⟨d',fs',left',L',k,l,a,j⟩:=h;have i:=a.blk.blk;exact dQ a.row (λg c=>e.block g (a.row.lt g c).2 (λf=>by obtain⟨d,b⟩:=eU a.row c;rw[f,i]at b;simp at b))
def FX.reset(h:FX R P x C la lo rs w w1)(k:dM (λg=>g=P.Nd) w1 w3)(i:dC w3 P.Nd x'.arr 192)(hs:x'.St=x.St)(b:∀g,x'.own g->x.own g∨w1.heap.size<=g)(e:iL w3 x'.an la')(c:iL w3 x'.oa lo')(d:∀g,x'.an=some g->x'.oa≠some g)(a:w3.ownsRow P.low 76 5 x'.res rs'.length (rs'.flatMap dJ.cells)):FX R P x' C la' lo' rs' w w3:=by obtain⟨d',fs',left',L',o,j,m,n⟩:=h;obtain⟨f,l⟩:=m.reset k i hs b e c d a;exact⟨d',fs',left',L',_,j,f,n.trans l⟩
def FX.ku{B:Nat}{d:List Ky}(h:FX R P x C la lo rs w w1)(e:x.an=some B)(b:dM (λg=>g=B) w1 w2)(f:fZ w2 B d):FX R P x C d lo rs w w2:=by obtain⟨d',fs',left',L',j,k,c,i⟩:=h;exact⟨d',fs',left',L',j,k,c.ku e b f,i.trans ⟨b.wide (λg a=>a ▸ c.jq B (.inl e)),λ_ a=>.inl a⟩⟩
end
def dU(x:NB):NB:=bif decide (0<x.fo.wa) then{x with gP:=x.fo.p,gS:=x.fo.s} else x
def gC(x:NB)(d:SD):dK:=⟨3,0,d.ep,x.ba,0,(dU x).gP,(dU x).gS,0,0,0,none,0,[]⟩
def pZ(x:NB)(B:Nat):NB:={dU x with ph:=3,an:=some B}
def mN(x:NB)(d:SD):List Ky:=bif (eJ d 3 d.ep x.ba).k==4 then i7 ((eJ d 3 d.ep x.ba).k,(eJ d 3 d.ep x.ba).e,max (eJ d 3 d.ep x.ba).b (eJ d 3 d.ep x.ba).q,x.id) [] else[]
def mC(P:Pl)(x:NB)(d:SD)(fs:List FD)(left:Int)(t:Nat)(C:Nat->Prop)(lo:List Ky)(rs:List dJ)(r:Ending)(w w':World):Prop:=((iZ d 3 d.ep x.ba (dU x).gP (dU x).gS=true)/\(r=.returned (J Z 0 0))/\(eK P ((dU x).after false) d fs left t C [] [] rs (gC x d) false w w'))∨(∃B:Nat,∃l:Value,(r=.returned l)/\(dY w' w.heap.size l (fT (kC x) (gO 3 x.id d.ep x.ba 0 (dU x).gP (dU x).gS 0 0 0 []) x.nodes.toNat))/\(FX (pF (iZ d 3 d.ep x.ba (dU x).gP (dU x).gS) d fs left t (gC x d)) P (pZ x B) C (mN x d) lo rs w w'))
def mC.fail{P:Pl}{x:NB}{d:SD}{fs:List FD}{left:Int}{t:Nat}{C:Nat->Prop}{lo:List Ky}{rs:List dJ}{r:Ending}{w w':World}(h:iZ d 3 d.ep x.ba (dU x).gP (dU x).gS=true)(b:r=.returned (J Z 0 0))(a:eK P ((dU x).after false) d fs left t C [] [] rs (gC x d) false w w'):mC P x d fs left t C lo rs r w w':=.inl ⟨h,b,a⟩
def mC.ok{P:Pl}{x:NB}{d:SD}{fs:List FD}{left:Int}{t:Nat}{C:Nat->Prop}{lo:List Ky}{rs:List dJ}{r:Ending}{w w':World}(B:Nat)(l:Value)(c:r=.returned l)(a:dY w' w.heap.size l (fT (kC x) (gO 3 x.id d.ep x.ba 0 (dU x).gP (dU x).gS 0 0 0 []) x.nodes.toNat))(b:FX (pF (iZ d 3 d.ep x.ba (dU x).gP (dU x).gS) d fs left t (gC x d)) P (pZ x B) C (mN x d) lo rs w w'):mC P x d fs left t C lo rs r w w':=.inr (⟨B,l,c,a,b⟩)
def GN(hSO:fA)(hBW:fC)(hBS:fD)(P:Pl)(x:NB)(d:SD)(fs:List FD)(left:Int)(t:Nat)(C:Nat->Prop)(la lo:List Ky)(rs:List dJ)(w0 w:World)(aH:dP C C w0 w)(h:dO w P x d fs left (eA t) C la lo rs)(hB:BG t d)(ht:t<=1000000)(b5:x.down=false)(ar:2<=x.nodes/\x.nodes<=5)(aZ:0<=x.id/\x.id<x.nodes)(bp:e_ x.ba)(aT:0<=(dU x).gP/\(dU x).gP<=5)(aQ:0<=(dU x).gS/\(dU x).gS<=31):Calls pG 242 #[P0 (Y ⟨P.Nd,0,Z⟩)] w λr w'=>mC P x d fs left t C lo rs r w0 w':=by
 have aC:=hB.ne;have bw:=hB.recs;have bu:=h.tabs.two;have aL:0<=x.id/\x.id<5:=oG;have aE:0<=d.ep/\d.ep<=1000000000000:=by unfold SD.ep;omega
 have ah:=dA aH;have Q:=dA h;have bh:=dA hB;have aJ:=dA b5;have aU:=h.blk.cell 17;simp at aU;clear h hB b5 aH;by_cases aj:0<x.fo.wa;have ap:decide (0<x.fo.wa)=true:=by simpa using aj
 have L:Hid (dU x=({x with gP:=x.fo.p,gS:=x.fo.s}:NB)):=by unfold Hid dU;rw[ap];rfl
 clear aj;go_enter func242,ntmps242;go_upto_region 3 with fail;have a4:=dA Q.blk.drew;have z:=a4.cell 18;have F:=a4.cell 19;simp at z F;refine lU (S:=(λw'=>w'.cell? ⟨P.Nd,18,Z⟩=Y (I x.fo.p)/\w'.cell? ⟨P.Nd,19,Z⟩=Y (I x.fo.s))) (λ_=>?_) (hS:=⟨z,F⟩);have aY:Hid (dM (λg=>g=P.Nd) w w.drew):=dM.of_below (b_.drew);generalize World.drew _=Wd at*;refine dB 0 ?_;refine dB 1 ?_;refine dB 2 ?_;refine dB 3 ?_;refine dB 4 ?_;refine dB 5 ?_;refine dB 6 ?_;refine dB 7 ?_;refine dB 8 ?_;refine dB 9 ?_;refine dB 10 ?_;refine dB 11 ?_;refine dB 12 ?_;refine dB 13 ?_;refine dB 14 ?_;refine dF 15 λK c=>?_;have e8:=a4.cell 8;simp at e8;have bc:=a4.free 8;have f:dI P.Nd Wd (Wd.setCell ⟨P.Nd,8,Z⟩ (I x.fo.p)):=(dI.self P.Nd Wd).set 8 (I x.fo.p);have a5:Hid (dC (Wd.setCell ⟨P.Nd,8,Z⟩ (I x.fo.p)) P.Nd ({x with gP:=x.fo.p}:NB).arr 192):=by have i:=a4.set 8 (I x.fo.p);unfold Hid;simpa using i
 have aF:Hid (dM (λg=>g=P.Nd) w (Wd.setCell ⟨P.Nd,8,Z⟩ (I x.fo.p))):=aY.trans (B:=λg=>g=P.Nd) ⟨f.os,f.tape,f.output,by rw[f.size];exact Nat.le_refl _,λk hk hA=>f.block k hA⟩ (λ_ O=>O) (λ_ _ O=>O);clear f;(try go_simp);generalize World.setCell _ _ _=We at*;clear e8 bc z F;have z:=a5.cell 18;have F:=a5.cell 19;simp at z F;refine k2 c (λ_=>?_) ⟨z,F⟩;clear c K;refine dB 16 ?_;refine dB 17 ?_;refine dB 18 ?_;refine dF 19 λK c=>?_;have e9:=a5.cell 9;simp at e9;have b8:=a5.free 9;have f:dI P.Nd We (We.setCell ⟨P.Nd,9,Z⟩ (I x.fo.s)):=(dI.self P.Nd We).set 9 (I x.fo.s);have ae:Hid (dC (We.setCell ⟨P.Nd,9,Z⟩ (I x.fo.s)) P.Nd ({x with gP:=x.fo.p,gS:=x.fo.s}:NB).arr 192):=by have i:=a5.set 9 (I x.fo.s);unfold Hid;simpa using i
 have aa:Hid (dM (λg=>g=P.Nd) w (We.setCell ⟨P.Nd,9,Z⟩ (I x.fo.s))):=aF.trans (B:=λg=>g=P.Nd) ⟨f.os,f.tape,f.output,by rw[f.size];exact Nat.le_refl _,λk hk hA=>f.block k hA⟩ (λ_ O=>O) (λ_ _ O=>O);clear f;(try go_simp);generalize World.setCell _ _ _=W1 at*;clear e9 b8 z F;have z:=ae.cell 18;have F:=ae.cell 19;simp at z F;refine k2 c (λ_=>?_) ⟨z,F⟩;clear c K z F;refine dn ?_;have az:=Q.reset (x':=({x with gP:=x.fo.p,gS:=x.fo.s}:NB)) (la':=la) (lo':=lo) (rs':=rs) aa ae rfl (λg M=>.inl M) (Q.an.same (λg M=>aa.block g (Q.an.lt M) (λO=>by rcases Q.an with⟨h8,_⟩|⟨B,h8,h7⟩;rw[h8]at M;cases M;rw[h8]at M;cases M;exact h7.ne Q.blk O))) (Q.oa.same (λg M=>aa.block g (Q.oa.lt M) (λO=>by rcases Q.oa with⟨h8,_⟩|⟨B,h8,h7⟩;rw[h8]at M;cases M;rw[h8]at M;cases M;exact h7.ne Q.blk O))) Q.ne (dQ Q.row (λg M=>aa.block g (Q.row.lt g M).2 (λO=>by obtain⟨bv,i⟩:=eU Q.row M;rw[O,Q.blk.blk]at i;simp at i)));have W:=dA az.1;have ag:=dA (ah.trans az.2);clear az Q a4 a5 ae aY aF aa aU ah;generalize x.fo.p=a at W L;generalize x.fo.s=b at W L;generalize W1=w at*;rotate_left;have ap:decide (0<x.fo.wa)=false:=by simpa using aj
 obtain⟨a,b,ay⟩:∃a b,x=({x with gP:=a,gS:=b}:NB):=⟨x.gP,x.gS,rfl⟩;have L:Hid (dU x=({x with gP:=a,gS:=b}:NB)):=by unfold Hid dU;rw[ap];exact ay
 clear aj;go_enter func242,ntmps242;have W:Hid (dO w P ({x with gP:=a,gS:=b}:NB) d fs left (eA t) C la lo rs):=by rw[←ay];exact Q
 have ag:=ah;clear Q ah ay;all_goals
  obtain⟨A,hA,ak,a9⟩:=W.nod
  obtain⟨vr,va,h1,h2,h3⟩:=hA.ex
  have aN:Hid (eE w P.low x.St d vr P.Mp P.D):=h1
  have HA:=dA hA
  have m:=dA hA.blk
  clear hA h1 h2 h3
  have R:Below w.heap.size w (w.alloc (G mz 136)).drew:=(a_ _ _).drew
  have a0:Below w.heap.size w (w.alloc (G (mA 3 0 d.ep x.ba 0 a b 0 0 0 (J Z 0 0)) 136)).drew:=(a_ _ _).drew
  have ad:Below w.heap.size w w.drew:=b_.drew
  go_upto_region 4 with fail
  go_cut [4] (λs4 wx=>∃X,s4=P0 (Y ⟨X,0,Z⟩)/\w.heap.size<=X/\dC wx X (mA 3 0 d.ep x.ba 0 a b 0 0 0 (J Z 0 0)) 136/\Below w.heap.size w wx)
  case first=>
   refine lU (S:=(λw'=>dC w' P.Nd ({x with gP:=a,gS:=b}:NB).arr 192)) (λ_=>?_) (hS:=m.drew)
   refine dB 0 ?_;refine dB 1 ?_;refine dB 2 ?_;refine dB 3 ?_ (hy:=by intro w j;have i:=j.cell 3;simp at i;go_simp;(try with_reducible rfl));refine dB 4 ?_;refine dB 5 ?_;refine dB 7 ?_;refine dB 8 ?_;refine dB 9 ?_;refine dB 10 ?_ (hy:=by intro w j;have i:=j.cell 11;simp at i;go_simp;(try with_reducible rfl));refine dB 11 ?_;refine dB 12 ?_;refine dB 13 ?_;refine dB 14 ?_;refine dB 15 ?_ (hy:=by intro w j;have i:=j.cell 8;simp at i;go_simp;(try with_reducible rfl));refine dB 16 ?_;refine dB 17 ?_;refine dB 18 ?_;refine dB 19 ?_;refine dB 20 ?_ (hy:=by intro w j;have i:=j.cell 9;simp at i;go_simp;(try with_reducible rfl))
   refine jC [6,22] ?_
   refine .cons rfl (λK c=>?_) ?_
   ·(try go_simp)
    go_at_call 179
    refine(lQ P.low x.St d vr P.Mp P.D _ (aN.later ad) aC oG).mono ?_
    rintro r w1 ⟨rfl,rfl⟩
    refine k2 c (λ_=>?_) (m.later ad);clear c K
    refine jC [21,22] ?_
    refine .cons rfl (λK c=>?_) ?_
    ·(try go_simp)
     refine k2 c (λ_=>?_) (m.later ad);clear c K
     refine dF 22 λK c=>?_
     (try go_simp)
     refine k2 c (λ_=>?_) (m.later R);clear c K
     refine dF 23 λK c=>?_
     (try go_simp)
     refine k2 c (λ_=>?_) (m.later a0);clear c K
     refine dn ?_
     go_wp2_with fail
     go_meet
     exact⟨w.heap.size,rfl,Nat.le_refl _,(dC.new _ _ _).drew,a0⟩
    refine .cons rfl (λK c=>?_) .nil
    (try go_simp)
    refine k2 c (λ_=>?_) (m.later R);clear c K
    refine dF 21 λK c=>?_
    (try go_simp)
    refine k2 c (λ_=>?_) (m.later R);clear c K
    refine dF 23 λK c=>?_
    (try go_simp)
    refine k2 c (λ_=>?_) (m.later a0);clear c K
    refine dn ?_
    go_wp2_with fail
    go_meet
    exact⟨w.heap.size,rfl,Nat.le_refl _,(dC.new _ _ _).drew,a0⟩
   refine .cons rfl (λK c=>?_) .nil
   (try go_simp)
   refine k2 c (λ_=>?_) (m.later R);clear c K
   refine dF 6 λK c=>?_
   (try go_simp)
   go_at_call 179
   refine(lQ P.low x.St d vr P.Mp P.D _ (aN.later R) aC oG).mono ?_
   rintro r w1 ⟨rfl,rfl⟩
   refine k2 c (λ_=>?_) (m.later R);clear c K
   refine dF 21 λK c=>?_
   (try go_simp)
   refine k2 c (λ_=>?_) (m.later R);clear c K
   refine dF 23 λK c=>?_
   (try go_simp)
   refine k2 c (λ_=>?_) (m.later a0);clear c K
   refine dn ?_
   go_wp2_with fail
   go_meet
   exact⟨w.heap.size,rfl,Nat.le_refl _,(dC.new _ _ _).drew,a0⟩
  case rest=>
   clear R ad a0
   obtain⟨X,rfl,hX,aX,al⟩:=hcut
   obtain⟨W3,bk⟩:∃y,y=wc:=⟨_,rfl⟩
   subst bk
   have HX:=dA aX;have a1:=dA al;have bs:=al.size;clear aX al
   have bo:¬A X:=HA.fresh hX
   have bq:=HX.cell
   go_wp2_with fail
   refine(zF hSO hBW hBS P ({x with gP:=a,gS:=b}:NB) d fs left t A 3 0 d.ep x.ba 0 a b 0 0 0 none [] 0 W3 (HA.later a1) bh ht (.inl rfl) (λ_ i=>by cases i) aE (.inr rfl) aJ).mono ?_
   rintro r U ⟨ok,b7,V⟩
   dsimp only at b7
   subst b7
   clear bq
   have b0:=dA (V.blk HX bo)
   obtain⟨nd,aB⟩:∃y,iZ d 3 d.ep x.ba a b=y:=⟨_,rfl⟩
   rw[aB]at V
   have aG:Hid (iZ d 3 d.ep x.ba (dU x).gP (dU x).gS=nd):=by unfold Hid;rw[L.out];exact aB
   have ax:Hid (gC x d=⟨3,0,d.ep,x.ba,0,a,b,0,0,0,none,0,[]⟩):=by unfold Hid gC;rw[L.out]
   clear aB
   by_cases a8:nd=true/\ok=false
   ·obtain⟨rfl,rfl⟩:=a8
    have aO:iW P ((({x with gP:=a,gS:=b}:NB):NB).after false) d fs left t A (⟨3,0,d.ep,x.ba,0,a,b,0,0,0,none,0,[]⟩:dK) false W3 U:=by rcases V with⟨i,_⟩|⟨_,i⟩;cases i;exact i
    clear V
    have E:Hid (eK P ((({x with gP:=a,gS:=b}:NB):NB).after false) d fs left t C [] [] rs (⟨3,0,d.ep,x.ba,0,a,b,0,0,0,none,0,[]⟩:dK) false w0 U):=((W.later a1).jf (x':=(({x with gP:=a,gS:=b}:NB):NB).after false) ak a9 aO rfl rfl rfl).chain (ag.later a1)
    clear aO
    generalize (bif false then eJ d 3 d.ep x.ba else iJ.nil)=o
    have c4:=E.at.cell 4;simp[NB.after,NB.stand]at c4
    have aA:=E.at.lt
    have a3:Hid (Below U.heap.size U (U.alloc (G (mA o.k x.id o.e o.b o.wa o.p o.s o.q o.bl o.v (J Z 0 0)) 136))):=a_ _ _
    have n4:=(a3.cell (p:=⟨P.Nd,4,Z⟩) aA).trans c4
    go_wp2
    go_ret
    refine .fail aG rfl ?_
    rw[ax.out,L.out]
    exact E.later a3
   have b9:ok=true:=by
    rcases V with⟨_,i,_⟩|⟨i,_⟩
    ·exact i
    ·cases ok
     ·exact absurd ⟨i,rfl⟩ a8
     ·rfl
   subst b9
   clear a8
   have E:Hid (FX (pF nd d fs left t (gC x d)) P ({x with gP:=a,gS:=b}:NB) C la lo rs w0 U):=by
    rcases V with⟨i,_,h8,h7⟩|⟨i,h8⟩
    ·obtain⟨g1,g2⟩:=(W.later a1).turn (x':=({x with gP:=a,gS:=b}:NB)) ak a9 h8 h7 rfl rfl rfl
     exact⟨d,fs,left,eA t,_,.inl ⟨i,rfl,rfl,rfl,rfl⟩,g1,(ag.later a1).trans g2⟩
    ·have h7:=((W.later a1).saved (x':=({x with gP:=a,gS:=b}:NB)) ak a9 h8 rfl rfl rfl).chain (ag.later a1)
     obtain⟨fs',left',d1,C2,g1,g2,g3⟩:=h7
     exact⟨_,fs',left',_,C2,.inr ⟨i,d1,by rw[ax.out];exact g1,by rw[ax.out];rfl,rfl⟩,g2,g3⟩
   clear V
   generalize ho:(bif true then eJ d 3 d.ep x.ba else iJ.nil)=o
   have HO:Hid (o=eJ d 3 d.ep x.ba):=ho.symm
   clear ho
   have c4:=E.at.cell 4;simp at c4;rw[aJ.out]at c4
   have aA:=E.at.lt
   have aK:Hid (dC (U.alloc (G (mA o.k x.id o.e o.b o.wa o.p o.s o.q o.bl o.v (J Z 0 0)) 136)) U.heap.size (mA o.k x.id o.e o.b o.wa o.p o.s o.q o.bl o.v (J Z 0 0)) 136):=dC.new _ _ _
   have aR:=dA (b0.old (G (mA o.k x.id o.e o.b o.wa o.p o.s o.q o.bl o.v (J Z 0 0)) 136))
   have aI:=dA (E.at.old (G (mA o.k x.id o.e o.b o.wa o.p o.s o.q o.bl o.v (J Z 0 0)) 136))
   have a3:Hid (Below U.heap.size U (U.alloc (G (mA o.k x.id o.e o.b o.wa o.p o.s o.q o.bl o.v (J Z 0 0)) 136))):=a_ _ _
   have n4:=(a3.cell (p:=⟨P.Nd,4,Z⟩) aA).trans c4
   go_upto_region 8 with fail
   generalize World.alloc _ _=u at*
   have bA:=@run_makeMap pG
   have N:=dA (aI.old (Obj.map #[] 0));have aq:=dA (aR.old (Obj.map #[] 0));have aw:=dA (aK.old (Obj.map #[] 0))
   have av:Hid (fZ (u.alloc (Obj.map #[] 0)) u.heap.size []):=⟨⟨#[],0,heap_alloc_new _ _,rfl⟩⟩
   have e6:=N.cell 6;have aV:=N.cell 24;simp at e6 aV
   have bn:=N.free 6;have b3:=N.free 24
   have f:dI P.Nd (u.alloc (Obj.map #[] 0)) (((u.alloc (Obj.map #[] 0)).setCell ⟨P.Nd,6,Z⟩ (I 3)).setCell ⟨P.Nd,24,Z⟩ (Value.map (some u.heap.size))):=((dI.self P.Nd _).set 6 (I 3)).set 24 (Value.map (some u.heap.size))
   have H:Hid (dC (((u.alloc (Obj.map #[] 0)).setCell ⟨P.Nd,6,Z⟩ (I 3)).setCell ⟨P.Nd,24,Z⟩ (Value.map (some u.heap.size))) P.Nd ({({x with gP:=a,gS:=b}:NB) with ph:=3,an:=some u.heap.size}:NB).arr 192):=by have i:=(N.set 6 (I 3)).set 24 (Value.map (some u.heap.size));unfold Hid;simpa using i
   have a7:=dA (aq.same (f.block X (aq.ne N dG)));have a6:=dA (aw.same (f.block U.heap.size (aw.ne N dG)));have a2:=dA (av.same (f.block _ (av.ne N)))
   have ai:Hid (dM (λg=>g=P.Nd) U (((u.alloc (Obj.map #[] 0)).setCell ⟨P.Nd,6,Z⟩ (I 3)).setCell ⟨P.Nd,24,Z⟩ (Value.map (some u.heap.size)))):=(dM.of_below (A:=λ_=>False) (a3.alloc a3.size (Obj.map #[] 0))).trans (B:=λg=>g=P.Nd) ⟨f.os,f.tape,f.output,by rw[f.size];exact Nat.le_refl _,λk hk hA=>f.block k hA⟩ (λ_ O=>O.elim) (λ_ _ O=>O)
   have b2:U.heap.size<=u.heap.size:=a3.size
   clear f
   go_upto_region 9 with fail
   generalize World.setCell _ _ _=W7 at*
   clear e6 aV bn b3 N aq aw av aI aR aK b0 HX m
   have af:Hid (FX (pF nd d fs left t (gC x d)) P ({({x with gP:=a,gS:=b}:NB) with ph:=3,an:=some u.heap.size}:NB) C [] lo rs w0 W7):=E.reset (x':=({({x with gP:=a,gS:=b}:NB) with ph:=3,an:=some u.heap.size}:NB)) ai H rfl (λg M=>M.elim (λi=>.inr (by cases i;exact b2)) (λi=>.inl (.inr i))) (.inr ⟨u.heap.size,rfl,a2⟩) (E.oa ai) (λg M O=>by cases M;exact absurd (E.lt (.inr (.inl O))) (Nat.not_lt.2 b2)) (E.row ai)
   have b6:u.heap.size≠P.Nd:=a2.ne H
   have bi:u.heap.size≠U.heap.size:=a2.ne a6
   have bj:u.heap.size≠X:=a2.ne a7
   have aM:=a6.cell
   obtain⟨b4,h4⟩:∃y,(o.k==4)=y:=⟨_,rfl⟩
   have bf:Hid (mN x d=bif b4 then i7 (o.k,o.e,max o.b o.q,x.id) [] else[]):=by have i:=HO.out;subst i;unfold Hid mN;rw[h4]
   cases b4
   go_upto_region 11 with fail
   clear a2 a6 aM
   rotate_left
   go_upto_region 10 with fail
   focus go_cut [77] (λs77 wx=>fZ wx u.heap.size (i7 (o.k,o.e,max o.b o.q,x.id) [])/\dM (λg=>g=u.heap.size) W7 wx)
   case first=>
    refine eY (S:=(λw'=>dC w' P.Nd ({({x with gP:=a,gS:=b}:NB) with ph:=3,an:=some u.heap.size}:NB).arr 192/\dC w' U.heap.size (mA o.k x.id o.e o.b o.wa o.p o.s o.q o.bl o.v (J Z 0 0)) 136)) (λ_=>?_) (hS:=⟨H.drew,a6.drew⟩)
    refine dB 0 ?_;refine dB 1 ?_;refine dB 2 ?_;refine dB 3 ?_ (hy:=by intro w j;have i:=j.1.cell 24;simp at i;go_simp;(try with_reducible rfl));refine i8 4 U.heap.size 0 [I o.k,I x.id,I o.e,I o.b,I o.wa,I o.p,I o.s,I o.q,I o.bl,I o.v,J Z 0 0] ?_ (λw j=>j.2.range rfl)
    refine dF 5 λK c=>?_
    (try go_simp)
    go_at_call 188
    refine(rZ u.heap.size [] o.k x.id o.e o.b o.wa o.p o.s o.q o.bl o.v none 0 0 W7.drew ⟨a2.obj⟩).mono ?_
    rintro r wv ⟨rfl,ab,n⟩
    have br:=dA (n.jk a6.drew (Ne.symm bi));have bm:=dA (n.jk H.drew (Ne.symm b6))
    refine k1 c (λ_=>?_) ⟨bm,br⟩
    clear c K
    refine dn ?_
    go_wp2_with fail
    go_meet
    exact⟨ab,⟨n.os,n.tape,n.output,n.size,n.block⟩⟩
   obtain⟨ab,n⟩:=hcut
   obtain⟨Wa,bb⟩:∃y,y=wc:=⟨_,rfl⟩
   subst bb
   have aW:=dA (n.jk a7 (Ne.symm bj));have aP:=dA (n.jk H (Ne.symm b6))
   have aD:=dA (af.ku rfl n ab)
   clear ab n a7 H af a2 a6 ai aM
   have a7:=aW;have H:=aP;have af:=aD
   clear aW aP aD
   generalize Wa=W7 at*
   go_upto_region 11 with fail
   all_goals
    refine eY (S:=(λw'=>dC w' X (mA 3 0 d.ep x.ba 0 a b 0 0 0 (J Z 0 0)) 136)) (λ_=>?_) (hS:=a7.drew)
    refine dB 0 ?_;refine dB 1 ?_;refine i8 3 X 0 [I 3,I 0,I d.ep,I x.ba,I 0,I a,I b,I 0,I 0,I 0,J Z 0 0] ?_ (λw j=>j.range rfl)
    refine dF 2 λK c=>?_
    (try go_simp)
    go_at_call 178
    have y0:=H.drew.cell 0;have y1:=H.drew.cell 1;simp at y0 y1
    refine(tZ P.Nd x.id x.nodes W7.drew y0 y1 ar aZ).mono ?_
    rintro r wv ⟨rfl,nq,rfl⟩
    have ac:Below W7.heap.size W7 (W7.drew.drewN nq):=b_.drew.trans (below_drewN b_ _)
    have aS:=dA (a7.later ac);have ao:=dA (H.later ac);have au:=dA (af.later ac);have be:=dA au.tabs
    clear ac
    generalize World.drewN _ _=W8 at*
    refine k1 c (λ_=>?_) aS
    clear c K y0 y1
    refine dF 4 λK c=>?_
    (try go_simp)
    go_at_call 140
    have y0:=ao.cell 0;have y1:=ao.cell 1;simp at y0 y1
    refine(oV P.Nd x.id x.nodes (kC x) 3 0 d.ep x.ba 0 a b 0 0 0 none [] 0 W8 y0 y1 ao.lt be (.inl rfl) ⟨oG,ar.2⟩ (uH _ _ ar aZ) (uY x.id d.ep x.ba a b aL aE bp (by rw[L.out]at aT;exact aT) (by rw[L.out]at aQ;exact aQ))).mono ?_
    rintro r w9 ⟨l,rfl,hl,am⟩
    obtain⟨bt,bx,bz,rfl⟩:=hl.shape
    have b1:=dA (aS.later am);have bg:=dA (au.later am);have bd:=dA (hl.mono au.size)
    clear hl am
    refine k1 c (λ_=>?_) b1
    clear c K
    refine dF 5 λK c=>?_
    (try go_simp)
    refine k1 c (λ_=>?_) b1
    clear c K
    refine dn ?_
    go_wp2
    go_ret
    refine .ok u.heap.size _ rfl ?_ ?_
    ·rw[L.out];exact bd
    ·rw[aG.out,bf.out];unfold pZ;rw[L.out];exact bg
def GO(hSO:fA)(hBW:fC)(hBS:fD)(P:Pl)(x:NB)(d:SD)(fs:List FD)(left:Int)(t:Nat)(C:Nat->Prop)(la lo:List Ky)(rs:List dJ)(w:World)(h:dO w P x d fs left (eA t) C la lo rs)(j:BG t d)(i:t<=1000000)(b:x.down=false)(a:2<=x.nodes/\x.nodes<=5)(f:0<=x.id/\x.id<x.nodes)(c:e_ x.ba)(g:0<=(dU x).gP/\(dU x).gP<=5)(e:0<=(dU x).gS/\(dU x).gS<=31):
  Calls pG 242 #[P0 (Y ⟨P.Nd,0,Z⟩)] w λr w'=>mC P x d fs left t C lo rs r w w':=GN hSO hBW hBS P x d fs left t C la lo rs w w .refl h j i b a f c g e
end Go.Proofs.YtdcainmlcpafbaaGreatDoor
