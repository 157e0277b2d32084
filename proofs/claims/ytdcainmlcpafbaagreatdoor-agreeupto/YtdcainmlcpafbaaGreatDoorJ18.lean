import Derived.Test.YtdcainmlcpafbaaGreatDoorJ16
import Derived.Test.YtdcainmlcpafbaaGreatDoorJ17
set_option linter.all false
set_option maxHeartbeats 8000000
set_option maxRecDepth 20000
namespace Go.Proofs.YtdcainmlcpafbaaGreatDoor
open Go.RowKit
open Value renaming int->I,slice->J,pointer->P0
open Tryz
open Tryz renaming prog->pG
open IntKind renaming i64->T
open Option renaming none->Z,some->Y
open Obj renaming cells->G
open Value (bool)
@[reducible] def gI(x:NB):NB:={x with ph:=0,gE:=0,gP:=0,gS:=0,jo:=0,ba:=0,rf:=0,fo:=⟨0,0,0,0,0,0,0,0,0,0⟩,an:=none}
def gO(x:NB)(d:SD):dI:=⟨6,0,d.ep,0,0,x.gP,x.gS,0,0,0,none,0,[]⟩
theorem AM(a:Act)(v:Value):a.put none v=a:=rfl
theorem eI.chain{w w1 w2:World}{P:Pl}{x:NB}{d:SD}{fs:List FD}{left:Int}{t:Nat}{C C':Nat->Prop}{la lo:List Ky}{rs:List dJ}{m:dI}{ok:Bool}(h:eI P x d fs left t C' la lo rs m ok w1 w2)(e:dN C C' w w1):eI P x d fs left t C la lo rs m ok w w2:=by obtain⟨fs',left',d',b,f,a,c⟩:=h;exact⟨fs',left',d',b,f,a,e.trans c⟩
def lG(P:Pl)(x:NB)(d:SD)(fs:List FD)(left:Int)(t:Nat)(C:Nat->Prop)(lo:List Ky)(rs:List dJ)(r:Ending)(w w':World):Prop:=(∃C':Nat->Prop,(jQ d d.ep x.gP x.gS=false)/\(r=.returned (J Z 0 0))/\(dM w' P (gI x) d fs left (dX t) C' [] lo rs)/\(dN C C' w w'))∨((jQ d d.ep x.gP x.gS=true)/\(r=.returned (J Z 0 0))/\(eI P ((gI x).after false) d fs left t C [] [] rs (gO x d) false w w'))∨(∃l:Value,(jQ d d.ep x.gP x.gS=true)/\(r=.returned l)/\(dW w' w.heap.size l (fQ (jN x) (gJ 6 x.id d.ep 0 0 x.gP x.gS 0 0 0 []) x.nodes.toNat))/\(eI P (lM (gI x) d d.ep x.gP true) d fs left t C [] [] rs (gO x d) true w w'))
theorem lG.no{P:Pl}{x:NB}{d:SD}{fs:List FD}{left:Int}{t:Nat}{C:Nat->Prop}{lo:List Ky}{rs:List dJ}{r:Ending}{w w':World}(C':Nat->Prop)(h:jQ d d.ep x.gP x.gS=false)(b:r=.returned (J Z 0 0))(a:dM w' P (gI x) d fs left (dX t) C' [] lo rs)(c:dN C C' w w'):lG P x d fs left t C lo rs r w w':=.inl ⟨C',h,b,a,c⟩
theorem lG.fail{P:Pl}{x:NB}{d:SD}{fs:List FD}{left:Int}{t:Nat}{C:Nat->Prop}{lo:List Ky}{rs:List dJ}{r:Ending}{w w':World}(h:jQ d d.ep x.gP x.gS=true)(b:r=.returned (J Z 0 0))(a:eI P ((gI x).after false) d fs left t C [] [] rs (gO x d) false w w'):lG P x d fs left t C lo rs r w w':=.inr (.inl ⟨h,b,a⟩)
theorem lG.ok{P:Pl}{x:NB}{d:SD}{fs:List FD}{left:Int}{t:Nat}{C:Nat->Prop}{lo:List Ky}{rs:List dJ}{r:Ending}{w w':World}(l:Value)(h:jQ d d.ep x.gP x.gS=true)(c:r=.returned l)(a:dW w' w.heap.size l (fQ (jN x) (gJ 6 x.id d.ep 0 0 x.gP x.gS 0 0 0 []) x.nodes.toNat))(b:eI P (lM (gI x) d d.ep x.gP true) d fs left t C [] [] rs (gO x d) true w w'):lG P x d fs left t C lo rs r w w':=.inr (.inr (⟨l,h,c,a,b⟩))
theorem EQ(hSO:eW)(hBW:eZ)(hBS:fA)(P:Pl)(x:NB)(d:SD)(fs:List FD)(left:Int)(t:Nat)(C:Nat->Prop)(la lo:List Ky)(rs:List dJ)(w:World)(h:dM w P x d fs left (dX t) C la lo rs)(hB:BG t d)(ht:t<=1000000)(ad:x.down=false)(N:2<=x.nodes/\x.nodes<=5)(a9:0<=x.id/\x.id<x.nodes)(av:0<=x.gP/\x.gP<=5)(au:0<=x.gS/\x.gS<=31):Calls pG 243 #[P0 (Y ⟨P.Nd,0,Z⟩)] w fun r w'=>lG P x d fs left t C lo rs r w w':=by
 have a5:=hB.ne;have ax:=hB.recs;have az:=h.tabs.two;have ab:0<=x.id/\x.id<5:=by omega
 have a6:0<=d.ep/\d.ep<=1000000000000:=by unfold SD.ep;omega
 have a3:=a_ w (G #[I T x.gE,I T x.gP,I T x.gS] 66);have HB:=dA a3;have HG:=dA (dC.new w #[I T x.gE,I T x.gP,I T x.gS] 66);have HF:=dA (h.later a3);have aj:=dA hB;have an:=dA ad;have v:=dA HF.out.blk;have n7:=h.blk.cell 7;have n8:=h.blk.cell 8;have n9:=h.blk.cell 9;simp at n7 n8 n9;have aF:Hid (∀g,w.heap.size<=g->¬C g):=fun g W=>h.fresh W;obtain⟨fo,af⟩:∃y,jQ d d.ep x.gP x.gS=y:=⟨_,rfl⟩;have z:=dA af;clear h hB ad a3 af;go_enter func243,ntmps243;go_upto_region 2 with fail;generalize World.alloc _ _=W1 at*;clear n7 n8 n9;have aD:=HB.out.size;have ah:=k9 (P:=pG) (t:=188) (i:=6) (vs:=#[I T 0,I T 0,I T 0,I T 0,I T 0,I T 0,I T 0,I T 0,I T 0,I T 0,I T 0,I T 0,I T 0,I T 0,I T 0,I T 0,I T 0,J Z 0 0,Value.map none]) v sA (by simp) (by intro u hu;simp at hu;rcases hu with rfl|rfl|rfl<;>rfl) (gI x).arr (by simp);have m:=jU W1 P.Nd (gI x).arr;have c:=dA (v.out.row (ds:=(gI x).arr));have e:=dA (HG.out.same (m.block w.heap.size (HG.out.ne v (by decide))));have ac:dK (fun g=>g=P.Nd) W1 (W1.setRow P.Nd (gI x).arr):=⟨m.os,m.tape,m.output,by rw[m.size];exact Nat.le_refl _,fun k hk hA=>m.block k hA⟩;have a1:dM (W1.setRow P.Nd (gI x).arr) P (gI x) d fs left (dX t) (fun g=>C g∨((gI x):NB).own g) [] lo rs/\dN C (fun g=>C g∨((gI x):NB).own g) W1 (W1.setRow P.Nd (gI x).arr):=by have ak:iD (W1.setRow P.Nd (gI x).arr) x.oa lo:=HF.out.oa.node v m;have a8:=dO HF.out.row (w':=W1.setRow P.Nd (gI x).arr) (fun g W=>m.block g (fun hh=>by obtain⟨aB,f⟩:=eT HF.out.row W;rw[hh,v.out.blk]at f;simp at f));exact HF.out.reset (x':=(gI x)) ac c rfl (fun g W=>.inl (by rcases W with f|f|f;cases f;exact .inr (.inl f);exact .inr (.inr f))) (.inl ⟨rfl,rfl⟩) ak (fun g W=>by cases W) a8
 have L:=dA a1.1;have a0:=dA (a1.2.pre HB);have aE:W1.heap.size<=(W1.setRow P.Nd (gI x).arr).heap.size:=by rw[m.size];exact Nat.le_refl _
 clear a1 ac m HF v HG;go_upto_region 3 with(refine pU rfl 188 _ _ rfl _ _ rfl rfl ah ?_);rw[AM];clear ah;generalize World.setRow _ _ _=W2 at*;obtain⟨A,hA,R,B⟩:=L.out.nod;obtain⟨vr,va,h1,h2,h3⟩:=hA.ex;have ae:Hid (dZ W2 P.low x.St d vr P.Mp P.D):=h1;have HA:=dA hA;clear hA h1 h2 h3;have b:Below W2.heap.size W2 (W2.alloc (G #[I T 0,I T 0,I T 0,I T 0,I T 0,I T 0,I T 0,I T 0,I T 0,I T 0,J Z 0 0] 136)).drew:=(a_ _ _).drew;have j:Below W2.heap.size W2 (W2.alloc (G #[I T 6,I T 0,I T d.ep,I T 0,I T 0,I T x.gP,I T x.gS,I T 0,I T 0,I T 0,J Z 0 0] 136)).drew:=(a_ _ _).drew;have s:Below W2.heap.size W2 W2.drew:=b_.drew;go_cut [4] (fun s4 wx=>∃X,s4=P0 (Y ⟨X,0,Z⟩)/\W2.heap.size<=X/\dC wx X #[I T 6,I T 0,I T d.ep,I T 0,I T 0,I T x.gP,I T x.gS,I T 0,I T 0,I T 0,J Z 0 0] 136/\Below W2.heap.size W2 wx);case first=>
  refine lE (S:=(fun w'=>dC w' P.Nd (gI x).arr 192/\dC w' w.heap.size #[I T x.gE,I T x.gP,I T x.gS] 66)) (fun _=>?_) (hS:=⟨c.out.drew,e.out.drew⟩);refine dB 0 ?_;refine dB 1 ?_;refine dB 2 ?_;refine dB 3 ?_ (hy:=by intro w o;have f:=o.1.cell 3;simp at f;go_simp;(try with_reducible rfl));refine dB 4 ?_;refine dB 5 ?_;refine dB 7 ?_;refine dB 8 ?_ (hy:=by intro w o;have f:=o.2.cell 1;simp at f;go_simp;(try with_reducible rfl));refine dB 9 ?_;refine dB 10 ?_ (hy:=by intro w o;have f:=o.2.cell 2;simp at f;go_simp;(try with_reducible rfl));refine iY [6,12] ?_;refine .cons rfl (fun K a=>?_) ?_
  ·(try go_simp);go_at_call 179;refine(kE P.low x.St d vr P.Mp P.D _ (ae.out.later s) a5 (by omega)).mono ?_;rintro r w1 ⟨rfl,rfl⟩;refine k2 a (fun _=>?_) ⟨c.out.later s,e.out.later s⟩;clear a K;refine iY [11,12] ?_;refine .cons rfl (fun K a=>?_) ?_;·(try go_simp);refine k2 a (fun _=>?_) ⟨c.out.later s,e.out.later s⟩;clear a K;refine dE 12 fun K a=>?_;(try go_simp);refine k2 a (fun _=>?_) ⟨c.out.later b,e.out.later b⟩;clear a K;refine dE 13 fun K a=>?_;(try go_simp);refine k2 a (fun _=>?_) ⟨c.out.later j,e.out.later j⟩;clear a K;refine dn ?_;go_wp2_with fail;go_meet;exact⟨W2.heap.size,rfl,Nat.le_refl _,(dC.new _ _ _).drew,j⟩
   refine .cons rfl (fun K a=>?_) .nil;(try go_simp);refine k2 a (fun _=>?_) ⟨c.out.later b,e.out.later b⟩;clear a K;refine dE 11 fun K a=>?_;(try go_simp);refine k2 a (fun _=>?_) ⟨c.out.later b,e.out.later b⟩;clear a K;refine dE 13 fun K a=>?_;(try go_simp);refine k2 a (fun _=>?_) ⟨c.out.later j,e.out.later j⟩;clear a K;refine dn ?_;go_wp2_with fail;go_meet;exact⟨W2.heap.size,rfl,Nat.le_refl _,(dC.new _ _ _).drew,j⟩
  refine .cons rfl (fun K a=>?_) .nil;(try go_simp);refine k2 a (fun _=>?_) ⟨c.out.later b,e.out.later b⟩;clear a K;refine dE 6 fun K a=>?_;(try go_simp);go_at_call 179;refine(kE P.low x.St d vr P.Mp P.D _ (ae.out.later b) a5 (by omega)).mono ?_;rintro r w1 ⟨rfl,rfl⟩;refine k2 a (fun _=>?_) ⟨c.out.later b,e.out.later b⟩;clear a K;refine dE 11 fun K a=>?_;(try go_simp);refine k2 a (fun _=>?_) ⟨c.out.later b,e.out.later b⟩;clear a K;refine dE 13 fun K a=>?_;(try go_simp);refine k2 a (fun _=>?_) ⟨c.out.later j,e.out.later j⟩;clear a K;refine dn ?_;go_wp2_with fail;go_meet;exact⟨W2.heap.size,rfl,Nat.le_refl _,(dC.new _ _ _).drew,j⟩
 case rest=>
  clear b s j;obtain⟨X,rfl,hX,a7,a2⟩:=hcut;obtain⟨W3,am⟩:∃y,y=wc:=⟨_,rfl⟩;subst am;have HX:=dA a7;have n:=dA a2;have aw:=a2.size;clear a7 a2;have ao:¬A X:=HA.out.fresh hX;obtain⟨m0,m1,m2,m3,m4,m5,m6,m7,m8,m9,aq⟩:=HX.out.c11;go_wp2_with fail;refine(yD hSO hBW hBS P (gI x) d fs left t A 0 d.ep 0 0 x.gP x.gS 0 0 0 none [] 0 W3 (HA.out.later n) aj ht (.inl rfl) (fun _ f=>by cases f) a6 an).mono ?_;rintro r E ⟨ok,ag,p⟩;dsimp only at ag;subst ag;clear m0 m1 m2 m3 m4 m5 m6 m7 m8 m9 aq;rw[z.out]at p;rw[z.out];have aa:=dA (p.blk HX ao);cases fo
  ·have V:gA E P (gI x) d fs left (dX t) A/\dN A A W3 E:=by rcases p with⟨_,_,f,h8⟩|⟨f,_⟩;exact⟨f,h8⟩;cases f
   clear p;obtain⟨g1,g2⟩:=(L.out.later n).turn (x':=(gI x)) R B V.1 V.2 rfl rfl rfl;have q:=dA g1;have M:=dA ((a0.out.later n).trans g2);clear g1 g2 V;simp only[Bool.false_and];go_wp2;go_ret;exact .no _ z rfl q M
  have H:iP P (lM (gI x) d d.ep x.gP ok) d fs left t A (gO x d) ok W3 E:=by rcases p with⟨f,_⟩|⟨_,f⟩;cases f;exact f
  clear p;simp only[Bool.true_and];cases ok;·have q:Hid (eI P (((gI x):NB).after false) d fs left t C [] [] rs (gO x d) false w E):=((L.out.later n).je (x':=((gI x):NB).after false) R B H rfl rfl rfl).chain (a0.out.later n);clear H;go_wp2;go_ret;exact .fail z rfl q
  have q:Hid (eI P (lM (gI x) d d.ep x.gP true) d fs left t C [] [] rs (gO x d) true w E):=((L.out.later n).je (x':=lM (gI x) d d.ep x.gP true) R B H rfl rfl rfl).chain (a0.out.later n);clear H;have a4:=dA q.out.at;go_upto_region 6 with fail;refine eR (S:=(fun w'=>dC w' X #[I T 6,I T 0,I T d.ep,I T 0,I T 0,I T x.gP,I T x.gS,I T 0,I T 0,I T 0,J Z 0 0] 136)) (fun _=>?_) (hS:=aa.out.drew);refine dB 0 ?_;refine dB 1 ?_;refine iV 3 X 0 [I T 6,I T 0,I T d.ep,I T 0,I T 0,I T x.gP,I T x.gS,I T 0,I T 0,I T 0,J Z 0 0] ?_ (fun w o=>o.range rfl);refine dE 2 fun K a=>?_;(try go_simp);go_at_call 178;have y0:=a4.out.drew.cell 0;have y1:=a4.out.drew.cell 1;simp[lM,NB.stand]at y0 y1;refine(tB P.Nd x.id x.nodes E.drew y0 y1 N a9).mono ?_;rintro r w5 ⟨rfl,nq,rfl⟩;have F:Below E.heap.size E (E.drew.drewN nq):=b_.drew.trans (below_drewN b_ _);have M:=dA (aa.out.later F);have U:=dA (a4.out.later F);have Q:=dA (q.out.later F);have ar:=dA Q.out.tabs;clear F;generalize World.drewN _ _=W5 at*;refine k1 a (fun _=>?_) M;clear a K y0 y1;refine dE 4 fun K a=>?_;(try go_simp);go_at_call 140;have y0:=U.out.cell 0;have y1:=U.out.cell 1;simp[lM,NB.stand]at y0 y1;refine(oA P.Nd x.id x.nodes (jN x) 6 0 d.ep 0 0 x.gP x.gS 0 0 0 none [] 0 W5 y0 y1 U.out.lt ar (.inl rfl) ⟨by omega,N.2⟩ (tJ _ _ N a9) (qI x.id d.ep x.gP x.gS ab a6 av au)).mono ?_;rintro r w6 ⟨l,rfl,hl,O⟩;obtain⟨ay,aA,aC,rfl⟩:=hl.shape;have ai:=dA (M.out.later O);have al:=dA (Q.out.later O);have ap:=dA (hl.mono Q.out.size);clear hl O;refine k1 a (fun _=>?_) ai;clear a K;refine dE 5 fun K a=>?_;(try go_simp);refine k1 a (fun _=>?_) ai;clear a K;refine dn ?_;go_wp2;go_ret;exact .ok _ z rfl ap al
theorem lG.pre{P:Pl}{x:NB}{d:SD}{fs:List FD}{left:Int}{t:Nat}{C:Nat->Prop}{lo:List Ky}{rs:List dJ}{r:Ending}{w w1 w':World}(h:lG P x d fs left t C lo rs r w1 w')(e:dN C C w w1):lG P x d fs left t C lo rs r w w':=by
 rcases h with⟨C',c,a,b,f⟩|⟨c,a,b⟩|⟨l,c,a,b,f⟩;·exact .no C' c a b (e.trans f)
 ·exact .fail c a (b.chain e)
 ·exact .ok l c a (b.mono e.kept.size) (f.chain e)
def iI(k f e b q:Int):Ky:=(k,e,max b q,f)
def iJ(x:NB)(d:SD)(la:List Ky)(k f e b q ph:Int):List Ky:=bif gK x d e b ph then iU (iI k f e b q) la else la
def jR(x:NB)(d:SD)(la:List Ky)(k f e b q ph:Int):Bool:=(gK x d e b ph&&!decide (iI k f e b q∈la))&&decide (x.nodes<2*((iJ x d la k f e b q ph).length:Int))
def qP(P:Pl)(x:NB)(d:SD)(fs:List FD)(left:Int)(t:Nat)(C:Nat->Prop)(la lo:List Ky)(rs:List dJ)(k f e b q:Int)(r:Ending)(w w':World):Prop:=((jR x d la k f e b q 3=false)/\(r=.returned (J Z 0 0))/\(dM w' P x d fs left (dX t) C (iJ x d la k f e b q 3) lo rs)/\(dN C C w w'))∨((jR x d la k f e b q 3=true)/\(lG P x d fs left t C lo rs r w w'))
theorem qP.no{P:Pl}{x:NB}{d:SD}{fs:List FD}{left:Int}{t:Nat}{C:Nat->Prop}{la lo:List Ky}{rs:List dJ}{k f e b q:Int}{r:Ending}{w w':World}(h:jR x d la k f e b q 3=false)(c:r=.returned (J Z 0 0))(a:dM w' P x d fs left (dX t) C (iJ x d la k f e b q 3) lo rs)(g:dN C C w w'):qP P x d fs left t C la lo rs k f e b q r w w':=.inl ⟨h,c,a,g⟩
theorem qP.go{P:Pl}{x:NB}{d:SD}{fs:List FD}{left:Int}{t:Nat}{C:Nat->Prop}{la lo:List Ky}{rs:List dJ}{k f e b q:Int}{r:Ending}{w w':World}(h:jR x d la k f e b q 3=true)(a:lG P x d fs left t C lo rs r w w'):qP P x d fs left t C la lo rs k f e b q r w w':=.inr (⟨h,a⟩)
theorem ER(hSO:eW)(hBW:eZ)(hBS:fA)(P:Pl)(x:NB)(d:SD)(fs:List FD)(left:Int)(t:Nat)(C:Nat->Prop)(la lo:List Ky)(rs:List dJ)(k f e b wa p s q bl v:Int)(a:Option Addr)(F c:Nat)(w:World)(h:dM w P x d fs left (dX t) C la lo rs)(hB:BG t d)(ht:t<=1000000)(Q:x.down=false)(H:2<=x.nodes/\x.nodes<=5)(a2:0<=x.id/\x.id<x.nodes)(a8:0<=x.gP/\x.gP<=5)(a6:0<=x.gS/\x.gS<=31)(aa:la.length<=999999)(B:Nat)(hm:x.ph=3->x.an=some B):Calls pG 198 #[P0 (Y ⟨P.Nd,0,Z⟩),.agg #[I T k,I T f,I T e,I T b,I T wa,I T p,I T s,I T q,I T bl,I T v,J a F c]] w fun r w'=>qP P x d fs left t C la lo rs k f e b q r w w':=by
 have o:=a_ w (G #[I T k,I T f,I T e,I T b,I T wa,I T p,I T s,I T q,I T bl,I T v,J a F c] 136);have HM:=dA (dC.new w #[I T k,I T f,I T e,I T b,I T wa,I T p,I T s,I T q,I T bl,I T v,J a F c] 136);have HB:=dA o;have HC:=dA (yR P x d fs left (dX t) t C la lo rs k f e b wa p s q bl v a F c 3 B (w.alloc (G #[I T k,I T f,I T e,I T b,I T wa,I T p,I T s,I T q,I T bl,I T v,J a F c] 136)) (h.later o) hB ht (fun g=>hm (by unfold gK at g;rw[Bool.and_eq_true]at g;simpa using g.1)) (.inr rfl));have D:=fun w1 (W:List Ky) (h:dM w1 P x d fs left (dX t) C W lo rs)=>EQ hSO hBW hBS P x d fs left t C W lo rs w1 h hB ht Q H a2 a8 a6;replace D:=dA D;have N:=dA hm;have L:Hid (dN C C w (w.alloc (G #[I T k,I T f,I T e,I T b,I T wa,I T p,I T s,I T q,I T bl,I T v,J a F c] 136))):=.of_below o;obtain⟨b1,e1⟩:∃y,(gK x d e b 3&&!decide (iI k f e b q∈la))=y:=⟨_,rfl⟩;obtain⟨b2,e2⟩:∃y,decide (x.nodes<2*((iJ x d la k f e b q 3).length:Int))=y:=⟨_,rfl⟩;have A:Hid (jR x d la k f e b q 3=(b1&&b2)):=by unfold Hid jR;rw[e1,e2]
 have a3:=dA e1;have a5:=dA e2;have a1:(iJ x d la k f e b q 3).length<=1000000:=by
  unfold iJ iU;cases gK x d e b 3;·simp;omega
  ·simp only[cond_true];split;·omega
   ·simp;omega
 clear h hB Q hm o e1 e2;go_enter func198,ntmps198;go_upto_region 1 with fail;generalize World.alloc _ _=W0 at*;obtain⟨m0,m1,m2,m3,m4,m5,m6,m7,m8,m9,a4⟩:=HM.out.c11;go_wp2_with fail;refine HC.out.mono ?_;rintro r w1 ⟨rfl,a0,V⟩;have i:Hid (dM w1 P x d fs left (dX t) C (iJ x d la k f e b q 3) lo rs):=a0;have M:Hid (dN C C w w1):=L.out.trans V;have j:(gK x d e b 3&&!decide ((k,e,max b q,f)∈la))=b1:=a3.out;rw[j];clear a0 V HC L m0 m1 m2 m3 m4 m5 m6 m7 m8 m9 a4;cases b1;·clear j;go_wp2;go_ret;exact .no (by rw[A.out];rfl) rfl i M
 have R:x.ph=3:=by rw[Bool.and_eq_true]at j;have g:=j.1;unfold gK at g;rw[Bool.and_eq_true]at g;simpa using g.1
 have u:=N.out R;have S:fW w1 B (iJ x d la k f e b q 3):=by
  rcases i.out.an with⟨g,_⟩|⟨B2,g,h8⟩;·rw[u]at g;cases g
  ·rw[u]at g;cases g;exact h8
 have y1:=i.out.blk.cell 1;have m:=i.out.blk.cell 24;simp at y1 m;rw[u]at m;have U:=dA (wG P.Nd B x.nodes _ w1 y1 m S H a1);clear j R u S y1 m N;go_wp2_with fail;refine U.out.mono ?_;rintro r w2 ⟨rfl,nq,rfl⟩;have E:Below w1.heap.size w1 (w1.drewN nq):=below_drewN b_ _;have X:=dA (i.out.later E);have O:=dA (M.out.later E);clear E U;generalize World.drewN _ _=W2 at*;rw[a5.out];cases b2;·go_wp2;go_ret;exact .no (by rw[A.out];rfl) rfl X O
 go_wp2_with fail;refine(D.out W2 _ X).mono ?_;rintro r w3 z;have HQ:=dA z;have a7:∃l,r=.returned l/\∃a n c,l=J a n c:=by
  rcases z with⟨C',h1,K,h3,h4⟩|⟨h1,K,h3⟩|⟨l,h1,K,h3,h4⟩;·exact⟨_,K,_,_,_,rfl⟩
  ·exact⟨_,K,_,_,_,rfl⟩
  ·obtain⟨a9,n9,c9,g⟩:=h3.shape;exact⟨l,K,a9,n9,c9,g⟩
 obtain⟨l,rfl,a9,n9,c9,rfl⟩:=a7;clear z;go_wp2;go_ret;exact .go (by rw[A.out];rfl) (HQ.out.pre O)
def FX(R:SD->List FD->Int->Nat->Prop)(P:Pl)(x:NB)(C:Nat->Prop)(la lo:List Ky)(rs:List dJ)(w w':World):Prop:=∃d' fs' left' L' C',R d' fs' left' L'/\dM w' P x d' fs' left' L' C' la lo rs/\dN C C' w w'
def oJ(nd:Bool)(d:SD)(fs:List FD)(left:Int)(t:Nat)(m:dI)(d':SD)(fs':List FD)(left':Int)(L':Nat):Prop:=(nd=false/\d'=d/\fs'=fs/\left'=left/\L'=dX t)∨(nd=true/\∃d1,lF d fs left m true fs' left' d1/\d'=d1.stepM m/\L'=dX (t+1))
section
variable {w w0 w1 w2 w3:World} {P:Pl} {x x':NB} {R:SD->List FD->Int->Nat->Prop} {C C':Nat->Prop} {la lo la' lo':List Ky} {rs rs':List dJ}
theorem FX.pre(h:FX R P x C la lo rs w0 w1)(e:Below w.heap.size w w0):FX R P x C la lo rs w w1:=by obtain⟨d',fs',left',L',c,d,a,b⟩:=h;exact⟨d',fs',left',L',c,d,a,b.pre e⟩
theorem FX.chain(h:FX R P x C' la lo rs w1 w2)(e:dN C C' w w1):FX R P x C la lo rs w w2:=by obtain⟨d',fs',left',L',c,d,a,b⟩:=h;exact⟨d',fs',left',L',c,d,a,e.trans b⟩
theorem FX.later(h:FX R P x C la lo rs w w1)(a:Below w1.heap.size w1 w2):FX R P x C la lo rs w w2:=by obtain⟨d',fs',left',L',d,e,b,c⟩:=h;exact⟨d',fs',left',L',d,e,b.later a,c.later a⟩
theorem FX.at(h:FX R P x C la lo rs w w1):dC w1 P.Nd x.arr 192:=by obtain⟨d',fs',left',L',c,d,a,b⟩:=h;exact a.blk
theorem FX.tabs(h:FX R P x C la lo rs w w1):dU w1:=by obtain⟨d',fs',left',L',c,d,a,b⟩:=h;exact a.tabs
theorem FX.size(h:FX R P x C la lo rs w w1):w.heap.size<=w1.heap.size:=by obtain⟨d',fs',left',L',c,d,b,a⟩:=h;exact a.kept.size
theorem FX.lt(h:FX R P x C la lo rs w w1){g:Nat}(b:x.own g):g<w1.heap.size:=by obtain⟨d',fs',left',L',d,e,a,c⟩:=h;exact(a.lt g (a.jm g b)).2
theorem FX.oa(h:FX R P x C la lo rs w w1)(d:dK (fun g=>g=P.Nd) w1 w3):iD w3 x.oa lo:=by
 obtain⟨d',fs',left',L',k,l,b,j⟩:=h;have i:=b.blk;exact b.oa.same (fun g a=>d.block g (b.oa.lt a) (fun e=>by
  rcases b.oa with⟨c,_⟩|⟨B,c,f⟩;·rw[c]at a;cases a
  ·rw[c]at a;cases a;exact f.ne i e))
theorem FX.row(h:FX R P x C la lo rs w w1)(e:dK (fun g=>g=P.Nd) w1 w3):w3.ownsRow P.low 76 5 x.res rs.length (rs.flatMap dJ.cells):=by obtain⟨d',fs',left',L',k,l,a,j⟩:=h;have i:=a.blk.blk;exact dO a.row (fun g c=>e.block g (a.row.lt g c).2 (fun f=>by obtain⟨d,b⟩:=eT a.row c;rw[f,i]at b;simp at b))
theorem FX.reset(h:FX R P x C la lo rs w w1)(k:dK (fun g=>g=P.Nd) w1 w3)(i:dC w3 P.Nd x'.arr 192)(hs:x'.St=x.St)(b:∀g,x'.own g->x.own g∨w1.heap.size<=g)(e:iD w3 x'.an la')(c:iD w3 x'.oa lo')(d:∀g,x'.an=some g->x'.oa≠some g)(a:w3.ownsRow P.low 76 5 x'.res rs'.length (rs'.flatMap dJ.cells)):FX R P x' C la' lo' rs' w w3:=by obtain⟨d',fs',left',L',o,j,m,n⟩:=h;obtain⟨f,l⟩:=m.reset k i hs b e c d a;exact⟨d',fs',left',L',_,j,f,n.trans l⟩
theorem FX.jw{B:Nat}{d:List Ky}(h:FX R P x C la lo rs w w1)(e:x.an=some B)(b:dK (fun g=>g=B) w1 w2)(f:fW w2 B d):FX R P x C d lo rs w w2:=by obtain⟨d',fs',left',L',j,k,c,i⟩:=h;exact⟨d',fs',left',L',j,k,c.jw e b f,i.trans ⟨b.wide (fun g a=>a ▸ c.jm B (.inl e)),fun _ a=>.inl a⟩⟩
end
def dR(x:NB):NB:=bif decide (0<x.fo.wa) then{x with gP:=x.fo.p,gS:=x.fo.s} else x
def fY(x:NB)(d:SD):dI:=⟨3,0,d.ep,x.ba,0,(dR x).gP,(dR x).gS,0,0,0,none,0,[]⟩
def pC(x:NB)(B:Nat):NB:={dR x with ph:=3,an:=some B}
def lY(x:NB)(d:SD):List Ky:=bif (eH d 3 d.ep x.ba).k==4 then iU ((eH d 3 d.ep x.ba).k,(eH d 3 d.ep x.ba).e,max (eH d 3 d.ep x.ba).b (eH d 3 d.ep x.ba).q,x.id) [] else[]
def lN(P:Pl)(x:NB)(d:SD)(fs:List FD)(left:Int)(t:Nat)(C:Nat->Prop)(lo:List Ky)(rs:List dJ)(r:Ending)(w w':World):Prop:=((iT d 3 d.ep x.ba (dR x).gP (dR x).gS=true)/\(r=.returned (J Z 0 0))/\(eI P ((dR x).after false) d fs left t C [] [] rs (fY x d) false w w'))∨(∃B:Nat,∃l:Value,(r=.returned l)/\(dW w' w.heap.size l (fQ (jN x) (gJ 3 x.id d.ep x.ba 0 (dR x).gP (dR x).gS 0 0 0 []) x.nodes.toNat))/\(FX (oJ (iT d 3 d.ep x.ba (dR x).gP (dR x).gS) d fs left t (fY x d)) P (pC x B) C (lY x d) lo rs w w'))
theorem lN.fail{P:Pl}{x:NB}{d:SD}{fs:List FD}{left:Int}{t:Nat}{C:Nat->Prop}{lo:List Ky}{rs:List dJ}{r:Ending}{w w':World}(h:iT d 3 d.ep x.ba (dR x).gP (dR x).gS=true)(b:r=.returned (J Z 0 0))(a:eI P ((dR x).after false) d fs left t C [] [] rs (fY x d) false w w'):lN P x d fs left t C lo rs r w w':=.inl ⟨h,b,a⟩
theorem lN.ok{P:Pl}{x:NB}{d:SD}{fs:List FD}{left:Int}{t:Nat}{C:Nat->Prop}{lo:List Ky}{rs:List dJ}{r:Ending}{w w':World}(B:Nat)(l:Value)(c:r=.returned l)(a:dW w' w.heap.size l (fQ (jN x) (gJ 3 x.id d.ep x.ba 0 (dR x).gP (dR x).gS 0 0 0 []) x.nodes.toNat))(b:FX (oJ (iT d 3 d.ep x.ba (dR x).gP (dR x).gS) d fs left t (fY x d)) P (pC x B) C (lY x d) lo rs w w'):lN P x d fs left t C lo rs r w w':=.inr (⟨B,l,c,a,b⟩)
theorem FH(hSO:eW)(hBW:eZ)(hBS:fA)(P:Pl)(x:NB)(d:SD)(fs:List FD)(left:Int)(t:Nat)(C:Nat->Prop)(la lo:List Ky)(rs:List dJ)(w0 w:World)(aH:dN C C w0 w)(h:dM w P x d fs left (dX t) C la lo rs)(hB:BG t d)(ht:t<=1000000)(b5:x.down=false)(ar:2<=x.nodes/\x.nodes<=5)(aZ:0<=x.id/\x.id<x.nodes)(bp:e_ x.ba)(aS:0<=(dR x).gP/\(dR x).gP<=5)(aP:0<=(dR x).gS/\(dR x).gS<=31):Calls pG 242 #[P0 (Y ⟨P.Nd,0,Z⟩)] w fun r w'=>lN P x d fs left t C lo rs r w0 w':=by
 have aC:=hB.ne;have bw:=hB.recs;have bu:=h.tabs.two;have aL:0<=x.id/\x.id<5:=by omega
 have aE:0<=d.ep/\d.ep<=1000000000000:=by unfold SD.ep;omega
 have ah:=dA aH;have Q:=dA h;have bh:=dA hB;have aJ:=dA b5;have aT:=h.blk.cell 17;simp at aT;clear h hB b5 aH;by_cases aj:0<x.fo.wa;have ap:decide (0<x.fo.wa)=true:=by simpa using aj
 have L:Hid (dR x=({x with gP:=x.fo.p,gS:=x.fo.s}:NB)):=by unfold Hid dR;rw[ap];rfl
 clear aj;go_enter func242,ntmps242;go_upto_region 3 with fail;have a4:=dA Q.out.blk.drew;have z:=a4.out.cell 18;have F:=a4.out.cell 19;simp at z F;refine lE (S:=(fun w'=>w'.cell? ⟨P.Nd,18,Z⟩=Y (I T x.fo.p)/\w'.cell? ⟨P.Nd,19,Z⟩=Y (I T x.fo.s))) (fun _=>?_) (hS:=⟨z,F⟩);have aY:Hid (dK (fun g=>g=P.Nd) w w.drew):=dK.of_below (b_.drew);generalize World.drew _=Wd at*;refine dB 0 ?_;refine dB 1 ?_;refine dB 2 ?_;refine dB 3 ?_;refine dB 4 ?_;refine dB 5 ?_;refine dB 6 ?_;refine dB 7 ?_;refine dB 8 ?_;refine dB 9 ?_;refine dB 10 ?_;refine dB 11 ?_;refine dB 12 ?_;refine dB 13 ?_;refine dB 14 ?_;refine dE 15 fun K c=>?_;have e8:=a4.out.cell 8;simp at e8;have bc:=a4.out.free 8;have f:dH P.Nd Wd (Wd.setCell ⟨P.Nd,8,Z⟩ (I T x.fo.p)):=(dH.self P.Nd Wd).set 8 (I T x.fo.p);have a5:Hid (dC (Wd.setCell ⟨P.Nd,8,Z⟩ (I T x.fo.p)) P.Nd ({x with gP:=x.fo.p}:NB).arr 192):=by have i:=a4.out.set 8 (I T x.fo.p);unfold Hid;simpa using i
 have aF:Hid (dK (fun g=>g=P.Nd) w (Wd.setCell ⟨P.Nd,8,Z⟩ (I T x.fo.p))):=aY.out.trans (B:=fun g=>g=P.Nd) ⟨f.os,f.tape,f.output,by rw[f.size];exact Nat.le_refl _,fun k hk hA=>f.block k hA⟩ (fun _ O=>O) (fun _ _ O=>O);clear f;(try go_simp);generalize World.setCell _ _ _=We at*;clear e8 bc z F;have z:=a5.out.cell 18;have F:=a5.out.cell 19;simp at z F;refine k2 c (fun _=>?_) ⟨z,F⟩;clear c K;refine dB 16 ?_;refine dB 17 ?_;refine dB 18 ?_;refine dE 19 fun K c=>?_;have e9:=a5.out.cell 9;simp at e9;have b8:=a5.out.free 9;have f:dH P.Nd We (We.setCell ⟨P.Nd,9,Z⟩ (I T x.fo.s)):=(dH.self P.Nd We).set 9 (I T x.fo.s);have ae:Hid (dC (We.setCell ⟨P.Nd,9,Z⟩ (I T x.fo.s)) P.Nd ({x with gP:=x.fo.p,gS:=x.fo.s}:NB).arr 192):=by have i:=a5.out.set 9 (I T x.fo.s);unfold Hid;simpa using i
 have aa:Hid (dK (fun g=>g=P.Nd) w (We.setCell ⟨P.Nd,9,Z⟩ (I T x.fo.s))):=aF.out.trans (B:=fun g=>g=P.Nd) ⟨f.os,f.tape,f.output,by rw[f.size];exact Nat.le_refl _,fun k hk hA=>f.block k hA⟩ (fun _ O=>O) (fun _ _ O=>O);clear f;(try go_simp);generalize World.setCell _ _ _=W1 at*;clear e9 b8 z F;have z:=ae.out.cell 18;have F:=ae.out.cell 19;simp at z F;refine k2 c (fun _=>?_) ⟨z,F⟩;clear c K z F;refine dn ?_;have az:=Q.out.reset (x':=({x with gP:=x.fo.p,gS:=x.fo.s}:NB)) (la':=la) (lo':=lo) (rs':=rs) aa ae rfl (fun g M=>.inl M) (Q.out.an.same (fun g M=>aa.out.block g (Q.out.an.lt M) (fun O=>by rcases Q.out.an with⟨h8,_⟩|⟨B,h8,h7⟩;rw[h8]at M;cases M;rw[h8]at M;cases M;exact h7.ne Q.out.blk O))) (Q.out.oa.same (fun g M=>aa.out.block g (Q.out.oa.lt M) (fun O=>by rcases Q.out.oa with⟨h8,_⟩|⟨B,h8,h7⟩;rw[h8]at M;cases M;rw[h8]at M;cases M;exact h7.ne Q.out.blk O))) Q.out.ne (dO Q.out.row (fun g M=>aa.out.block g (Q.out.row.lt g M).2 (fun O=>by obtain⟨bv,i⟩:=eT Q.out.row M;rw[O,Q.out.blk.blk]at i;simp at i)));have W:=dA az.1;have ag:=dA (ah.out.trans az.2);clear az Q a4 a5 ae aY aF aa aT ah;generalize x.fo.p=a at W L;generalize x.fo.s=b at W L;generalize W1=w at*;rotate_left;have ap:decide (0<x.fo.wa)=false:=by simpa using aj
 obtain⟨a,b,ay⟩:∃a b,x=({x with gP:=a,gS:=b}:NB):=⟨x.gP,x.gS,rfl⟩;have L:Hid (dR x=({x with gP:=a,gS:=b}:NB)):=by unfold Hid dR;rw[ap];exact ay
 clear aj;go_enter func242,ntmps242;have W:Hid (dM w P ({x with gP:=a,gS:=b}:NB) d fs left (dX t) C la lo rs):=by rw[←ay];exact Q
 have ag:=ah;clear Q ah ay;all_goals
  obtain⟨A,hA,ak,a9⟩:=W.out.nod
  obtain⟨vr,va,h1,h2,h3⟩:=hA.ex
  have aM:Hid (dZ w P.low x.St d vr P.Mp P.D):=h1
  have HA:=dA hA
  have m:=dA hA.blk
  clear hA h1 h2 h3
  have R:Below w.heap.size w (w.alloc (G #[I T 0,I T 0,I T 0,I T 0,I T 0,I T 0,I T 0,I T 0,I T 0,I T 0,J Z 0 0] 136)).drew:=(a_ _ _).drew
  have a0:Below w.heap.size w (w.alloc (G #[I T 3,I T 0,I T d.ep,I T x.ba,I T 0,I T a,I T b,I T 0,I T 0,I T 0,J Z 0 0] 136)).drew:=(a_ _ _).drew
  have ad:Below w.heap.size w w.drew:=b_.drew
  go_upto_region 4 with fail
  go_cut [4] (fun s4 wx=>∃X,s4=P0 (Y ⟨X,0,Z⟩)/\w.heap.size<=X/\dC wx X #[I T 3,I T 0,I T d.ep,I T x.ba,I T 0,I T a,I T b,I T 0,I T 0,I T 0,J Z 0 0] 136/\Below w.heap.size w wx)
  case first=>
   refine lE (S:=(fun w'=>dC w' P.Nd ({x with gP:=a,gS:=b}:NB).arr 192)) (fun _=>?_) (hS:=m.out.drew)
   refine dB 0 ?_;refine dB 1 ?_;refine dB 2 ?_;refine dB 3 ?_ (hy:=by intro w j;have i:=j.cell 3;simp at i;go_simp;(try with_reducible rfl));refine dB 4 ?_;refine dB 5 ?_;refine dB 7 ?_;refine dB 8 ?_;refine dB 9 ?_;refine dB 10 ?_ (hy:=by intro w j;have i:=j.cell 11;simp at i;go_simp;(try with_reducible rfl));refine dB 11 ?_;refine dB 12 ?_;refine dB 13 ?_;refine dB 14 ?_;refine dB 15 ?_ (hy:=by intro w j;have i:=j.cell 8;simp at i;go_simp;(try with_reducible rfl));refine dB 16 ?_;refine dB 17 ?_;refine dB 18 ?_;refine dB 19 ?_;refine dB 20 ?_ (hy:=by intro w j;have i:=j.cell 9;simp at i;go_simp;(try with_reducible rfl))
   refine iY [6,22] ?_
   refine .cons rfl (fun K c=>?_) ?_
   ·(try go_simp)
    go_at_call 179
    refine(kE P.low x.St d vr P.Mp P.D _ (aM.out.later ad) aC (by omega)).mono ?_
    rintro r w1 ⟨rfl,rfl⟩
    refine k2 c (fun _=>?_) (m.out.later ad);clear c K
    refine iY [21,22] ?_
    refine .cons rfl (fun K c=>?_) ?_
    ·(try go_simp)
     refine k2 c (fun _=>?_) (m.out.later ad);clear c K
     refine dE 22 fun K c=>?_
     (try go_simp)
     refine k2 c (fun _=>?_) (m.out.later R);clear c K
     refine dE 23 fun K c=>?_
     (try go_simp)
     refine k2 c (fun _=>?_) (m.out.later a0);clear c K
     refine dn ?_
     go_wp2_with fail
     go_meet
     exact⟨w.heap.size,rfl,Nat.le_refl _,(dC.new _ _ _).drew,a0⟩
    refine .cons rfl (fun K c=>?_) .nil
    (try go_simp)
    refine k2 c (fun _=>?_) (m.out.later R);clear c K
    refine dE 21 fun K c=>?_
    (try go_simp)
    refine k2 c (fun _=>?_) (m.out.later R);clear c K
    refine dE 23 fun K c=>?_
    (try go_simp)
    refine k2 c (fun _=>?_) (m.out.later a0);clear c K
    refine dn ?_
    go_wp2_with fail
    go_meet
    exact⟨w.heap.size,rfl,Nat.le_refl _,(dC.new _ _ _).drew,a0⟩
   refine .cons rfl (fun K c=>?_) .nil
   (try go_simp)
   refine k2 c (fun _=>?_) (m.out.later R);clear c K
   refine dE 6 fun K c=>?_
   (try go_simp)
   go_at_call 179
   refine(kE P.low x.St d vr P.Mp P.D _ (aM.out.later R) aC (by omega)).mono ?_
   rintro r w1 ⟨rfl,rfl⟩
   refine k2 c (fun _=>?_) (m.out.later R);clear c K
   refine dE 21 fun K c=>?_
   (try go_simp)
   refine k2 c (fun _=>?_) (m.out.later R);clear c K
   refine dE 23 fun K c=>?_
   (try go_simp)
   refine k2 c (fun _=>?_) (m.out.later a0);clear c K
   refine dn ?_
   go_wp2_with fail
   go_meet
   exact⟨w.heap.size,rfl,Nat.le_refl _,(dC.new _ _ _).drew,a0⟩
  case rest=>
   clear R ad a0
   obtain⟨X,rfl,hX,aX,al⟩:=hcut
   obtain⟨W3,bk⟩:∃y,y=wc:=⟨_,rfl⟩
   subst bk
   have HX:=dA aX;have a1:=dA al;have bs:=al.size;clear aX al
   have bo:¬A X:=HA.out.fresh hX
   obtain⟨m0,m1,m2,m3,m4,m5,m6,m7,m8,m9,bq⟩:=HX.out.c11
   go_wp2_with fail
   refine(xW hSO hBW hBS P ({x with gP:=a,gS:=b}:NB) d fs left t A 3 0 d.ep x.ba 0 a b 0 0 0 none [] 0 W3 (HA.out.later a1) bh ht (.inl rfl) (fun _ i=>by cases i) aE (.inr rfl) aJ).mono ?_
   rintro r U ⟨ok,b7,V⟩
   dsimp only at b7
   subst b7
   clear m0 m1 m2 m3 m4 m5 m6 m7 m8 m9 bq
   have b0:=dA (V.blk HX bo)
   obtain⟨nd,aB⟩:∃y,iT d 3 d.ep x.ba a b=y:=⟨_,rfl⟩
   rw[aB]at V
   have aG:Hid (iT d 3 d.ep x.ba (dR x).gP (dR x).gS=nd):=by unfold Hid;rw[L.out];exact aB
   have ax:Hid (fY x d=⟨3,0,d.ep,x.ba,0,a,b,0,0,0,none,0,[]⟩):=by unfold Hid fY;rw[L.out]
   clear aB
   by_cases a8:nd=true/\ok=false
   ·obtain⟨rfl,rfl⟩:=a8
    have aN:iP P ((({x with gP:=a,gS:=b}:NB):NB).after false) d fs left t A (⟨3,0,d.ep,x.ba,0,a,b,0,0,0,none,0,[]⟩:dI) false W3 U:=by rcases V with⟨i,_⟩|⟨_,i⟩;cases i;exact i
    clear V
    have E:Hid (eI P ((({x with gP:=a,gS:=b}:NB):NB).after false) d fs left t C [] [] rs (⟨3,0,d.ep,x.ba,0,a,b,0,0,0,none,0,[]⟩:dI) false w0 U):=((W.out.later a1).je (x':=(({x with gP:=a,gS:=b}:NB):NB).after false) ak a9 aN rfl rfl rfl).chain (ag.out.later a1)
    clear aN
    generalize (bif false then eH d 3 d.ep x.ba else iC.nil)=o
    have c4:=E.out.at.cell 4;simp[NB.after,NB.stand]at c4
    have aA:=E.out.at.lt
    have a3:Hid (Below U.heap.size U (U.alloc (G #[I T o.k,I T x.id,I T o.e,I T o.b,I T o.wa,I T o.p,I T o.s,I T o.q,I T o.bl,I T o.v,J Z 0 0] 136))):=a_ _ _
    have n4:=(a3.out.cell (p:=⟨P.Nd,4,Z⟩) aA).trans c4
    go_wp2
    go_ret
    refine .fail aG rfl ?_
    rw[ax.out,L.out]
    exact E.out.later a3
   have b9:ok=true:=by
    rcases V with⟨_,i,_⟩|⟨i,_⟩
    ·exact i
    ·cases ok
     ·exact absurd ⟨i,rfl⟩ a8
     ·rfl
   subst b9
   clear a8
   have E:Hid (FX (oJ nd d fs left t (fY x d)) P ({x with gP:=a,gS:=b}:NB) C la lo rs w0 U):=by
    rcases V with⟨i,_,h8,h7⟩|⟨i,h8⟩
    ·obtain⟨g1,g2⟩:=(W.out.later a1).turn (x':=({x with gP:=a,gS:=b}:NB)) ak a9 h8 h7 rfl rfl rfl
     exact⟨d,fs,left,dX t,_,.inl ⟨i,rfl,rfl,rfl,rfl⟩,g1,(ag.out.later a1).trans g2⟩
    ·have h7:=((W.out.later a1).saved (x':=({x with gP:=a,gS:=b}:NB)) ak a9 h8 rfl rfl rfl).chain (ag.out.later a1)
     obtain⟨fs',left',d1,C2,g1,g2,g3⟩:=h7
     exact⟨_,fs',left',_,C2,.inr ⟨i,d1,by rw[ax.out];exact g1,by rw[ax.out];rfl,rfl⟩,g2,g3⟩
   clear V
   generalize ho:(bif true then eH d 3 d.ep x.ba else iC.nil)=o
   have HO:Hid (o=eH d 3 d.ep x.ba):=ho.symm
   clear ho
   have c4:=E.out.at.cell 4;simp at c4;rw[aJ.out]at c4
   have aA:=E.out.at.lt
   have aK:Hid (dC (U.alloc (G #[I T o.k,I T x.id,I T o.e,I T o.b,I T o.wa,I T o.p,I T o.s,I T o.q,I T o.bl,I T o.v,J Z 0 0] 136)) U.heap.size #[I T o.k,I T x.id,I T o.e,I T o.b,I T o.wa,I T o.p,I T o.s,I T o.q,I T o.bl,I T o.v,J Z 0 0] 136):=dC.new _ _ _
   have aQ:=dA (b0.out.old (G #[I T o.k,I T x.id,I T o.e,I T o.b,I T o.wa,I T o.p,I T o.s,I T o.q,I T o.bl,I T o.v,J Z 0 0] 136))
   have aI:=dA (E.out.at.old (G #[I T o.k,I T x.id,I T o.e,I T o.b,I T o.wa,I T o.p,I T o.s,I T o.q,I T o.bl,I T o.v,J Z 0 0] 136))
   have a3:Hid (Below U.heap.size U (U.alloc (G #[I T o.k,I T x.id,I T o.e,I T o.b,I T o.wa,I T o.p,I T o.s,I T o.q,I T o.bl,I T o.v,J Z 0 0] 136))):=a_ _ _
   have n4:=(a3.out.cell (p:=⟨P.Nd,4,Z⟩) aA).trans c4
   go_upto_region 8 with fail
   generalize World.alloc _ _=u at*
   have bA:=@run_makeMap pG
   have N:=dA (aI.out.old (Obj.map #[] 0));have aq:=dA (aQ.out.old (Obj.map #[] 0));have aw:=dA (aK.out.old (Obj.map #[] 0))
   have av:Hid (fW (u.alloc (Obj.map #[] 0)) u.heap.size []):=⟨⟨#[],0,heap_alloc_new _ _,rfl⟩⟩
   have e6:=N.out.cell 6;have aU:=N.out.cell 24;simp at e6 aU
   have bn:=N.out.free 6;have b3:=N.out.free 24
   have f:dH P.Nd (u.alloc (Obj.map #[] 0)) (((u.alloc (Obj.map #[] 0)).setCell ⟨P.Nd,6,Z⟩ (I T 3)).setCell ⟨P.Nd,24,Z⟩ (Value.map (some u.heap.size))):=((dH.self P.Nd _).set 6 (I T 3)).set 24 (Value.map (some u.heap.size))
   have H:Hid (dC (((u.alloc (Obj.map #[] 0)).setCell ⟨P.Nd,6,Z⟩ (I T 3)).setCell ⟨P.Nd,24,Z⟩ (Value.map (some u.heap.size))) P.Nd ({({x with gP:=a,gS:=b}:NB) with ph:=3,an:=some u.heap.size}:NB).arr 192):=by have i:=(N.out.set 6 (I T 3)).set 24 (Value.map (some u.heap.size));unfold Hid;simpa using i
   have a7:=dA (aq.out.same (f.block X (aq.out.ne N (by decide))));have a6:=dA (aw.out.same (f.block U.heap.size (aw.out.ne N (by decide))));have a2:=dA (av.out.same (f.block _ (av.out.ne N)))
   have ai:Hid (dK (fun g=>g=P.Nd) U (((u.alloc (Obj.map #[] 0)).setCell ⟨P.Nd,6,Z⟩ (I T 3)).setCell ⟨P.Nd,24,Z⟩ (Value.map (some u.heap.size)))):=(dK.of_below (A:=fun _=>False) (a3.out.alloc a3.out.size (Obj.map #[] 0))).trans (B:=fun g=>g=P.Nd) ⟨f.os,f.tape,f.output,by rw[f.size];exact Nat.le_refl _,fun k hk hA=>f.block k hA⟩ (fun _ O=>O.elim) (fun _ _ O=>O)
   have b2:U.heap.size<=u.heap.size:=a3.out.size
   clear f
   go_upto_region 9 with fail
   generalize World.setCell _ _ _=W7 at*
   clear e6 aU bn b3 N aq aw av aI aQ aK b0 HX m
   have af:Hid (FX (oJ nd d fs left t (fY x d)) P ({({x with gP:=a,gS:=b}:NB) with ph:=3,an:=some u.heap.size}:NB) C [] lo rs w0 W7):=E.out.reset (x':=({({x with gP:=a,gS:=b}:NB) with ph:=3,an:=some u.heap.size}:NB)) ai H rfl (fun g M=>M.elim (fun i=>.inr (by cases i;exact b2)) (fun i=>.inl (.inr i))) (.inr ⟨u.heap.size,rfl,a2⟩) (E.out.oa ai) (fun g M O=>by cases M;exact absurd (E.out.lt (.inr (.inl O))) (Nat.not_lt.2 b2)) (E.out.row ai)
   have b6:u.heap.size≠P.Nd:=a2.out.ne H
   have bi:u.heap.size≠U.heap.size:=a2.out.ne a6
   have bj:u.heap.size≠X:=a2.out.ne a7
   obtain⟨q0,q1,q2,q3,q4,q5,q6,q7,q8,q9,aW⟩:=a6.out.c11
   obtain⟨b4,h4⟩:∃y,(o.k==4)=y:=⟨_,rfl⟩
   have bf:Hid (lY x d=bif b4 then iU (o.k,o.e,max o.b o.q,x.id) [] else[]):=by have i:=HO.out;subst i;unfold Hid lY;rw[h4]
   cases b4
   go_upto_region 11 with fail
   clear q0 q1 q2 q3 q4 q5 q6 q7 q8 q9 aW a2 a6
   rotate_left
   go_upto_region 10 with fail
   focus go_cut [77] (fun s77 wx=>fW wx u.heap.size (iU (o.k,o.e,max o.b o.q,x.id) [])/\dK (fun g=>g=u.heap.size) W7 wx)
   case first=>
    refine eR (S:=(fun w'=>dC w' P.Nd ({({x with gP:=a,gS:=b}:NB) with ph:=3,an:=some u.heap.size}:NB).arr 192/\dC w' U.heap.size #[I T o.k,I T x.id,I T o.e,I T o.b,I T o.wa,I T o.p,I T o.s,I T o.q,I T o.bl,I T o.v,J Z 0 0] 136)) (fun _=>?_) (hS:=⟨H.out.drew,a6.out.drew⟩)
    refine dB 0 ?_;refine dB 1 ?_;refine dB 2 ?_;refine dB 3 ?_ (hy:=by intro w j;have i:=j.1.cell 24;simp at i;go_simp;(try with_reducible rfl));refine iV 4 U.heap.size 0 [I T o.k,I T x.id,I T o.e,I T o.b,I T o.wa,I T o.p,I T o.s,I T o.q,I T o.bl,I T o.v,J Z 0 0] ?_ (fun w j=>j.2.range rfl)
    refine dE 5 fun K c=>?_
    (try go_simp)
    go_at_call 188
    refine(qX u.heap.size [] o.k x.id o.e o.b o.wa o.p o.s o.q o.bl o.v none 0 0 W7.drew ⟨a2.out.obj⟩).mono ?_
    rintro r wv ⟨rfl,ab,n⟩
    have br:=dA (n.ji a6.out.drew (Ne.symm bi));have bm:=dA (n.ji H.out.drew (Ne.symm b6))
    refine k1 c (fun _=>?_) ⟨bm,br⟩
    clear c K
    refine dn ?_
    go_wp2_with fail
    go_meet
    exact⟨ab,⟨n.os,n.tape,n.output,n.size,n.block⟩⟩
   obtain⟨ab,n⟩:=hcut
   obtain⟨Wa,bb⟩:∃y,y=wc:=⟨_,rfl⟩
   subst bb
   have aV:=dA (n.ji a7 (Ne.symm bj));have aO:=dA (n.ji H (Ne.symm b6))
   have aD:=dA (af.out.jw rfl n ab)
   clear ab n q0 q1 q2 q3 q4 q5 q6 q7 q8 q9 aW a7 H af a2 a6 ai
   have a7:=aV;have H:=aO;have af:=aD
   clear aV aO aD
   generalize Wa=W7 at*
   go_upto_region 11 with fail
   all_goals
    refine eR (S:=(fun w'=>dC w' X #[I T 3,I T 0,I T d.ep,I T x.ba,I T 0,I T a,I T b,I T 0,I T 0,I T 0,J Z 0 0] 136)) (fun _=>?_) (hS:=a7.out.drew)
    refine dB 0 ?_;refine dB 1 ?_;refine iV 3 X 0 [I T 3,I T 0,I T d.ep,I T x.ba,I T 0,I T a,I T b,I T 0,I T 0,I T 0,J Z 0 0] ?_ (fun w j=>j.range rfl)
    refine dE 2 fun K c=>?_
    (try go_simp)
    go_at_call 178
    have y0:=H.out.drew.cell 0;have y1:=H.out.drew.cell 1;simp at y0 y1
    refine(tB P.Nd x.id x.nodes W7.drew y0 y1 ar aZ).mono ?_
    rintro r wv ⟨rfl,nq,rfl⟩
    have ac:Below W7.heap.size W7 (W7.drew.drewN nq):=b_.drew.trans (below_drewN b_ _)
    have aR:=dA (a7.out.later ac);have ao:=dA (H.out.later ac);have au:=dA (af.out.later ac);have be:=dA au.out.tabs
    clear ac
    generalize World.drewN _ _=W8 at*
    refine k1 c (fun _=>?_) aR
    clear c K y0 y1
    refine dE 4 fun K c=>?_
    (try go_simp)
    go_at_call 140
    have y0:=ao.out.cell 0;have y1:=ao.out.cell 1;simp at y0 y1
    refine(oA P.Nd x.id x.nodes (jN x) 3 0 d.ep x.ba 0 a b 0 0 0 none [] 0 W8 y0 y1 ao.out.lt be (.inl rfl) ⟨by omega,ar.2⟩ (tJ _ _ ar aZ) (tZ x.id d.ep x.ba a b aL aE bp (by rw[L.out]at aS;exact aS) (by rw[L.out]at aP;exact aP))).mono ?_
    rintro r w9 ⟨l,rfl,hl,am⟩
    obtain⟨bt,bx,bz,rfl⟩:=hl.shape
    have b1:=dA (aR.out.later am);have bg:=dA (au.out.later am);have bd:=dA (hl.mono au.out.size)
    clear hl am
    refine k1 c (fun _=>?_) b1
    clear c K
    refine dE 5 fun K c=>?_
    (try go_simp)
    refine k1 c (fun _=>?_) b1
    clear c K
    refine dn ?_
    go_wp2
    go_ret
    refine .ok u.heap.size _ rfl ?_ ?_
    ·rw[L.out];exact bd
    ·rw[aG.out,bf.out];unfold pC;rw[L.out];exact bg
theorem FI(hSO:eW)(hBW:eZ)(hBS:fA)(P:Pl)(x:NB)(d:SD)(fs:List FD)(left:Int)(t:Nat)(C:Nat->Prop)(la lo:List Ky)(rs:List dJ)(w:World)(h:dM w P x d fs left (dX t) C la lo rs)(j:BG t d)(i:t<=1000000)(b:x.down=false)(a:2<=x.nodes/\x.nodes<=5)(f:0<=x.id/\x.id<x.nodes)(c:e_ x.ba)(g:0<=(dR x).gP/\(dR x).gP<=5)(e:0<=(dR x).gS/\(dR x).gS<=31):
  Calls pG 242 #[P0 (Y ⟨P.Nd,0,Z⟩)] w fun r w'=>lN P x d fs left t C lo rs r w w':=FH hSO hBW hBS P x d fs left t C la lo rs w w .refl h j i b a f c g e
end Go.Proofs.YtdcainmlcpafbaaGreatDoor
