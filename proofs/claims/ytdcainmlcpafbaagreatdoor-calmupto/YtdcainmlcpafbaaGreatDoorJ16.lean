import Derived.Test.YtdcainmlcpafbaaGreatDoorJ14
set_option linter.all false
set_option maxHeartbeats 8000000
set_option maxRecDepth 20000
namespace Go.Proofs.YtdcainmlcpafbaaGreatDoor
open Go.RowKit
open Value renaming slice->J,pointer->P0
open Tryz
open Tryz renaming prog->pG
open IntKind renaming i64->T
open Option renaming none->Z,some->Y
open Obj renaming cells->G
open Value (bool)
section
variable {P:Program} {ops:Array Oper} {Q:Exit->Act->World->Prop} {md:Region.Mode} {S:World->Prop} {fuel:Nat} {listed:Array Bool} {a:Act} {w:World}
def eS(i:Nat){b:Oper}{v:Value}{e:Act}(h:wpAnyH P md ops Q S fuel (listed.setIfInBounds i true) e w)(hi:ops[i]?=some b:=by exact rfl)(hs:Region.noSelect ops=true:=by kernel_rfl)(f:Region.free md ops listed i=true:=by kernel_rfl)(g:(Region.ready md ops listed).contains i=true:=by kernel_rfl)(k:Region.wanted b (yielded ops a.tmps)=true:=by kernel_rfl)(hy:∀w,S w->(execOp a.eval b).run P w=.ok (.value v) w:=by intro w d;(try dsimp only at d);go_simp;(try with_reducible rfl))(j:∀c a w,Q (.panic c) (a.put b.dst v) w->Q (.panic c) a w:=by exact λ_ _ _ h=>h)(hS:S w:=by assumption)(l:a.put b.dst v=e:=by(try simp only[qs]);exact rfl):wpAnyH P md ops Q S (fuel+1) listed a w:=wpAnyH_take hi hs f g j (.inl ⟨k,hy⟩) hS (l ▸ h)
def gD(i:Nat){b:Oper}{d:Act}(h:wpAnyH P md ops Q S fuel (listed.setIfInBounds i true) d w)(hi:ops[i]?=some b:=by exact rfl)(hs:Region.noSelect ops=true:=by kernel_rfl)(e:Region.free md ops listed i=true:=by kernel_rfl)(j:(Region.ready md ops listed).contains i=true:=by kernel_rfl)(k:Region.wanted b (yielded ops a.tmps)=false:=by kernel_rfl)(f:∀c a w,Q (.panic c) (a.put b.dst undef) w->Q (.panic c) a w:=by exact λ_ _ _ h=>h)(hS:S w:=by assumption)(g:a.put b.dst undef=d:=by(try simp only[qs]);exact rfl):wpAnyH P md ops Q S (fuel+1) listed a w:=wpAnyH_take hi hs e j f (.inr ⟨k,rfl⟩) hS (g ▸ h)
end
def gT(x:NB)(d:SD)(e b ph:Int):Bool:=(x.ph==ph)&&(e==d.ep&&(b==x.ba&&decide (0<b)))
def D4(Nd:Nat)(x:NB)(low:Nat)(d:SD)(vr:Value)(Mp D:Nat)(k f e b wa p s q bl v:Int)(a:Option Addr)(l:Nat)(c:Nat)(w:World)(h:eI w low x.St d vr Mp D)(i:0<d.recs.length)(g:d.recs.length<=100000000)(j:dI w Nd x.arr 192):
  Calls pG 244 #[P0 (Y ⟨Nd,0,Z⟩),.agg (mA k f e b wa p s q bl v (J a l c))] w λr w'=>r=.returned (.bool (e==d.ep&&(b==x.ba&&decide (0<b))))/\Bw w w':=
 OD Nd x.ba low x.St d vr Mp D k f e b wa p s q bl v a l c w h i g (j.cell 3) (j.cell 11) j.lt
def BA(P:Pl)(x:NB)(d:SD)(fs:List FD)(left:Int)(L t:Nat)(C:Nat->Prop)(la lo:List Ky)(rs:List dO)(k f e b wa p s q bl v:Int)(a:Option Addr)(O c:Nat)(Q:Int)(B:Nat)(w:World)(h:dP w P x d fs left L C la lo rs)(hB:BG t d)(ht:t<=20000000)(hm:gT x d e b Q=true->x.an=some B)(aa:Q=2∨Q=3):Calls pG 240 #[P0 (Y ⟨P.Nd,0,Z⟩),.agg (mA k f e b wa p s q bl v (J a O c)),I Q] w λr w'=>r=.returned (.bool (gT x d e b Q&&!decide ((k,e,max b q,f)∈la)))/\dP w' P x d fs left L C (bif gT x d e b Q then jB (k,e,max b q,f) la else la) lo rs/\dR C C w w':=by
 obtain⟨A,hA,a8,a4⟩:=h.1;obtain⟨vr,va,h1,h2,h3⟩:=hA.ex;have a7:=hB.ne;have ab:=hB.recs;obtain⟨b1,e1⟩:∃y,(x.ph==Q)=y:=⟨_,rfl⟩;obtain⟨b2,e2⟩:∃y,(e==d.ep&&(b==x.ba&&decide (0<b)))=y:=⟨_,rfl⟩;have HC:Hid (gT x d e b Q=(b1&&b2)):=by unfold Hid gT;rw[e1,e2]
 have V:=(Below.refl w.1.size w).alloc r_ (G (mA k f e b wa p s q bl v (J a O c)) 136);have X:=dF (dI.new w (mA k f e b wa p s q bl v (J a O c)) 136);have HB:=dF V;have N:=dF (h.later V);have ac:=dF h;have HS:=dF (h1.later V);have a2:Hid (b1=true->b2=true->x.an=some B):=λh8 h9=>hm (by unfold gT;rw[e1,e2,h8,h9];rfl);have M:=λw' (hb:Below (w.alloc (G (mA k f e b wa p s q bl v (J a O c)) 136)).1.size (w.alloc (G (mA k f e b wa p s q bl v (J a O c)) 136)) w')=>D4 P.Nd x P.low d vr P.Mp P.D k f e b wa p s q bl v a O c w' (HS.later hb) a7 oG (N.blk.later hb);rw[e2]at M;replace M:=dF M;clear h hA h1 h2 h3 hB hm V a8 a4 e2;rw[HC.out];clear HC;cases b1;·simp only[Bool.false_and,cond_false];go_enter func240,ntmps240;go_upto_region 1 with fail;generalize World.alloc _ _=W0 at*;have U:=HB.size;have F:=N.blk.drew.cell 6;have j:=N.blk.drew.cell 24;simp at F j;refine eZ (S:=(λw'=>w'.cell? ⟨P.Nd,6,Z⟩=Y (I x.ph)/\w'.cell? ⟨P.Nd,24,Z⟩=Y (Value.map x.an)/\w'.cell? ⟨w.1.size,0,Z⟩=Y (I k)/\w'.cell? ⟨w.1.size,1,Z⟩=Y (I f)/\w'.cell? ⟨w.1.size,2,Z⟩=Y (I e)/\w'.cell? ⟨w.1.size,3,Z⟩=Y (I b)/\w'.cell? ⟨w.1.size,4,Z⟩=Y (I wa)/\w'.cell? ⟨w.1.size,5,Z⟩=Y (I p)/\w'.cell? ⟨w.1.size,6,Z⟩=Y (I s)/\w'.cell? ⟨w.1.size,7,Z⟩=Y (I q)/\w'.cell? ⟨w.1.size,8,Z⟩=Y (I bl)/\w'.cell? ⟨w.1.size,9,Z⟩=Y (I v)/\w'.cell? ⟨w.1.size,10,Z⟩=Y (J a O c))) (λ_=>?_) (hS:=⟨F,j,X.drew.c11⟩);refine tk 0 ?_;refine tk 1 ?_;refine tk 2 ?_;refine tk 3 ?_;refine tk 4 ?_;refine tk 5 ?_;refine tk 6 ?_;refine tk 7 ?_;refine gD 8 ?_;refine gD 9 ?_;refine dT 10 λK l=>?_;(try go_simp);refine k1 l (λ_=>?_) ⟨F,j,X.drew.c11⟩;clear l K;refine tk 11 ?_;refine tk 12 ?_;refine gD 13 ?_;refine gD 14 ?_;refine gD 15 ?_;refine gD 16 ?_;refine gD 17 ?_;refine gD 18 ?_;refine dT 19 λK l=>?_;(try go_simp);refine k1 l (λ_=>?_) ⟨F,j,X.drew.c11⟩;clear l K;refine tk 20 ?_;refine dT 21 λK l=>?_;(try go_simp);refine kd l ?_ ⟨F,j,X.drew.c11⟩;go_wp2;go_ret;exact⟨rfl,N.later (b_.drew),.of_below (HB.drew)⟩
 have H:Hid (x.ph=Q):=by unfold Hid;simpa using e1
 clear e1;rcases aa with rfl|rfl<;>cases b2;iterate 2
  focus
   simp only[Bool.true_and,Bool.false_and,cond_false]
   clear a2
   go_enter func240,ntmps240
   go_upto_region 1 with fail
   generalize World.alloc _ _=W0 at*
   have U:=HB.size
   have F:=N.blk.drew.cell 6;have j:=N.blk.drew.cell 24;simp at F j
   rw[H.out]at F
   refine eZ (S:=(λw'=>w'.cell? ⟨P.Nd,6,Z⟩=Y (I _)/\w'.cell? ⟨P.Nd,24,Z⟩=Y (Value.map x.an)/\w'.cell? ⟨w.1.size,0,Z⟩=Y (I k)/\w'.cell? ⟨w.1.size,1,Z⟩=Y (I f)/\w'.cell? ⟨w.1.size,2,Z⟩=Y (I e)/\w'.cell? ⟨w.1.size,3,Z⟩=Y (I b)/\w'.cell? ⟨w.1.size,4,Z⟩=Y (I wa)/\w'.cell? ⟨w.1.size,5,Z⟩=Y (I p)/\w'.cell? ⟨w.1.size,6,Z⟩=Y (I s)/\w'.cell? ⟨w.1.size,7,Z⟩=Y (I q)/\w'.cell? ⟨w.1.size,8,Z⟩=Y (I bl)/\w'.cell? ⟨w.1.size,9,Z⟩=Y (I v)/\w'.cell? ⟨w.1.size,10,Z⟩=Y (J a O c))) (λ_=>?_) (hS:=⟨F,j,X.drew.c11⟩)
   refine tk 0 ?_;refine tk 1 ?_;refine tk 2 ?_;refine tk 3 ?_;refine tk 4 ?_;refine tk 5 ?_;refine tk 6 ?_;refine tk 7 ?_;refine eS 8 ?_;refine eS 9 ?_
   refine dT 10 λK l=>?_
   (try go_simp)
   go_at_call 244
   refine(M.out W0.drew (b_.drew)).mono ?_
   rintro r w1 ⟨rfl,o⟩
   have n:=dF ((N.later (b_.drew)).later o);have u:=dF (X.drew.later o);have a0:Hid (Bw w w1):=HB.drew.trans (o.mono (by exact U))
   have m:=n.blk.cell 6;have i:=n.blk.cell 24;simp at m i;rw[H.out]at m
   clear o
   refine k1 l (λ_=>?_) ⟨m,i,u.c11⟩
   clear l K
   refine tk 11 ?_;refine tk 12 ?_
   refine gD 13 ?_;refine gD 14 ?_;refine gD 15 ?_;refine gD 16 ?_;refine gD 17 ?_;refine gD 18 ?_
   refine dT 19 λK l=>?_
   (try go_simp)
   refine k1 l (λ_=>?_) ⟨m,i,u.c11⟩
   clear l K
   refine tk 20 ?_
   refine dT 21 λK l=>?_
   (try go_simp)
   refine kd l ?_ ⟨m,i,u.c11⟩
   go_wp2
   go_ret
   exact⟨rfl,n,.of_below a0⟩
  focus
   simp only[Bool.true_and,cond_true]
   have z:=dF (a2.out rfl rfl)
   clear a2
   go_enter func240,ntmps240
   go_upto_region 1 with fail
   generalize World.alloc _ _=W0 at*
   have U:=HB.size
   have F:=N.blk.drew.cell 6;have j:=N.blk.drew.cell 24;simp at F j
   rw[z.out]at j;rw[H.out]at F
   refine eZ (S:=(λw'=>w'.cell? ⟨P.Nd,6,Z⟩=Y (I _)/\w'.cell? ⟨P.Nd,24,Z⟩=Y (Value.map (some B))/\w'.cell? ⟨w.1.size,0,Z⟩=Y (I k)/\w'.cell? ⟨w.1.size,1,Z⟩=Y (I f)/\w'.cell? ⟨w.1.size,2,Z⟩=Y (I e)/\w'.cell? ⟨w.1.size,3,Z⟩=Y (I b)/\w'.cell? ⟨w.1.size,4,Z⟩=Y (I wa)/\w'.cell? ⟨w.1.size,5,Z⟩=Y (I p)/\w'.cell? ⟨w.1.size,6,Z⟩=Y (I s)/\w'.cell? ⟨w.1.size,7,Z⟩=Y (I q)/\w'.cell? ⟨w.1.size,8,Z⟩=Y (I bl)/\w'.cell? ⟨w.1.size,9,Z⟩=Y (I v)/\w'.cell? ⟨w.1.size,10,Z⟩=Y (J a O c))) (λ_=>?_) (hS:=⟨F,j,X.drew.c11⟩)
   refine tk 0 ?_;refine tk 1 ?_;refine tk 2 ?_;refine tk 3 ?_;refine tk 4 ?_;refine tk 5 ?_;refine tk 6 ?_;refine tk 7 ?_;refine eS 8 ?_;refine eS 9 ?_
   refine dT 10 λK l=>?_
   (try go_simp)
   go_at_call 244
   refine(M.out W0.drew (b_.drew)).mono ?_
   rintro r w1 ⟨rfl,o⟩
   have n:=dF ((N.later (b_.drew)).later o);have u:=dF (X.drew.later o);have a0:Hid (Bw w w1):=HB.drew.trans (o.mono (by exact U))
   have m:=n.blk.cell 6;have i:=n.blk.cell 24;simp at m i;rw[z.out]at i;rw[H.out]at m
   clear o
   refine k1 l (λ_=>?_) ⟨m,i,u.c11⟩
   clear l K
   refine tk 11 ?_;refine tk 12 ?_;refine eS 13 ?_;refine eS 14 ?_;refine eS 15 ?_;refine eS 16 ?_;refine eS 17 ?_;refine eS 18 ?_
   refine dT 19 λK l=>?_
   (try go_simp)
   go_at_call 188
   have a1:gH w1 B la:=by
    rcases n.an with⟨h9,_⟩|⟨B2,h9,h8⟩
    ·rw[z.out]at h9;cases h9
    ·rw[z.out]at h9;cases h9;exact h8
   refine(uO B la k f e b wa p s q bl v a O c w1 a1).mono ?_
   rintro r w2 ⟨rfl,a6,R⟩
   have a3:=dF (n.lu z R a6);have a5:=dF (R.jv u (Ne.symm (a1.ne u)))
   have a9:Hid (dR C C w w2):=(dR.of_below a0).trans ⟨R.wide (λg hg=>hg ▸ n.6 B (.inl z)),λ_ hg=>.inl hg⟩
   have W:=a3.blk.cell 6;have E:=a3.blk.cell 24;simp at W E;rw[z.out]at E;rw[H.out]at W
   clear a6 R a1
   refine k1 l (λ_=>?_) ⟨W,E,a5.c11⟩
   clear l K
   refine tk 20 ?_
   refine dT 21 λK l=>?_
   (try go_simp)
   refine kd l ?_ ⟨W,E,a5.c11⟩
   go_wp2
   go_ret
   exact⟨rfl,a3,a9⟩
def NB.nb'(x:NB)(d:SD):Int:=kF (dJ d.3 d.ep).pr x.rf x.id
def kH(x:NB):Int:=2^x.2.toNat - 1 - 2^x.id.toNat
def fX(x:NB)(d:SD):dN:=⟨1,0,d.ep,x.nb' d,0,0,0,0,0,0,none,0,[]⟩
def jW(x:NB)(d:SD)(B:Nat):NB:={x with ph:=2,ba:=x.nb' d,fo:={eP d 1 d.ep (x.nb' d) with f:=x.id},an:=some B}
def lU(P:Pl)(x:NB)(d:SD)(fs:List FD)(left:Int)(t:Nat)(C:Nat->Prop)(la lo:List Ky)(rs:List dO)(r:Ending)(w w':World):Prop:=((1000000000000<x.nb' d)/\(r=.returned (J Z 0 0))/\(dP w' P x d fs left (eB t) C la lo rs)/\(dR C C w w'))∨((¬1000000000000<x.nb' d)/\(r=.returned (J Z 0 0))/\(eQ P (x.after false) d fs left t C [] [] rs (fX x d) false w w'))∨(∃B:Nat,∃l:Value,(¬1000000000000<x.nb' d)/\(r=.returned l)/\(dZ w' w.1.size l (fZ (kH x) (gR 1 x.id d.ep (x.nb' d) 0 0 0 0 0 0 []) x.2.toNat))/\(eQ P (jW x d B) d fs left t C [(2,d.ep,x.nb' d,x.id)] lo rs (fX x d) true w w'))
def lU.none{P:Pl}{x:NB}{d:SD}{fs:List FD}{left:Int}{t:Nat}{C:Nat->Prop}{la lo:List Ky}{rs:List dO}{r:Ending}{w w':World}(h:1000000000000<x.nb' d)(b:r=.returned (J Z 0 0))(a:dP w' P x d fs left (eB t) C la lo rs)(c:dR C C w w'):lU P x d fs left t C la lo rs r w w':=.inl ⟨h,b,a,c⟩
def lU.fail{P:Pl}{x:NB}{d:SD}{fs:List FD}{left:Int}{t:Nat}{C:Nat->Prop}{la lo:List Ky}{rs:List dO}{r:Ending}{w w':World}(h:¬1000000000000<x.nb' d)(b:r=.returned (J Z 0 0))(a:eQ P (x.after false) d fs left t C [] [] rs (fX x d) false w w'):lU P x d fs left t C la lo rs r w w':=.inr (.inl ⟨h,b,a⟩)
def lU.ok{P:Pl}{x:NB}{d:SD}{fs:List FD}{left:Int}{t:Nat}{C:Nat->Prop}{la lo:List Ky}{rs:List dO}{r:Ending}{w w':World}(B:Nat)(l:Value)(h:¬1000000000000<x.nb' d)(c:r=.returned l)(a:dZ w' w.1.size l (fZ (kH x) (gR 1 x.id d.ep (x.nb' d) 0 0 0 0 0 0 []) x.2.toNat))(b:eQ P (jW x d B) d fs left t C [(2,d.ep,x.nb' d,x.id)] lo rs (fX x d) true w w'):lU P x d fs left t C la lo rs r w w':=.inr (.inr (⟨B,l,h,c,a,b⟩))
structure R8(Nd:Nat)(w1:World)(X O:Nat)(u v a:Array Value)(b:Option Nat)(W:World):Prop where
 n:dI W Nd a 192
 x:dI W X u 136
 o:dI W O v 136
 k:dQ (λg=>g=Nd) w1 W
 m:∀B,b=some B->gH W B []
def R8.set{Nd X O:Nat}{w1 W:World}{u v a:Array Value}{b:Option Nat}(h:R8 Nd w1 X O u v a b W)(i:Nat)(z:Value):R8 Nd w1 X O u v (a.setIfInBounds i z) b (W.setCell ⟨Nd,i,Z⟩ z):=
 have c:=(dM.self Nd W).set i z
 ⟨h.n.set i z,h.x.same (c.block X (h.x.ne h.n dG)),h.o.same (c.block O (h.o.ne h.n dG)),h.k.trans (B:=λg=>g=Nd) ⟨c.os,c.tape,c.output,by rw[c.size];exact Nat.le_refl _,λk j f=>c.block k f⟩ (λ_ d=>d) (λ_ _ d=>d),λB e=>(h.m B e).same (c.block B ((h.m B e).ne h.n))⟩
def R8.map{Nd X O:Nat}{w1 W:World}{u v a:Array Value}(h:R8 Nd w1 X O u v a none W):R8 Nd w1 X O u v a (some W.1.size) (W.alloc (Obj.map #[] 0)):=⟨h.n.old _,h.x.old _,h.o.old _,h.k.trans (dQ.of_below (A:=λ_=>False) (a_ _ _)) (λ_ b=>b) (λ_ _ b=>b.elim),λB c=>by cases c;exact⟨⟨#[],0,heap_alloc_new _ _,rfl⟩⟩⟩
def mG(low St:Nat)(d:SD)(vr:Value)(Mp D:Nat)(w:World)(h:eI w low St d vr Mp D)(b:0<d.recs.length)(a:d.recs.length<=100000000):
  Calls pG 179 #[P0 (Y ⟨St,0,Z⟩)] w λr w'=>r=.returned (I d.ep)/\w'=w:=oX low St d vr Mp D w h b a
def wV(Nd:Nat)(x:NB)(low:Nat)(d:SD)(vr:Value)(Mp D:Nat)(w:World)(h:eI w low x.St d vr Mp D)(l:dI w Nd x.arr 192)(g:0<d.recs.length)(c:d.recs.length<=100000000)(j:0<=x.id/\x.id<5)(i:0<=(dJ d.3 d.ep).pr/\(dJ d.3 d.ep).pr<=1000000000000)(a:e_ x.rf):
  Calls pG 135 #[P0 (Y ⟨Nd,0,Z⟩),.agg #[I x.ph,I x.gE,I x.gP,I x.gS,I x.jo,I x.ba,I x.rf,I x.fo.k,I x.fo.f,I x.fo.e,I x.fo.b,I x.fo.wa,I x.fo.p,I x.fo.s,I x.fo.q,I x.fo.bl,I x.fo.v,J Z 0 0,Value.map x.an]] w λr w'=>r=.returned (I (x.nb' d))/\Bw w w':=
 AC Nd x x.id low x.St d vr Mp D w h g c (l.cell 3) (l.cell 0) l.lt j i a
def wH(hSO:fB)(hBW:fH)(hBS:fI)(P:Pl)(x:NB)(d:SD)(fs:List FD)(left:Int)(t:Nat)(C:Nat->Prop)(la lo:List Ky)(rs:List dO)(w:World)(h:dP w P x d fs left (eB t) C la lo rs)(hB:BG t d)(ht:t<=20000000)(bk:x.5=false)(aP:2<=x.2/\x.2<=5)(aT:0<=x.id/\x.id<x.2)(aF:0<=(dJ d.3 d.ep).pr/\(dJ d.3 d.ep).pr<=1000000000000)(aE:e_ x.rf):Calls pG 136 #[P0 (Y ⟨P.Nd,0,Z⟩)] w λr w'=>lU P x d fs left t C la lo rs r w w':=by
 obtain⟨A,hA,aY,aI⟩:=h.1;obtain⟨vr,va,h1,h2,h3⟩:=hA.ex;have a5:=hB.ne;have bU:=hB.recs;have bL:=h.tabs.two;have a1:0<=x.id/\x.id<5:=oG;have aX:0<=d.ep/\d.ep<=1000000000000:=by unfold SD.ep;omega
 obtain⟨bu,c2,bQ⟩:=tI (dJ d.3 d.ep).pr x.rf x.id aF.1 aE.1 aT.1;have aN:jA d 1 d.ep (x.nb' d) 0 0=true:=A9 d _ bu;have aJ:=wM d (x.nb' d) (by unfold NB.nb';omega);have HF:=dF h;have HA:=dF hA;have HS:=dF h1;have HN:=dF hA.blk;have bx:=dF hB;have aZ:=dF bk;have bq:Hid (∀g,w.1.size<=g->¬A g):=λg hg=>hA.fresh hg;have c5:Hid (∀g,w.1.size<=g->¬C g):=λg hg=>h.fresh hg;have B:Bw w (w.alloc (G mz 136)).drew:=(a_ _ _).drew;have R:Bw w w.drew:=b_.drew;clear h hA h1 h2 h3 hB bk;go_enter func136,ntmps136;go_upto_region 2 with fail;go_cut [4] (λs4 wx=>∃X,s4=P0 (Y ⟨X,0,Z⟩)/\w.1.size<=X/\dI wx X (mA 1 0 d.ep (x.nb' d) 0 0 0 0 0 0 (J Z 0 0)) 136/\Bw w wx);case first=>
  refine l9 (S:=(λw'=>dI w' P.Nd x.arr 192)) (λ_=>?_) (hS:=HN.drew);refine dH 0 ?_;refine dH 1 ?_;refine dH 2 ?_;refine dH 3 ?_ (hy:=by intro w z;have H:=z.cell 3;simp at H;go_simp;(try with_reducible rfl));refine dH 4 ?_;refine dH 5 ?_;refine dH 7 ?_;refine dH 8 ?_;refine dH 9 ?_;refine i4 10 P.Nd 6 [I x.ph,I x.gE,I x.gP,I x.gS,I x.jo,I x.ba,I x.rf,I x.fo.k,I x.fo.f,I x.fo.e,I x.fo.b,I x.fo.wa,I x.fo.p,I x.fo.s,I x.fo.q,I x.fo.bl,I x.fo.v,J Z 0 0,Value.map x.an] ?_ (λw z=>z.range rfl);refine jC [6,13] ?_;refine .cons rfl (λK i=>?_) ?_;focus
   (try go_simp)
   go_at_call 179
   refine(mG P.low x.St d vr P.Mp P.D _ (HS.later R) a5 oG).mono ?_
   rintro r w1 ⟨rfl,rfl⟩
   refine k2 i (λ_=>?_) (HN.later R);clear i K
   refine jC [11,13] ?_
   refine .cons rfl (λK i=>?_) ?_
   ·(try go_simp)
    go_at_call 135
    refine(wV P.Nd x P.low d vr P.Mp P.D _ (HS.later R) (HN.later R) a5 oG a1 aF aE).mono ?_
    rintro r wq ⟨rfl,W⟩
    have O:Hid (Bw w wq):=R.trans (W.mono (by exact R.size))
    have L:=dF (HN.later O)
    refine k2 i (λ_=>?_) L;clear i K
    refine jC [12,13] ?_
    refine .cons rfl (λK i=>?_) ?_
    focus
     (try go_simp)
     refine kr i 13 (λK i=>?_) L
    rotate_left
    focus
     refine .cons rfl (λK i=>?_) .nil
     (try go_simp)
     refine kr i 12 (λK i=>?_) (L.old _)
    all_goals
     (try go_simp)
     refine kr i 14 (λK i=>?_) (L.old _)
     (try go_simp)
     refine kd i ?_ (L.old _)
     go_wp2_with fail
     go_meet
     exact⟨wq.1.size,rfl,O.size,dI.new _ _ _,O.alloc O.size _⟩
   refine .cons rfl (λK i=>?_) .nil
   (try go_simp)
   refine kr i 11 (λK i=>?_) (HN.later B)
   (try go_simp)
   go_at_call 135
   refine(wV P.Nd x P.low d vr P.Mp P.D _ (HS.later B) (HN.later B) a5 oG a1 aF aE).mono ?_
   rintro r wq ⟨rfl,W⟩
   have O:Hid (Bw w wq):=B.trans (W.mono (by exact B.size))
   have L:=dF (HN.later O)
   have j:=((dI.new w mz 136).drew).later W
   have c1:=j.cell
  rotate_left;focus
   refine .cons rfl (λK i=>?_) .nil
   (try go_simp)
   refine kr i 6 (λK i=>?_) (HN.later B)
   (try go_simp)
   go_at_call 179
   refine(mG P.low x.St d vr P.Mp P.D _ (HS.later B) a5 oG).mono ?_
   rintro r w1 ⟨rfl,rfl⟩
   refine kr i 11 (λK i=>?_) (HN.later B)
   (try go_simp)
   go_at_call 135
   refine(wV P.Nd x P.low d vr P.Mp P.D _ (HS.later B) (HN.later B) a5 oG a1 aF aE).mono ?_
   rintro r wq ⟨rfl,W⟩
   have O:Hid (Bw w wq):=B.trans (W.mono (by exact B.size))
   have L:=dF (HN.later O)
   have j:=((dI.new w mz 136).drew).later W
   have bP:=j.cell
  all_goals
   have c0:=j.free 0;have c3:=j.free 1;have bT:=j.free 2;have bN:=j.free 3;have bS:=j.free 4;have bR:=j.free 5;have aG:=j.free 6;have bV:=j.free 7;have bM:=j.free 8;have bJ:=j.free 9;have bI:=j.free 10
   refine kr i 12 (λK i=>?_) L
   (try go_simp)
   refine kr i 14 (λK i=>?_) L
   have bd:=dF (pN wq w.1.size (I 1) (I 0) (I d.ep) (I (x.nb' d)) (I 0) (I 0) (I 0) (I 0) (I 0) (I 0) (J Z 0 0))
   have bs:=dF (j.s11 (I 1) (I 0) (I d.ep) (I (x.nb' d)) (I 0) (I 0) (I 0) (I 0) (I 0) (I 0) (J Z 0 0))
   (try go_simp)
   generalize World.setCell _ _ _=W9 at*
   have a2:=dF (L.same (bd.block P.Nd (by have:=HN.lt;omega)))
   refine kd i ?_ a2
   go_wp2_with fail
   go_meet
   exact⟨w.1.size,rfl,Nat.le_refl _,bs,O.trans (bd.below r_)⟩
 case rest=>
  clear B R;obtain⟨X,rfl,hX,aR,aM⟩:=hcut;obtain⟨W0,bA⟩:∃y,y=wc:=⟨_,rfl⟩;subst bA;have HX:=dF aR;have HB:=dF aM;have hs:=aM.size;have bO:=aR.lt;clear aR aM;have bG:=HX.cell;by_cases N:1000000000000<x.nb' d
  ·have bC:decide (1000000000000<x.nb' d)=true:=by simpa using N
   have am:=dF N;clear N;go_wp2;go_ret;exact .none am rfl (HF.later HB) (.of_below HB)
  have bC:decide (1000000000000<x.nb' d)=false:=by simpa using N
  have am:Hid (¬1000000000000<x.nb' d):=N;clear N;go_wp2_with fail;refine(AD hSO hBW hBS P x d fs left t A 1 0 d.ep (x.nb' d) 0 0 0 0 0 0 none [] 0 W0 (HA.later HB) bx ht (.inl rfl) (λ_ H=>by cases H) aX (.inl rfl) aZ).mono ?_;rintro r w1 ⟨ok,bo,aK⟩;dsimp only at bo;subst bo;rw[aN]at aK;have aj:i2 P (x.after ok) d fs left t A (fX x d) ok W0 w1:=by rcases aK with⟨H,_⟩|⟨_,H⟩;cases H;exact H
  clear aK;have b5:=dF (aj.blk HX (bq.out _ hX));clear bG;cases ok;·have E:Hid (eQ P (x.after false) d fs left t C [] [] rs (fX x d) false W0 w1):=(HF.later HB).jk aY aI aj rfl rfl rfl;clear aj;generalize (bif false then eP d 1 d.ep (x.nb' d) else iO.nil)=o;have c4:=E.at.cell 4;simp[NB.after,NB.stand]at c4;have aV:=E.at.lt;have a3:Hid (Bw w1 (w1.alloc (G (mA o.k x.id o.e o.b o.wa o.p o.s o.q o.bl o.v (J Z 0 0)) 136))):=a_ _ _;have n4:=(a3.cell (p:=⟨P.Nd,4,Z⟩) aV).trans c4;go_wp2;go_ret;exact .fail (by have H:=am.out;omega) rfl ((E.later a3).pre HB)
  have E:Hid (eQ P x d fs left t C la lo rs (fX x d) true W0 w1):=(HF.later HB).saved aY aI aj rfl rfl rfl;clear aj;have bD:=dF aJ;generalize ho:(bif true then eP d 1 d.ep (x.nb' d) else iO.nil)=o;have HO:Hid (o=eP d 1 d.ep (x.nb' d)):=ho.symm;clear ho aJ;have c4:=E.at.cell 4;simp at c4;rw[aZ.out]at c4;have aV:=E.at.lt;have aC:Hid (dI (w1.alloc (G (mA o.k x.id o.e o.b o.wa o.p o.s o.q o.bl o.v (J Z 0 0)) 136)) w1.1.size (mA o.k x.id o.e o.b o.wa o.p o.s o.q o.bl o.v (J Z 0 0)) 136):=dI.new _ _ _;have aU:=dF (b5.old (G (mA o.k x.id o.e o.b o.wa o.p o.s o.q o.bl o.v (J Z 0 0)) 136));have b0:=dF (E.at.old (G (mA o.k x.id o.e o.b o.wa o.p o.s o.q o.bl o.v (J Z 0 0)) 136));have a3:Hid (Bw w1 (w1.alloc (G (mA o.k x.id o.e o.b o.wa o.p o.s o.q o.bl o.v (J Z 0 0)) 136))):=a_ _ _;have n4:=(a3.cell (p:=⟨P.Nd,4,Z⟩) aV).trans c4;go_upto_region 8 with fail;generalize World.alloc _ _=W2 at*;have bH:=aC.lt;go_cut [39] (λs39 wx=>∃M,w1.1.size<=M/\dI wx P.Nd ({x with ph:=2,ba:=x.nb' d,fo:={k:=o.k,f:=x.id,e:=o.e,b:=o.b,wa:=o.wa,p:=o.p,s:=o.s,q:=o.q,bl:=o.bl,v:=o.v},an:=some M}:NB).arr 192/\gH wx M []/\dI wx X (mA 1 0 d.ep (x.nb' d) 0 0 0 0 0 0 (J Z 0 0)) 136/\dI wx w1.1.size (mA o.k x.id o.e o.b o.wa o.p o.s o.q o.bl o.v (J Z 0 0)) 136/\dQ (λg=>g=P.Nd) w1 wx);case first=>
   refine l9 (S:=(λw'=>dI w' X (mA 1 0 d.ep (x.nb' d) 0 0 0 0 0 0 (J Z 0 0)) 136/\dI w' w1.1.size (mA o.k x.id o.e o.b o.wa o.p o.s o.q o.bl o.v (J Z 0 0)) 136)) (λ_=>?_) (hS:=⟨aU.drew,aC.drew⟩);refine dH 0 ?_;refine dH 1 ?_;refine dH 2 ?_;refine dH 3 ?_;refine dH 4 ?_;refine dH 5 ?_ (hy:=by intro w z;have H:=z.1.cell 3;simp at H;go_simp;(try with_reducible rfl));refine i4 6 w1.1.size 0 [I o.k,I x.id,I o.e,I o.b,I o.wa,I o.p,I o.s,I o.q,I o.bl,I o.v,J Z 0 0] ?_ (λw z=>z.2.range rfl);refine dH 8 ?_;refine dH 9 ?_;have au:Hid (R8 P.Nd w1 X w1.1.size (mA 1 0 d.ep (x.nb' d) 0 0 0 0 0 0 (J Z 0 0)) (mA o.k x.id o.e o.b o.wa o.p o.s o.q o.bl o.v (J Z 0 0)) x.arr none W2.drew):=⟨b0.drew,aU.drew,aC.drew,dQ.of_below (a3.drew),λ_ H=>by cases H⟩;generalize World.drew _=W3 at*;refine jC [7,10] ?_;refine .cons rfl (λK i=>?_) ?_;focus
    (try go_simp)
    rw[run_makeMap]
    (try go_simp)
    have u:=dF au.map
    have V:w1.1.size<=W3.1.size:=au.k.size
    generalize World.alloc _ _=W4 at*
    generalize W3.1.size=M at*
    refine kr i 10 (λK i=>?_) ⟨u.x,u.o⟩
    have e6:=u.n.cell 6;simp at e6
    have aG:=u.n.free 6
    have a:=dF (u.set 6 (I 2))
    (try go_simp)
    generalize World.setCell _ _ _=W5 at*
    clear e6 aG
    refine k2 i (λ_=>?_) ⟨a.x,a.o⟩;clear i K
    refine dH 11 ?_
    refine dH 12 ?_
   rotate_left;focus
    refine .cons rfl (λK i=>?_) .nil
    have e6:=au.n.cell 6;simp at e6
    have aG:=au.n.free 6
    have u:=dF (au.set 6 (I 2))
    (try go_simp)
    generalize World.setCell _ _ _=W4 at*
    clear e6 aG
    refine k2 i (λ_=>?_) ⟨u.x,u.o⟩;clear i K
    refine dH 11 ?_
    refine dH 12 ?_
    refine jC [7,13] ?_
    refine .cons rfl (λK i=>?_) ?_
   focus
    (try go_simp)
    rw[run_makeMap]
    (try go_simp)
    have a:=dF u.map
    have V:w1.1.size<=W4.1.size:=u.k.size
    generalize World.alloc _ _=W5 at*
    generalize W4.1.size=M at*
    refine k2 i (λ_=>?_) ⟨a.x,a.o⟩;clear i K
   rotate_left;rotate_left;iterate 2
    focus
     refine dT 13 λK i=>?_
     have aw:=a.n.cell 11;simp at aw
     have a6:=a.n.free 11
     have c:=dF (a.set 11 (I (x.nb' d)))
     (try go_simp)
     generalize World.setCell _ _ _=W6 at*
     clear aw a6
     refine k2 i (λ_=>?_) ⟨c.x,c.o⟩;clear i K
     refine dH 14 ?_
     refine dH 15 ?_
    rotate_left
   focus
    refine .cons rfl (λK i=>?_) .nil
    have aw:=u.n.cell 11;simp at aw
    have a6:=u.n.free 11
    have a:=dF (u.set 11 (I (x.nb' d)))
    (try go_simp)
    generalize World.setCell _ _ _=W5 at*
    clear aw a6
    refine k2 i (λ_=>?_) ⟨a.x,a.o⟩;clear i K
    refine dH 14 ?_
    refine dH 15 ?_
    refine jC [7,16] ?_
    refine .cons rfl (λK i=>?_) ?_
   focus
    (try go_simp)
    rw[run_makeMap]
    (try go_simp)
    have c:=dF a.map
    have V:w1.1.size<=W5.1.size:=a.k.size
    generalize World.alloc _ _=W6 at*
    generalize W5.1.size=M at*
    refine k2 i (λ_=>?_) ⟨c.x,c.o⟩;clear i K
   rotate_left;rotate_left;iterate 3
    focus
     refine dT 16 λK i=>?_
     have ab:=c.n.cell 13;have aq:=c.n.cell 14;have aa:=c.n.cell 15;have ag:=c.n.cell 16;have az:=c.n.cell 17;have a8:=c.n.cell 18;have av:=c.n.cell 19;have ae:=c.n.cell 20;have ap:=c.n.cell 21;have ah:=c.n.cell 22;have al:=c.n.cell 23;simp at ab aq aa ag az a8 av ae ap ah al
     have ak:=c.n.free 13;have ay:=c.n.free 14;have ax:=c.n.free 15;have ad:=c.n.free 16;have a9:=c.n.free 17;have ar:=c.n.free 18;have a7:=c.n.free 19;have ai:=c.n.free 20;have ac:=c.n.free 21;have ao:=c.n.free 22;have af:=c.n.free 23
     have Q:=dF (((((((((((c.set 13 (I o.k)).set 14 (I x.id)).set 15 (I o.e)).set 16 (I o.b)).set 17 (I o.wa)).set 18 (I o.p)).set 19 (I o.s)).set 20 (I o.q)).set 21 (I o.bl)).set 22 (I o.v)).set 23 (J Z 0 0))
     (try go_simp)
     generalize World.setCell _ _ _=W7 at*
     clear ab ak aq ay aa ax ag ad az a9 a8 ar av a7 ae ai ap ac ah ao al af
     refine k2 i (λ_=>?_) ⟨Q.x,Q.o⟩;clear i K
    rotate_left
   focus
    refine .cons rfl (λK i=>?_) .nil
    have ab:=a.n.cell 13;have aq:=a.n.cell 14;have aa:=a.n.cell 15;have ag:=a.n.cell 16;have az:=a.n.cell 17;have a8:=a.n.cell 18;have av:=a.n.cell 19;have ae:=a.n.cell 20;have ap:=a.n.cell 21;have ah:=a.n.cell 22;have al:=a.n.cell 23;simp at ab aq aa ag az a8 av ae ap ah al
    have ak:=a.n.free 13;have ay:=a.n.free 14;have ax:=a.n.free 15;have ad:=a.n.free 16;have a9:=a.n.free 17;have ar:=a.n.free 18;have a7:=a.n.free 19;have ai:=a.n.free 20;have ac:=a.n.free 21;have ao:=a.n.free 22;have af:=a.n.free 23
    have c:=dF (((((((((((a.set 13 (I o.k)).set 14 (I x.id)).set 15 (I o.e)).set 16 (I o.b)).set 17 (I o.wa)).set 18 (I o.p)).set 19 (I o.s)).set 20 (I o.q)).set 21 (I o.bl)).set 22 (I o.v)).set 23 (J Z 0 0))
    (try go_simp)
    generalize World.setCell _ _ _=W6 at*
    clear ab ak aq ay aa ax ag ad az a9 a8 ar av a7 ae ai ap ac ah ao al af
    refine kr i 7 (λK i=>?_) ⟨c.x,c.o⟩
    (try go_simp)
    rw[run_makeMap]
    (try go_simp)
    have Q:=dF c.map
    have V:w1.1.size<=W6.1.size:=c.k.size
    generalize World.alloc _ _=W7 at*
    generalize W6.1.size=M at*
    refine k2 i (λ_=>?_) ⟨Q.x,Q.o⟩;clear i K
   all_goals
    refine dH 17 ?_
    refine dH 18 ?_
    refine dT 19 λK i=>?_
    have b8:=Q.n.cell 24;simp at b8
    have bj:=Q.n.free 24
    have a0:=dF (Q.set 24 (Value.map (some M)))
    (try go_simp)
    generalize World.setCell _ _ _=W8 at*
    clear b8 bj
    refine kd i ?_ ⟨a0.x,a0.o⟩
    go_wp2_with fail
    go_meet
    exact⟨_,V,by have H:=a0.n;simpa using H,a0.m _ rfl,a0.x,a0.o,a0.k⟩
  case rest=>
   obtain⟨M,V,bb,bp,bh,aW,bg⟩:=hcut;have U:=dF bb;have a4:=dF bp;have aO:=dF bh;have aA:=dF aW;have aD:=dF bg;clear bb bp bh aW bg b0 aU aC a3;obtain⟨W8,bF⟩:∃y,y=wc:=⟨_,rfl⟩;subst bF;have bm:M≠P.Nd:=a4.ne U;have bz:M≠w1.1.size:=a4.ne aA;have bB:M≠X:=a4.ne aO;have bc:=U.cell 24;simp at bc;go_upto_region 9 with fail;go_cut [53] (λs53 wx=>gH wx M (jB (o.k,o.e,max o.b o.q,x.id) [])/\dQ (λg=>g=M) W8 wx);case first=>refine eZ (S:=(λw'=>dI w' P.Nd ({x with ph:=2,ba:=x.nb' d,fo:={k:=o.k,f:=x.id,e:=o.e,b:=o.b,wa:=o.wa,p:=o.p,s:=o.s,q:=o.q,bl:=o.bl,v:=o.v},an:=some M}:NB).arr 192/\dI w' w1.1.size (mA o.k x.id o.e o.b o.wa o.p o.s o.q o.bl o.v (J Z 0 0)) 136)) (λ_=>?_) (hS:=⟨U.drew,aA.drew⟩);refine dH 0 ?_;refine dH 1 ?_;refine dH 2 ?_;refine dH 3 ?_ (hy:=by intro w z;have H:=z.1.cell 24;simp at H;go_simp;(try with_reducible rfl));refine i4 4 w1.1.size 0 [I o.k,I x.id,I o.e,I o.b,I o.wa,I o.p,I o.s,I o.q,I o.bl,I o.v,J Z 0 0] ?_ (λw z=>z.2.range rfl);refine dT 5 λK i=>?_;(try go_simp);go_at_call 188;refine(uO M [] o.k x.id o.e o.b o.wa o.p o.s o.q o.bl o.v none 0 0 W8.drew ⟨a4.1⟩).mono ?_;rintro r w4 ⟨rfl,aB,F⟩;have bw:=dF (F.jv aA.drew (Ne.symm bz));have b1:=dF (F.jv U.drew (Ne.symm bm));have b3:=b1.cell 24;simp at b3;refine kd i ?_ ⟨b1,bw⟩;go_wp2_with fail;go_meet;exact⟨aB,⟨F.os,F.tape,F.output,F.size,F.block⟩⟩
   case rest=>
    obtain⟨aB,F⟩:=hcut;obtain⟨W4,bt⟩:∃y,y=wc:=⟨_,rfl⟩;subst bt;have bi:=dF (F.jv aO (Ne.symm bB));have a2:=dF (F.jv U (Ne.symm bm));have bn:=dF aB;have bf:=dF F;clear aB F;have b9:Hid (eQ P ({x with ph:=2,ba:=x.nb' d,fo:={k:=o.k,f:=x.id,e:=o.e,b:=o.b,wa:=o.wa,p:=o.p,s:=o.s,q:=o.q,bl:=o.bl,v:=o.v},an:=some M}:NB) d fs left t C [] lo rs (fX x d) true W0 W8):=E.reset (x':=({x with ph:=2,ba:=x.nb' d,fo:={k:=o.k,f:=x.id,e:=o.e,b:=o.b,wa:=o.wa,p:=o.p,s:=o.s,q:=o.q,bl:=o.bl,v:=o.v},an:=some M}:NB)) aD U rfl (λg hg=>hg.elim (λH=>.inr (by cases H;exact V)) (λH=>.inl (.inr H))) (.inr ⟨M,rfl,a4⟩) (E.oa aD) (λg hg hh=>by cases hg;exact absurd (E.lt (.inr (.inl hh))) (Nat.not_lt.2 V)) (E.row aD);have b6:=dF (b9.lu rfl bf bn);have bX:=dF b6.tabs;clear b9 bf bn U a4 aO aA aD E b5 bc;have bZ:=a2.lt;go_upto_region 10 with fail;refine eZ (S:=(λw'=>dI w' X (mA 1 0 d.ep (x.nb' d) 0 0 0 0 0 0 (J Z 0 0)) 136)) (λ_=>?_) (hS:=bi.drew);refine dH 0 ?_;refine dH 1 ?_;refine i4 3 X 0 [I 1,I 0,I d.ep,I (x.nb' d),I 0,I 0,I 0,I 0,I 0,I 0,J Z 0 0] ?_ (λw z=>z.range rfl);refine dT 2 λK i=>?_;(try go_simp);go_at_call 178;have y0:=a2.drew.cell 0;have y1:=a2.drew.cell 1;simp at y0 y1;refine(uL P.Nd x.id x.2 W4.drew y0 y1 aP aT).mono ?_;rintro r w5 ⟨rfl,nq,rfl⟩;have aH:Bw W4 (W4.drew.drewN nq):=b_.drew.trans (below_drewN b_ _);have b4:=dF (bi.later aH);have aL:=dF (a2.later aH);have aS:=dF (b6.later aH);have bv:=dF aS.tabs;clear aH;generalize World.drewN _ _=W5 at*;refine k1 i (λ_=>?_) b4;clear i K y0 y1;refine dT 4 λK i=>?_;(try go_simp);go_at_call 140;have y0:=aL.cell 0;have y1:=aL.cell 1;simp at y0 y1;refine(pE P.Nd x.id x.2 (kH x) 1 0 d.ep (x.nb' d) 0 0 0 0 0 0 none [] 0 W5 y0 y1 aL.lt bv (.inl rfl) ⟨oG,aP.2⟩ (uU _ _ aP aT) (sA x.id d.ep (x.nb' d) a1 aX ⟨by unfold NB.nb';omega,by have H:=am.out;omega⟩)).mono ?_;rintro r w6 ⟨l,rfl,hl,aQ⟩;obtain⟨bK,bW,bY,rfl⟩:=hl.shape;have b7:=dF (b4.later aQ);have bE:=dF (aS.later aQ);have br:=dF (hl.mono (Nat.le_trans hs aS.size));clear hl aQ;refine kr i 5 (λK i=>?_) b7;(try go_simp);refine kd i ?_ b7;go_wp2;go_ret;have H:=HO.out;subst H;have be:jB ((eP d 1 d.ep (x.nb' d)).k,(eP d 1 d.ep (x.nb' d)).e,max (eP d 1 d.ep (x.nb' d)).b (eP d 1 d.ep (x.nb' d)).q,x.id) []=[(2,d.ep,x.nb' d,x.id)]:=by rw[bD.out];simp[jB];unfold NB.nb';omega
    have b2:=bE.pre HB;rw[be]at b2;exact .ok M _ (by have H:=am.out;omega) rfl br b2
@[reducible] def gQ(x:NB):NB:={x with ph:=0,gE:=0,gP:=0,gS:=0,jo:=0,ba:=0,rf:=0,fo:=⟨0,0,0,0,0,0,0,0,0,0⟩,an:=none}
def gZ(x:NB)(d:SD):dN:=⟨6,0,d.ep,0,0,x.gP,x.gS,0,0,0,none,0,[]⟩
def CY(a:Act)(v:Value):a.put none v=a:=rfl
def eQ.chain{w w1 w2:World}{P:Pl}{x:NB}{d:SD}{fs:List FD}{left:Int}{t:Nat}{C C':Nat->Prop}{la lo:List Ky}{rs:List dO}{m:dN}{ok:Bool}(h:eQ P x d fs left t C' la lo rs m ok w1 w2)(e:dR C C' w w1):eQ P x d fs left t C la lo rs m ok w w2:=by obtain⟨fs',left',d',b,f,a,c⟩:=h;exact⟨fs',left',d',b,f,a,e.trans c⟩
def mC(P:Pl)(x:NB)(d:SD)(fs:List FD)(left:Int)(t:Nat)(C:Nat->Prop)(lo:List Ky)(rs:List dO)(r:Ending)(w w':World):Prop:=(∃C':Nat->Prop,(kN d d.ep x.gP x.gS=false)/\(r=.returned (J Z 0 0))/\(dP w' P (gQ x) d fs left (eB t) C' [] lo rs)/\(dR C C' w w'))∨((kN d d.ep x.gP x.gS=true)/\(r=.returned (J Z 0 0))/\(eQ P ((gQ x).after false) d fs left t C [] [] rs (gZ x d) false w w'))∨(∃l:Value,(kN d d.ep x.gP x.gS=true)/\(r=.returned l)/\(dZ w' w.1.size l (fZ (kH x) (gR 6 x.id d.ep 0 0 x.gP x.gS 0 0 0 []) x.2.toNat))/\(eQ P (mL (gQ x) d d.ep x.gP true) d fs left t C [] [] rs (gZ x d) true w w'))
def mC.no{P:Pl}{x:NB}{d:SD}{fs:List FD}{left:Int}{t:Nat}{C:Nat->Prop}{lo:List Ky}{rs:List dO}{r:Ending}{w w':World}(C':Nat->Prop)(h:kN d d.ep x.gP x.gS=false)(b:r=.returned (J Z 0 0))(a:dP w' P (gQ x) d fs left (eB t) C' [] lo rs)(c:dR C C' w w'):mC P x d fs left t C lo rs r w w':=.inl ⟨C',h,b,a,c⟩
def mC.fail{P:Pl}{x:NB}{d:SD}{fs:List FD}{left:Int}{t:Nat}{C:Nat->Prop}{lo:List Ky}{rs:List dO}{r:Ending}{w w':World}(h:kN d d.ep x.gP x.gS=true)(b:r=.returned (J Z 0 0))(a:eQ P ((gQ x).after false) d fs left t C [] [] rs (gZ x d) false w w'):mC P x d fs left t C lo rs r w w':=.inr (.inl ⟨h,b,a⟩)
def mC.ok{P:Pl}{x:NB}{d:SD}{fs:List FD}{left:Int}{t:Nat}{C:Nat->Prop}{lo:List Ky}{rs:List dO}{r:Ending}{w w':World}(l:Value)(h:kN d d.ep x.gP x.gS=true)(c:r=.returned l)(a:dZ w' w.1.size l (fZ (kH x) (gR 6 x.id d.ep 0 0 x.gP x.gS 0 0 0 []) x.2.toNat))(b:eQ P (mL (gQ x) d d.ep x.gP true) d fs left t C [] [] rs (gZ x d) true w w'):mC P x d fs left t C lo rs r w w':=.inr (.inr (⟨l,h,c,a,b⟩))
def H0(hSO:fB)(hBW:fH)(hBS:fI)(P:Pl)(x:NB)(d:SD)(fs:List FD)(left:Int)(t:Nat)(C:Nat->Prop)(la lo:List Ky)(rs:List dO)(w:World)(h:dP w P x d fs left (eB t) C la lo rs)(hB:BG t d)(ht:t<=20000000)(ad:x.5=false)(N:2<=x.2/\x.2<=5)(a9:0<=x.id/\x.id<x.2)(aw:0<=x.gP/\x.gP<=5)(av:0<=x.gS/\x.gS<=31):Calls pG 243 #[P0 (Y ⟨P.Nd,0,Z⟩)] w λr w'=>mC P x d fs left t C lo rs r w w':=by
 have a5:=hB.ne;have ay:=hB.recs;have aA:=h.tabs.two;have ab:0<=x.id/\x.id<5:=oG;have a6:0<=d.ep/\d.ep<=1000000000000:=by unfold SD.ep;omega
 have a3:=(Below.refl w.1.size w).alloc r_ (G #[I x.gE,I x.gP,I x.gS] 66);have HB:=dF a3;have HG:=dF (dI.new w #[I x.gE,I x.gP,I x.gS] 66);have HF:=dF (h.later a3);have aj:=dF hB;have ao:=dF ad;have v:=dF HF.blk;have ak:=h.blk.cell;have aG:Hid (∀g,w.1.size<=g->¬C g):=λg W=>h.fresh W;obtain⟨fo,af⟩:∃y,kN d d.ep x.gP x.gS=y:=⟨_,rfl⟩;have z:=dF af;clear h hB ad a3 af;go_enter func243,ntmps243;go_upto_region 2 with fail;generalize World.alloc _ _=W1 at*;clear ak;have aE:=HB.size;have ah:=lW (P:=pG) (t:=188) (i:=6) (vs:=#[I 0,I 0,I 0,I 0,I 0,I 0,I 0,I 0,I 0,I 0,I 0,I 0,I 0,I 0,I 0,I 0,I 0,J Z 0 0,Value.map none]) v tO sG (by intro u hu;simp at hu;rcases hu with rfl|rfl|rfl<;>rfl) (gQ x).arr sG;have j:=lP W1 P.Nd (gQ x).arr;have e:=dF (v.row (ds:=(gQ x).arr));have f:=dF (HG.same (j.block w.1.size (HG.ne v dG)));have ac:dQ (λg=>g=P.Nd) W1 (W1.setRow P.Nd (gQ x).arr):=⟨j.os,j.tape,j.output,by rw[j.size];exact Nat.le_refl _,λk hk hA=>j.block k hA⟩;have a1:dP (W1.setRow P.Nd (gQ x).arr) P (gQ x) d fs left (eB t) (λg=>C g∨((gQ x):NB).own g) [] lo rs/\dR C (λg=>C g∨((gQ x):NB).own g) W1 (W1.setRow P.Nd (gQ x).arr):=by have al:iP (W1.setRow P.Nd (gQ x).arr) x.oa lo:=HF.oa.node v j;have a8:=dW HF.row (w':=W1.setRow P.Nd (gQ x).arr) (λg W=>j.block g (λhh=>by obtain⟨aC,c⟩:=fC HF.row W;rw[hh,v.blk]at c;simp at c));exact HF.reset (x':=(gQ x)) ac e rfl (λg W=>.inl (by rcases W with c|c|c;cases c;exact .inr (.inl c);exact .inr (.inr c))) (.inl ⟨rfl,rfl⟩) al (λg W=>by cases W) a8
 have L:=dF a1.1;have a0:=dF (a1.2.pre HB);have aF:W1.1.size<=(W1.setRow P.Nd (gQ x).arr).1.size:=by rw[j.size];exact Nat.le_refl _
 clear a1 ac j HF v HG;go_upto_region 3 with(refine rB rfl 188 _ _ rfl _ _ rfl rfl ah ?_);rw[CY];clear ah;generalize World.setRow _ _ _=W2 at*;obtain⟨A,hA,R,B⟩:=L.1;obtain⟨vr,va,h1,h2,h3⟩:=hA.ex;have ae:Hid (eI W2 P.low x.St d vr P.Mp P.D):=h1;have HA:=dF hA;clear hA h1 h2 h3;have b:Bw W2 (W2.alloc (G mz 136)).drew:=(a_ _ _).drew;have o:Bw W2 (W2.alloc (G (mA 6 0 d.ep 0 0 x.gP x.gS 0 0 0 (J Z 0 0)) 136)).drew:=(a_ _ _).drew;have s:Bw W2 W2.drew:=b_.drew;go_cut [4] (λs4 wx=>∃X,s4=P0 (Y ⟨X,0,Z⟩)/\W2.1.size<=X/\dI wx X (mA 6 0 d.ep 0 0 x.gP x.gS 0 0 0 (J Z 0 0)) 136/\Bw W2 wx);case first=>
  refine l9 (S:=(λw'=>dI w' P.Nd (gQ x).arr 192/\dI w' w.1.size #[I x.gE,I x.gP,I x.gS] 66)) (λ_=>?_) (hS:=⟨e.drew,f.drew⟩);refine dH 0 ?_;refine dH 1 ?_;refine dH 2 ?_;refine dH 3 ?_ (hy:=by intro w n;have c:=n.1.cell 3;simp at c;go_simp;(try with_reducible rfl));refine dH 4 ?_;refine dH 5 ?_;refine dH 7 ?_;refine dH 8 ?_ (hy:=by intro w n;have c:=n.2.cell 1;simp at c;go_simp;(try with_reducible rfl));refine dH 9 ?_;refine dH 10 ?_ (hy:=by intro w n;have c:=n.2.cell 2;simp at c;go_simp;(try with_reducible rfl));refine jC [6,12] ?_;refine .cons rfl (λK a=>?_) ?_
  ·(try go_simp);go_at_call 179;refine(mG P.low x.St d vr P.Mp P.D _ (ae.later s) a5 oG).mono ?_;rintro r w1 ⟨rfl,rfl⟩;refine k2 a (λ_=>?_) ⟨e.later s,f.later s⟩;clear a K;refine jC [11,12] ?_;refine .cons rfl (λK a=>?_) ?_;focus
    (try go_simp)
    refine kr a 12 (λK a=>?_) ⟨e.later s,f.later s⟩
   rotate_left;focus
    refine .cons rfl (λK a=>?_) .nil
    (try go_simp)
    refine kr a 11 (λK a=>?_) ⟨e.later b,f.later b⟩
   all_goals
    (try go_simp)
    refine kr a 13 (λK a=>?_) ⟨e.later b,f.later b⟩
    (try go_simp)
    refine kd a ?_ ⟨e.later o,f.later o⟩
    go_wp2_with fail
    go_meet
    exact⟨W2.1.size,rfl,Nat.le_refl _,(dI.new _ _ _).drew,o⟩
  refine .cons rfl (λK a=>?_) .nil;(try go_simp);refine kr a 6 (λK a=>?_) ⟨e.later b,f.later b⟩;(try go_simp);go_at_call 179;refine(mG P.low x.St d vr P.Mp P.D _ (ae.later b) a5 oG).mono ?_;rintro r w1 ⟨rfl,rfl⟩;refine kr a 11 (λK a=>?_) ⟨e.later b,f.later b⟩;(try go_simp);refine kr a 13 (λK a=>?_) ⟨e.later b,f.later b⟩;(try go_simp);refine kd a ?_ ⟨e.later o,f.later o⟩;go_wp2_with fail;go_meet;exact⟨W2.1.size,rfl,Nat.le_refl _,(dI.new _ _ _).drew,o⟩
 case rest=>
  clear b s o;obtain⟨X,rfl,hX,a7,a2⟩:=hcut;obtain⟨W3,an⟩:∃y,y=wc:=⟨_,rfl⟩;subst an;have HX:=dF a7;have m:=dF a2;have ax:=a2.size;clear a7 a2;have ap:¬A X:=HA.fresh hX;have aq:=HX.cell;go_wp2_with fail;refine(AN hSO hBW hBS P (gQ x) d fs left t A 0 d.ep 0 0 x.gP x.gS 0 0 0 none [] 0 W3 (HA.later m) aj ht (.inl rfl) (λ_ c=>by cases c) a6 ao).mono ?_;rintro r E ⟨ok,ag,p⟩;dsimp only at ag;subst ag;clear aq;rw[z.out]at p;rw[z.out];have aa:=dF (p.blk HX ap);cases fo
  ·have V:gI E P (gQ x) d fs left (eB t) A/\dR A A W3 E:=by rcases p with⟨_,_,c,h8⟩|⟨c,_⟩;exact⟨c,h8⟩;cases c
   clear p;obtain⟨g1,g2⟩:=(L.later m).turn (x':=(gQ x)) R B V.1 V.2 rfl rfl rfl;have q:=dF g1;have M:=dF ((a0.later m).trans g2);clear g1 g2 V;simp only[Bool.false_and];go_wp2;go_ret;exact .no _ z rfl q M
  have H:i2 P (mL (gQ x) d d.ep x.gP ok) d fs left t A (gZ x d) ok W3 E:=by rcases p with⟨c,_⟩|⟨_,c⟩;cases c;exact c
  clear p;simp only[Bool.true_and];cases ok;·have q:Hid (eQ P (((gQ x):NB).after false) d fs left t C [] [] rs (gZ x d) false w E):=((L.later m).jk (x':=((gQ x):NB).after false) R B H rfl rfl rfl).chain (a0.later m);clear H;go_wp2;go_ret;exact .fail z rfl q
  have q:Hid (eQ P (mL (gQ x) d d.ep x.gP true) d fs left t C [] [] rs (gZ x d) true w E):=((L.later m).jk (x':=mL (gQ x) d d.ep x.gP true) R B H rfl rfl rfl).chain (a0.later m);clear H;have a4:=dF q.at;go_upto_region 6 with fail;refine eZ (S:=(λw'=>dI w' X (mA 6 0 d.ep 0 0 x.gP x.gS 0 0 0 (J Z 0 0)) 136)) (λ_=>?_) (hS:=aa.drew);refine dH 0 ?_;refine dH 1 ?_;refine i4 3 X 0 [I 6,I 0,I d.ep,I 0,I 0,I x.gP,I x.gS,I 0,I 0,I 0,J Z 0 0] ?_ (λw n=>n.range rfl);refine dT 2 λK a=>?_;(try go_simp);go_at_call 178;have y0:=a4.drew.cell 0;have y1:=a4.drew.cell 1;simp[mL,NB.stand]at y0 y1;refine(uL P.Nd x.id x.2 E.drew y0 y1 N a9).mono ?_;rintro r w5 ⟨rfl,nq,rfl⟩;have F:Bw E (E.drew.drewN nq):=b_.drew.trans (below_drewN b_ _);have M:=dF (aa.later F);have U:=dF (a4.later F);have Q:=dF (q.later F);have au:=dF Q.tabs;clear F;generalize World.drewN _ _=W5 at*;refine k1 a (λ_=>?_) M;clear a K y0 y1;refine dT 4 λK a=>?_;(try go_simp);go_at_call 140;have y0:=U.cell 0;have y1:=U.cell 1;simp[mL,NB.stand]at y0 y1;refine(pE P.Nd x.id x.2 (kH x) 6 0 d.ep 0 0 x.gP x.gS 0 0 0 none [] 0 W5 y0 y1 U.lt au (.inl rfl) ⟨oG,N.2⟩ (uU _ _ N a9) (rZ x.id d.ep x.gP x.gS ab a6 aw av)).mono ?_;rintro r w6 ⟨l,rfl,hl,O⟩;obtain⟨az,aB,aD,rfl⟩:=hl.shape;have ai:=dF (M.later O);have am:=dF (Q.later O);have ar:=dF (hl.mono Q.size);clear hl O;refine kr a 5 (λK a=>?_) ai;(try go_simp);refine kd a ?_ ai;go_wp2;go_ret;exact .ok _ z rfl ar am
def mC.pre{P:Pl}{x:NB}{d:SD}{fs:List FD}{left:Int}{t:Nat}{C:Nat->Prop}{lo:List Ky}{rs:List dO}{r:Ending}{w w1 w':World}(h:mC P x d fs left t C lo rs r w1 w')(e:dR C C w w1):mC P x d fs left t C lo rs r w w':=by
 rcases h with⟨C',c,a,b,f⟩|⟨c,a,b⟩|⟨l,c,a,b,f⟩;·exact .no C' c a b (e.trans f)
 ·exact .fail c a (b.chain e)
 ·exact .ok l c a (b.mono e.kept.size) (f.chain e)
def iU(k f e b q:Int):Ky:=(k,e,max b q,f)
def iV(x:NB)(d:SD)(la:List Ky)(k f e b q ph:Int):List Ky:=bif gT x d e b ph then jB (iU k f e b q) la else la
def kO(x:NB)(d:SD)(la:List Ky)(k f e b q ph:Int):Bool:=(gT x d e b ph&&!decide (iU k f e b q∈la))&&decide (x.2<2*((iV x d la k f e b q ph).length:Int))
def sI(P:Pl)(x:NB)(d:SD)(fs:List FD)(left:Int)(t:Nat)(C:Nat->Prop)(la lo:List Ky)(rs:List dO)(k f e b q:Int)(r:Ending)(w w':World):Prop:=((kO x d la k f e b q 3=false)/\(r=.returned (J Z 0 0))/\(dP w' P x d fs left (eB t) C (iV x d la k f e b q 3) lo rs)/\(dR C C w w'))∨((kO x d la k f e b q 3=true)/\(mC P x d fs left t C lo rs r w w'))
def sI.no{P:Pl}{x:NB}{d:SD}{fs:List FD}{left:Int}{t:Nat}{C:Nat->Prop}{la lo:List Ky}{rs:List dO}{k f e b q:Int}{r:Ending}{w w':World}(h:kO x d la k f e b q 3=false)(c:r=.returned (J Z 0 0))(a:dP w' P x d fs left (eB t) C (iV x d la k f e b q 3) lo rs)(g:dR C C w w'):sI P x d fs left t C la lo rs k f e b q r w w':=.inl ⟨h,c,a,g⟩
def sI.go{P:Pl}{x:NB}{d:SD}{fs:List FD}{left:Int}{t:Nat}{C:Nat->Prop}{la lo:List Ky}{rs:List dO}{k f e b q:Int}{r:Ending}{w w':World}(h:kO x d la k f e b q 3=true)(a:mC P x d fs left t C lo rs r w w'):sI P x d fs left t C la lo rs k f e b q r w w':=.inr (⟨h,a⟩)
def H3(hSO:fB)(hBW:fH)(hBS:fI)(P:Pl)(x:NB)(d:SD)(fs:List FD)(left:Int)(t:Nat)(C:Nat->Prop)(la lo:List Ky)(rs:List dO)(k f e b wa p s q bl v:Int)(a:Option Addr)(F c:Nat)(w:World)(h:dP w P x d fs left (eB t) C la lo rs)(hB:BG t d)(ht:t<=20000000)(Q:x.5=false)(H:2<=x.2/\x.2<=5)(a2:0<=x.id/\x.id<x.2)(a8:0<=x.gP/\x.gP<=5)(a6:0<=x.gS/\x.gS<=31)(aa:la.length<=19999999)(B:Nat)(hm:x.ph=3->x.an=some B):Calls pG 198 #[P0 (Y ⟨P.Nd,0,Z⟩),.agg (mA k f e b wa p s q bl v (J a F c))] w λr w'=>sI P x d fs left t C la lo rs k f e b q r w w':=by
 have o:=(Below.refl w.1.size w).alloc r_ (G (mA k f e b wa p s q bl v (J a F c)) 136);have HM:=dF (dI.new w (mA k f e b wa p s q bl v (J a F c)) 136);have HB:=dF o;have HC:=dF (BA P x d fs left (eB t) t C la lo rs k f e b wa p s q bl v a F c 3 B (w.alloc (G (mA k f e b wa p s q bl v (J a F c)) 136)) (h.later o) hB ht (λg=>hm (by unfold gT at g;rw[Bool.and_eq_true]at g;simpa using g.1)) (.inr rfl));have D:=λw1 (W:List Ky) (h:dP w1 P x d fs left (eB t) C W lo rs)=>H0 hSO hBW hBS P x d fs left t C W lo rs w1 h hB ht Q H a2 a8 a6;replace D:=dF D;have N:=dF hm;have L:Hid (dR C C w (w.alloc (G (mA k f e b wa p s q bl v (J a F c)) 136))):=.of_below o;obtain⟨b1,e1⟩:∃y,(gT x d e b 3&&!decide (iU k f e b q∈la))=y:=⟨_,rfl⟩;obtain⟨b2,e2⟩:∃y,decide (x.2<2*((iV x d la k f e b q 3).length:Int))=y:=⟨_,rfl⟩;have A:Hid (kO x d la k f e b q 3=(b1&&b2)):=by unfold Hid kO;rw[e1,e2]
 have a3:=dF e1;have a5:=dF e2;have a1:(iV x d la k f e b q 3).length<=20000000:=by
  unfold iV jB;cases gT x d e b 3;·simp;omega
  ·simp only[cond_true];split;·omega
   ·simp;omega
 clear h hB Q hm o e1 e2;go_enter func198,ntmps198;go_upto_region 1 with fail;generalize World.alloc _ _=W0 at*;have a4:=HM.cell;go_wp2_with fail;refine HC.mono ?_;rintro r w1 ⟨rfl,a0,V⟩;have i:Hid (dP w1 P x d fs left (eB t) C (iV x d la k f e b q 3) lo rs):=a0;have M:Hid (dR C C w w1):=L.trans V;have j:(gT x d e b 3&&!decide ((k,e,max b q,f)∈la))=b1:=a3.out;rw[j];clear a0 V HC L a4;cases b1;·clear j;go_wp2;go_ret;exact .no (by rw[A.out];rfl) rfl i M
 have R:x.ph=3:=by rw[Bool.and_eq_true]at j;have g:=j.1;unfold gT at g;rw[Bool.and_eq_true]at g;simpa using g.1
 have u:=N.out R;have S:gH w1 B (iV x d la k f e b q 3):=by
  rcases i.an with⟨g,_⟩|⟨B2,g,h8⟩;·rw[u]at g;cases g
  ·rw[u]at g;cases g;exact h8
 have y1:=i.blk.cell 1;have m:=i.blk.cell 24;simp at y1 m;rw[u]at m;have U:=dF (yN P.Nd B x.2 _ w1 y1 m S H a1);clear j R u S y1 m N;go_wp2_with fail;refine U.mono ?_;rintro r w2 ⟨rfl,nq,rfl⟩;have E:Bw w1 (w1.drewN nq):=below_drewN b_ _;have X:=dF (i.later E);have O:=dF (M.later E);clear E U;generalize World.drewN _ _=W2 at*;rw[a5.out];cases b2;·go_wp2;go_ret;exact .no (by rw[A.out];rfl) rfl X O
 go_wp2_with fail;refine(D.out W2 _ X).mono ?_;rintro r w3 z;have HQ:=dF z;have a7:∃l,r=.returned l/\∃a n c,l=J a n c:=by
  rcases z with⟨C',h1,K,h3,h4⟩|⟨h1,K,h3⟩|⟨l,h1,K,h3,h4⟩;·exact⟨_,K,_,_,_,rfl⟩
  ·exact⟨_,K,_,_,_,rfl⟩
  ·obtain⟨a9,n9,c9,g⟩:=h3.shape;exact⟨l,K,a9,n9,c9,g⟩
 obtain⟨l,rfl,a9,n9,c9,rfl⟩:=a7;clear z;go_wp2;go_ret;exact .go (by rw[A.out];rfl) (HQ.pre O)
end Go.Proofs.YtdcainmlcpafbaaGreatDoor
