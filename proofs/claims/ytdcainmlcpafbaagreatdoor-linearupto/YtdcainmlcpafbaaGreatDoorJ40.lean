import Derived.Test.YtdcainmlcpafbaaGreatDoorJ39
set_option linter.all false
set_option maxHeartbeats 8000000
set_option maxRecDepth 20000
namespace Go.Proofs.YtdcainmlcpafbaaGreatDoor
open Go.RowKit
open Value renaming slice->J,pointer->P0
open Tryz
open Tryz renaming prog->pG
open IntKind renaming i64->T
open Option renaming none->Z,some->Y
open Obj renaming cells->G
open Value (bool)
def CQ(w:World)(Wc base t:Nat)(s:CS):Prop:=∃hs,CA w Wc base t true hs s/\Qt hs/\hs.length=s.ns.length
def RK:Ok A0 2 1:=D9 ⟨Nat.le_refl 2,dG⟩
section
def tK(hLO:jN)(hUO:jL)(hSO:fA)(hBW:fC)(hBS:fD)(K:Int)(b:Nat)(k:b<4)(o:eZ K%10=(b:Int))(u:0<=K/\K<=3)(Wc base t N:Nat)(s:CS)(w:World)(h:CQ w Wc base t s)(d:Ok s 2 N)(i:t+2<=1000000)(j:N+100<=50000000):Calls pG 24 #[P0 (Y ⟨Wc,0,Z⟩),.agg #[I K,I 1,I 0]] w λq w'=>q=.returned (.tuple #[])/\CQ w' Wc base (t+1) (s.oq 1 2 0 b)/\Ok (s.oq 1 2 0 b) 2 (N+40)/\Below base w w':=by obtain⟨hs,r,m,f⟩:=h;have a:hs.length=2:=f.trans d.gs.nn.2;rw[←a]at d;refine(DM hLO hUO hSO hBW hBS Wc base t hs s N 1 b K 1 0 w r d oG (by rw[a];decide) oG o dG dG oG i j).mono ?_;rintro q w' ⟨rfl,hs',s',v,c,g,n,p⟩;obtain⟨l,rfl⟩:=p m k;rw[a]at c g;have e:=c;obtain⟨_,e⟩:=e;exact⟨rfl,⟨hs',c,l,e.hl⟩,g,n⟩
def yK(hLO:jN)(hUO:jL)(hSO:fA)(hBW:fC)(hBS:fD)(Wc base t N:Nat)(s:CS)(w:World)(h:CQ w Wc base t s)(c:Ok s 2 N)(e:t+9002<=1000000)(m:N+117000<=40000000)(a:qP 2 9 s=true):Calls pG 25 #[P0 (Y ⟨Wc,0,Z⟩),I 9] w λq w'=>q=.returned (.tuple #[])/\(∃t',t'<=t+9000/\CQ w' Wc base t' (CS.ji 9 s))/\Ok (CS.ji 9 s) 2 (N+117000)/\Below base w w':=by obtain⟨hs,n,f,k⟩:=h;obtain⟨j,b⟩:=EA 9 s N c a m;refine(O8 hLO hUO hSO hBW hBS Wc base t hs s 9 w n f j dG e).mono ?_;rintro q w' ⟨rfl,hs',t',a1,g,l,d,i⟩;refine⟨rfl,⟨t',i,hs',g,d,?_⟩,b,l⟩;have o:=c.gs.nn.2;have p:=b.gs.nn.2;omega
end
def M3(hLO:jN)(hUO:jL)(hSO:fA)(hBW:fC)(hBS:fD)(w:World)(hT:dW w):Calls pG 46 #[] w λq w'=>q=.returned (bool true)/\Below w.heap.size w w':=by
 go_enter func46,ntmps46;go_wp2_with fail;refine(DN 0 0 2 1 w hT dG dG dG dG).mono ?_;rintro q w1 ⟨Wc,hs,rfl,b,hq,hl,am⟩;have z:Hid (CQ w1 Wc w.heap.size 1 A0):=⟨hs,b,hq,hl⟩;have L:=dA am;clear b hq hl am;go_wp2_with fail;refine(tK hLO hUO hSO hBW hBS 0 0 dG dG dG Wc w.heap.size 1 1 A0 w1 z RK dG dG).mono ?_;rintro q w2 ⟨rfl,X,H,ah⟩;have N:Hid (CQ w2 Wc w.heap.size 2 A1):=X;have M:Hid (Ok A1 2 41):=H;have af:=dA (L.trans ah);clear X H ah z L;go_wp2_with fail;refine(yK hLO hUO hSO hBW hBS Wc w.heap.size 2 41 A1 w2 N M dG dG RH).mono ?_;rintro q w3 ⟨rfl,⟨h,ay,aq⟩,an,ao⟩;have ad:Hid (CQ w3 Wc w.heap.size h A2):=aq;have a4:Hid (Ok A2 2 117041):=an;have y:=dA (af.trans ao);clear aq an ao N af M;go_wp2_with fail;refine(tK hLO hUO hSO hBW hBS 2 2 dG dG dG Wc w.heap.size h 117041 A2 w3 ad a4 oG dG).mono ?_;rintro q w4 ⟨rfl,U,a2,al⟩;have u:Hid (CQ w4 Wc w.heap.size (h+1) A3):=U;have a8:Hid (Ok A3 2 117081):=a2;have Q:=dA (y.trans al);clear U a2 al ad y a4;go_wp2_with fail;refine(tK hLO hUO hSO hBW hBS 3 3 dG dG dG Wc w.heap.size (h+1) 117081 A3 w4 u a8 oG dG).mono ?_;rintro q s ⟨rfl,W,a5,aa⟩;have j:Hid (CQ s Wc w.heap.size (h+2) A4):=W;have ak:Hid (Ok A4 2 117121):=a5;have a3:=dA (Q.trans aa);clear W a5 aa u Q a8;have c:∃f a i e,s.cell? ⟨Wc,11,Z⟩=Y (Value.bool true)/\s.cell? ⟨Wc,7,Z⟩=Y (J (Y ⟨f,0,Z⟩) 2 a)/\s.cell? ⟨f,7,Z⟩=Y (I 1)/\s.cell? ⟨Wc,9,Z⟩=Y (J (Y ⟨i,0,Z⟩) 2 e):=by
  obtain⟨hs,⟨v,b⟩,_,_⟩:=j.out;have l1:=congrArg List.length nM.1;simp at l1;obtain⟨C,a,_,g,_,f7⟩:=b.ones (k:=7) dG (show 0<A4.rs.length by omega);obtain⟨g9,e,_,d9,_,_⟩:=b.ones (k:=9) dG (show 0<A4.hi.length by rw[nM.2.1];decide);rw[show rN hs A4 7=2 from l1]at g;rw[show rN hs A4 9=2 from nM.2.1]at d9;refine⟨C,a,g9,e,by have d:=b.blk.cell 11;simpa using d,g,?_,d9⟩;have o:1<A4.rs.length:=oG;have R:A4.rs[1].v=1:=by have d:=congrArg (λl:List Int=>l[1]?) nM.1;simp at d;rw[List.getElem?_eq_getElem o]at d;simpa using d
  refine f7 7 (I 1) ?_;show(A4.rs.flatMap dJ.cells)[1*5+2]?=_;rw[kE dJ.cells 5 E2 A4.rs 1 o 2 dG];show Y (I A4.rs[1].v)=_;rw[R]
 obtain⟨f,a,i,e,d1,d2,d3,d4⟩:=c;go_wp2_with fail;clear d1 d2 d3 d4;refine(tK hLO hUO hSO hBW hBS 1 1 dG dG dG Wc w.heap.size (h+2) 117121 A4 s j ak oG dG).mono ?_;rintro q w6 ⟨rfl,ai,B,A⟩;have ae:Hid (CQ w6 Wc w.heap.size (h+3) A5):=ai;have V:Hid (Ok A5 2 117161):=B;have a0:=dA (a3.trans A);clear ai B A j a3 ak;go_wp2_with fail;refine(yK hLO hUO hSO hBW hBS Wc w.heap.size (h+3) 117161 A5 w6 ae V oG dG RI).mono ?_;rintro q w7 ⟨rfl,⟨t7,az,ap⟩,t,aj⟩;have ac:Hid (CQ w7 Wc w.heap.size t7 A6):=ap;have D:Hid (Ok A6 2 234161):=t;have F:=dA (a0.trans aj);clear ap t aj ae a0 V;go_wp2_with fail;refine(tK hLO hUO hSO hBW hBS 2 2 dG dG dG Wc w.heap.size t7 234161 A6 w7 ac D oG dG).mono ?_;rintro q w8 ⟨rfl,a1,ab,O⟩;have n:Hid (CQ w8 Wc w.heap.size (t7+1) A7):=a1;have ag:Hid (Ok A7 2 234201):=ab;have x:=dA (F.trans O);clear a1 ab O ac F D;have c:∃f a,w8.cell? ⟨Wc,7,Z⟩=Y (J (Y ⟨f,0,Z⟩) 2 a):=by obtain⟨hs,⟨v,b⟩,_,_⟩:=n.out;obtain⟨C,a,_,g,_,f7⟩:=b.ones (k:=7) dG (show 0<A7.rs.length by rw[nM.2.2.1];decide);rw[show rN hs A7 7=2 from nM.2.2.1]at g;exact⟨C,a,g⟩
 obtain⟨b7,e7,d1⟩:=c;go_wp2_with fail;clear d1;refine(yK hLO hUO hSO hBW hBS Wc w.heap.size (t7+1) 234201 A7 w8 n ag oG dG RJ).mono ?_;rintro q p ⟨rfl,⟨t9,aA,K⟩,ar,a6⟩;have ax:Hid (CQ p Wc w.heap.size t9 A8):=K;have aw:=dA (x.trans a6);clear K ar a6 n x ag;have c:∃f a i e,p.cell? ⟨Wc,11,Z⟩=Y (Value.bool true)/\p.cell? ⟨Wc,7,Z⟩=Y (J (Y ⟨f,0,Z⟩) 3 a)/\p.cell? ⟨Wc,9,Z⟩=Y (J (Y ⟨i,0,Z⟩) 3 e)/\p.cell? ⟨i,6,Z⟩=Y (I 2)/\p.cell? ⟨i,7,Z⟩=Y (I 2)/\p.cell? ⟨i,8,Z⟩=Y (I 3):=by
  obtain⟨hs,⟨v,b⟩,_,_⟩:=ax.out;have l2:=congrArg List.length nM.2.2.2.2;simp at l2;obtain⟨C,a,_,g,_,_⟩:=b.ones (k:=7) dG (show 0<A8.rs.length by rw[nM.2.2.2.1];decide);obtain⟨g9,e,_,d9,_,f9⟩:=b.ones (k:=9) dG (show 0<A8.hi.length by omega);rw[show rN hs A8 7=3 from nM.2.2.2.1]at g;rw[show rN hs A8 9=3 from l2]at d9;have o:2<A8.hi.length:=oG;have R:(A8.hi[2].E,A8.hi[2].P,A8.hi[2].S)=(2,2,3):=by have d:=congrArg (λl:List (Int×Int×Int)=>l[2]?) nM.2.2.2.2;simp at d;obtain⟨r,m,au⟩:=d;rw[List.getElem?_eq_getElem o]at m;simp at m;rw[m];simp[au]
  have q0:=congrArg (·.1) R;have q1:=congrArg (·.2.1) R;have q2:=congrArg (·.2.2) R;simp only at q0 q1 q2;refine⟨C,a,g9,e,by have d:=b.blk.cell 11;simpa using d,g,d9,f9 6 _ ?_,f9 7 _ ?_,f9 8 _ ?_⟩;·show(A8.hi.flatMap eH.cells)[2*3+0]?=_;rw[kE eH.cells 3 (λ_=>rfl) A8.hi 2 o 0 dG];show Y (I A8.hi[2].E)=_;rw[q0]
  ·show(A8.hi.flatMap eH.cells)[2*3+1]?=_;rw[kE eH.cells 3 (λ_=>rfl) A8.hi 2 o 1 dG];show Y (I A8.hi[2].P)=_;rw[q1]
  ·show(A8.hi.flatMap eH.cells)[2*3+2]?=_;rw[kE eH.cells 3 (λ_=>rfl) A8.hi 2 o 2 dG];show Y (I A8.hi[2].S)=_;rw[q2]
 obtain⟨f,a,i,e,d1,d2,d3,d4,d5,d6⟩:=c;have av:=EK 2 2 3 2 2 3;simp at av;go_wp2_with fail;refine bodyPost_ret (v:=.bool true) (by simp[results,results46,go_sem]) rfl ?_;exact⟨rfl,aw⟩
structure mG where
 K:Int
 A:Int
 B:Int
def mG.cells(m:mG):List Value:=[I m.K,I m.A,I m.B]
def mG.ok(m:mG):Prop:=(i_ m.K)/\(i_ m.A)/\(i_ m.B)
def tD(w:World)(ao:Option Addr)(ms:List mG):Prop:=ms=[]∨∃g off,ao=some ⟨g,off,none⟩/\g<w.heap.size/\∀j (h:j<ms.length) i,i<3->w.cell? ⟨g,off+j*3+i,none⟩=some (ms[j].cells.getD i undef)
def OR{w:World}{b:Option Addr}{ms:List mG}(h:tD w b ms){k:Nat}(a:k<ms.length):∃g off,b=some ⟨g,off,none⟩/\∀{w':World},Below w.heap.size w w'->w'.rangeAt g (off+k*3) [I ms[k].K,I ms[k].A,I ms[k].B]:=by
 rcases h with rfl|⟨g,off,e,d,f⟩;·simp at a
 ·refine⟨g,off,e,λ{w'} hb j u hu=>?_⟩;have c:j<3:=by have:=(List.getElem?_eq_some_iff.1 hu).1;simpa using this
  rw[hb.cell (p:=⟨g,off+k*3+j,none⟩) d,f k a j c];show some ([I ms[k].K,I ms[k].A,I ms[k].B].getD j undef)=_;rw[List.getD_eq_getElem?_getD,hu];rfl
def PB(n:Nat)(M:Nat)(w:World)(q:Ending)(w':World):Prop:=∃Wc base t hs s,q=.returned (P0 (Y ⟨Wc,0,Z⟩))/\CA w' Wc base t true hs s/\Ok s n (1+40*M)/\t<=M+1/\w.heap.size<=base/\Below w.heap.size w w'
def LS(hLO:jN)(hUO:jL)(hSO:fA)(hBW:fC)(hBS:fD)(a b:Int)(n:Nat)(nb:Int)(am:Option Addr)(cm:Nat)(ms:List mG)(w:World)(hT:dW w)(ha:i_ a)(hb:i_ b)(hn:eZ a%4=(n:Int)-2)(U:eZ b%4=nb-1)(aj:ms.length<=300000)(C:∀m∈ms,m.ok)(H:tD w am ms):Calls pG 18 #[.agg #[I a,I b],J am ms.length cm] w λq w'=>PB n ms.length w q w':=by
 have a0:2<=n/\n<=5:=by have h1:=Int.emod_nonneg (eZ a) (show(4:Int)≠0 by decide);have h2:=Int.emod_lt_of_pos (eZ a) (show(0:Int)<4 by decide);omega
 have HA:=dA ha;have HB:=dA hb;have HN:=dA hn;have a3:=dA U;have W:=dA hT;have a7:=dA H;have a1:=dA C;have Q:=a_ w (G #[I a,I b] 47);have f:=dA (dC.new w #[I a,I b] 47);have r:=dA Q;clear Q ha hb hn U H C;go_enter func18,ntmps18;go_upto_region 1 with fail;generalize u:w.heap.size=X at*;generalize World.alloc _ _=W1 at*;have aa:dW W1:=W.below r (by rw[←u];exact W.two);have a9:X<=W1.heap.size:=by have:=f.lt;omega
 go_wp2_with fail;refine(M3 hLO hUO hSO hBW hBS W1 aa).mono ?_;rintro q w2 ⟨rfl,o⟩;have d:=dA (f.later o);have R:Hid (Below X w w2):=r.trans (o.mono a9);have a2:dW w2:=W.below R (by rw[←u];exact W.two);have c:X<=w2.heap.size:=by have:=d.lt;omega
 have x0:=d.cell 0;have x1:=d.cell 1;simp at x0 x1;clear o;go_wp2_with fail;refine(DN a b n nb w2 a2 HA HB HN a3).mono ?_;rintro q w3 ⟨Wc,hs,rfl,E,_,hl,V⟩;have O:=dA E;have x:Hid (Below X w w3):=R.trans (V.mono c);generalize hZ:w2.heap.size=base at*;clear E V x0 x1 d f;go_upto_region 6 with fail;go_loopw [7] (λs7 wr=>∃k:Nat,k<=ms.length/\s7=I (k:Int)/\∃hs s,CA wr Wc base (k+1) true hs s/\Ok s n (1+40*k)/\Below X w wr) (λs7 wr=>ms.length - (intOf s7).toNat);case atStart=>exact⟨0,oG,rfl,hs,_,O,D9 a0,x⟩
 case round=>
 clear O x hl;obtain⟨k,ah,rfl,hs,s,E,hg,z⟩:=hrel;have HC:=dA E;have HG:=dA hg;have l:=dA z;clear E hg z;by_cases L:k<ms.length
 ·have ag:decide ((k:Int)<(ms.length:Int))=true:=by simp;omega
  obtain⟨g,off,a8,N⟩:=OR a7 L;have p:=N (by rw[u];exact l);subst a8;have e:=a1.out _ (List.getElem_mem L);obtain⟨K,hK⟩:∃y,ms[k].K=y:=⟨_,rfl⟩;obtain⟨A,hA⟩:∃y,ms[k].A=y:=⟨_,rfl⟩;obtain⟨B,hB⟩:∃y,ms[k].B=y:=⟨_,rfl⟩;unfold mG.ok at e;rw[hK,hA,hB]at e p;have HM:=dA e;have a6:=dA p;clear e N hK hA hB p;have ad:(0:Int)<=(k:Int)/\(k:Int)<(ms.length:Int):=oG;go_wp2_with(refine wpList_load_mid rfl 70 _ rfl g (off+k*3) eG [I K,I A,I B] _ a6 underlying70 rfl kG ?_);have M:hs.length=n:=by obtain⟨_,h9⟩:=HC.out;exact h9.hl.trans HG.gs.nn.2
  obtain⟨i,D,ab⟩:=pk A hs.length oG;obtain⟨kk,t,F⟩:=pk K 10 dG;refine(DM hLO hUO hSO hBW hBS Wc base (k+1) hs s (1+40*k) i kk K A B wr HC (by rw[M];exact HG) ab D F t HM.2.1 HM.2.2 HM.1 oG oG).mono ?_;rintro q w4 ⟨rfl,hs',s',af,j,h,S,_⟩;rw[M]at h;clear D t;have ae:w4.cell? ⟨Wc,11,Z⟩=Y (Value.bool true):=by obtain⟨v,h9⟩:=j;have h8:=h9.blk.cell 11;simpa using h8
  have a5:=dA j;have ac:=dA h;have a4:Hid (Below X w w4):=l.trans (S.mono c);clear j h S;go_wp2_with fail;go_roundw;case rel=>exact⟨k+1,oG,rfl,hs',s',a5,ac.up oG,a4⟩
  case measure=>simp[intOf];omega
 obtain rfl:k=ms.length:=oG;have ai:decide ((ms.length:Int)<(ms.length:Int))=false:=sG;go_wp2_with fail;refine bodyPost_ret (v:=P0 (Y ⟨Wc,0,Z⟩)) (by simp[results,results18,go_sem]) rfl ?_;exact⟨Wc,base,ms.length+1,hs,s,rfl,HC,HG,Nat.le_refl _,by rw[u];exact c,by rw[u];exact l⟩
end Go.Proofs.YtdcainmlcpafbaaGreatDoor
