import Derived.Test.YtdcainmlcpafbaaGreatDoorJ40
set_option linter.all false
set_option maxHeartbeats 8000000
set_option maxRecDepth 20000
namespace Go.Proofs.YtdcainmlcpafbaaGreatDoor
open Go.RowKit
open Value renaming slice->J,pointer->P0
open Tryz
open Tryz renaming prog->pG
open IntKind renaming i64->T
open Option renaming none->Z,some->Y
open Obj renaming cells->G
open Value (bool)
structure Rn(s0 s:CS)(n N k:Nat):Prop where
 ok:Ok s n N
 nt:s.4=[]
 an:∀j,j<k->tV (s.nd j)
 nb:s.nb=s0.nb
 hi:s.hi.length<=s0.hi.length+k
def wB(hs:List Ho)(k:Nat):Prop:=∀j (hj:j<hs.length),j<k->hs[j].left = -1
def wB.set{hs:List Ho}{k:Nat}{a:Ho}(h:wB hs k)(c:a.left = -1):wB (hs.set k a) (k+1):=by
 intro j d b;by_cases e:k=j;·subst e;rw[List.getElem_set_self];exact c
 ·rw[List.getElem_set_ne e];exact h j (by simpa using d) oG
def Rn.next{s0 s:CS}{n N k:Nat}(h:Rn s0 s n N k)(a:k<n)(b:k<s.3.length){n':AG.Nd}(c:Cr (s.nd k) n')(g:N+12<=2000000000):pX (s.run k n') k/\Rn s0 ((s.run k n').look k) n (N+13) (k+1):=by
 have lk:=(h.ok.gs.run a b c).lk a g;obtain⟨a1,d,f⟩:=h.ok.anew a b c h.nt h.an;refine⟨lk,a1,d,f,?_,?_⟩;·show((s.run k n').tell k).nb=_;rw[(tL _ _).1];exact h.nb
 ·have i:=qH lk;have e:(s.run k n').hi.length=s.hi.length:=rfl;have:=h.hi;omega
def DG{s:CS}{n:Nat}(h:s.4=[]):s.ask n 0=s:=by unfold CS.ask oQ;simp only[List.range_zero,List.map_nil,List.flatMap_nil];cases s;dsimp only at h;subst h;rfl
def RD(Wc base t N:Nat)(hs:List Ho)(s:CS)(w w':World):Prop:=∃hs' s' t' N',hs'.length=hs.length/\CA w' Wc base t' true hs' s'/\Qt hs'/\iZ s' hs.length N' ((s'.hi.length:Int)-1)/\AG.Az (hs.length:Int) s'.xf/\s'.nb=s.nb/\s'.hi.length<=s.hi.length+5/\t'<=t+5+45*(s.hi.length+6)/\N'<=N+65+585*(s.hi.length+6)/\Below base w w'
def GJ(Wc base t N H:Nat)(hs:List Ho)(s:CS)(w:World)(m:Nat)(wr:World):Prop:=∃hs2 s2 t2 N2,hs2.length=hs.length/\CA wr Wc base t2 true hs2 s2/\Qt hs2/\(Cal s2 hs.length N2/\AG.Az (hs.length:Int) s2.xf/\s2.nb=s.nb/\s2.hi.length=H/\∀k:Int,0<=k->k<(hs.length:Int)->(s2.xf k).d.ep=(H:Int)-1∨((H+1-m:Nat):Int)<=(s2.xf k).d.ep)/\t2+45*m<=t+hs.length+45*(H+1)/\N2+585*m<=N+13*hs.length+585*(H+1)/\Below base w wr
def GK(Wc base t2 N2:Nat)(hs:List Ho)(s2:CS)(w:World)(k:Nat)(w2:World):Prop:=∃hs3,hs3.length=hs.length/\CA w2 Wc base (t2+k) true hs3 (s2.ask hs.length k)/\Qt hs3/\Ok (s2.ask hs.length k) hs.length (N2+12*k)/\Below base w w2
def QM(hLO:i8)(hUO:i6)(hSO:fB)(hBW:fH)(hBS:fI)(Wc base t N:Nat)(hs:List Ho)(s:CS)(w:World)(h:CA w Wc base t true hs s)(hg:Ok s hs.length N)(ht:t+5+45*(s.hi.length+6)+100<=20000000)(hN:N+65+585*(s.hi.length+6)+1000<=500000000):Calls pG 21 #[P0 (Y ⟨Wc,0,Z⟩)] w λq w'=>q=.returned (.tuple #[])/\RD Wc base t N hs s w w':=by
 obtain⟨v,h⟩:=h;have hn:=hg.gs.nn;have c5:=h.cell (k:=5) dG;have f5:=h.blk.free 5;obtain⟨d,aP⟩:=FV (n:=s.4.length) (x:=J Z 0 0) h b_ (by rw[List.drop_length];exact World.ownsRow_nil _ _ _ _);have M:=dF d;have aG:=dF aP;have af:Hid (Rn s {s with net:=s.4.drop s.4.length} hs.length N 0):=⟨hg.sub (λz hz=>List.mem_of_mem_drop hz) (by rw[List.length_drop];omega),List.drop_length,λj hj=>oG,rfl,Nat.le_refl _⟩;clear d aP h;go_enter func21,ntmps21;go_upto_region 2 with fail;generalize w.setCell ⟨Wc,5,Z⟩ (J Z 0 0)=W1 at*;clear c5 f5 hg;go_loopw [2] (λs2 wr=>∃k:Nat,k<=hs.length/\s2=I (k:Int)/\∃g s1,g.length=hs.length/\CA wr Wc base (t+k) true g s1/\Rn s s1 hs.length (N+13*k) k/\wB g k/\Below base w wr) (λs2 wr=>hs.length - (intOf s2).toNat);case atStart=>exact⟨0,oG,rfl,hs,_,rfl,⟨_,M⟩,af,λj hj A=>oG,aG⟩
 case round=>
 clear M aG af;obtain⟨k,aR,rfl,g,s1,a4,⟨v1,d⟩,e,ab,p⟩:=hrel;obtain⟨a0,aS,o⟩:=eK (d.row 0 dG);have X:=d.cell (k:=0) dG;rw[o,show rN g s1 0=g.length from rfl,a4]at X;have F:s1.ns.length=hs.length:=e.ok.gs.nn.2;have bb:=d.ll;by_cases V:k<hs.length
 ·have aY:decide ((k:Int)<(hs.length:Int))=true:=nG;have ap:=dF (E6 Wc base (t+k) g s1 k 0 wr ⟨v1,d⟩ oG oG (λA=>by have:=e.ok.3 k A;omega));have af:=dF e;have a3:=dF ab;have ad:=dF p;have be:k<s1.3.length:=oG;clear e ab p d o;go_wp2_with fail;refine ap.mono ?_;rintro q w3 ⟨rfl,n',a1,R,bg,c,C,h0,rfl,b4⟩;obtain⟨lk,rn⟩:=af.next V be bg oG;have b7:=dF (yB hLO hUO Wc base (t+k+1) (g.set k h0) (s1.run k n') k w3 c (by show k<(s1.ns.set k n').length;rw[List.length_set];omega) oG lk);have bf:=dF rn;have Q:=dF C;clear X c C lk rn ap;go_wp2_with fail;refine b7.mono ?_;rintro q w4 ⟨rfl,b5,bh⟩;go_wp2_with fail;go_roundw;case rel=>exact⟨k+1,oG,rfl,_,_,by rw[List.length_set];exact a4,b5,bf,a3.set b4,ad.trans (Q.trans bh)⟩
  case measure=>simp[intOf];omega
 obtain rfl:k=hs.length:=oG;have aM:decide ((hs.length:Int)<(hs.length:Int))=false:=sG;obtain⟨a9,bj,aD⟩:=eK (d.row 9 dG);have c9:=d.cell (k:=9) dG;rw[aD,show rN g s1 9=s1.hi.length from rfl]at c9;have D:Qt g:=λx hx=>by obtain⟨j,hj,rfl⟩:=List.getElem_of_mem hx;exact ab j hj oG
 obtain⟨a,E⟩:=e.ok.jc e.nt e.an;have aw:=e.hi;have aB:=e.nb;obtain⟨H,hH⟩:∃y,s1.hi.length=y:=⟨_,rfl⟩;rw[hH]at c9 aw;have ar:=(eX.bd e.ok.gs).2.2.2.1;have az:=dF a4;have M:=dF d;have a3:=dF D;have ad:=dF p;have b:=dF a;have ae:=dF E;clear d ab D p a E e aD o;go_upto_region 7 with fail;have bk:1<=H:=by have A:=b.ok.top.2;obtain⟨j,_,A⟩:=A;have:=(b.ok.top.1 j oG oG).1;omega
 clear X c9 aM;have aF:=dF hH;have a8:=dF aB;have bq:=hn.1;have bn:H<=s.hi.length+5:=oG;have bm:hs.length<=5:=oG;clear hH aB F bb a4 aw ar hn;go_loopw [3] (λs3 wr=>∃m:Nat,m<=H+1/\s3=I (m:Int)/\GJ Wc base t N H hs s w m wr) (λs3 wr=>(intOf s3).toNat);case atStart=>exact⟨H+1,oG,by go_num,g,s1,_,_,az,⟨_,M⟩,a3,⟨b,ae,a8,aF,λk k0 k1=>.inr (by have A:=(b.ok.top.1 k k0 k1).1;omega)⟩,Nat.le_refl _,Nat.le_refl _,ad⟩
 case round=>
 clear M a3 b ae ad aF a8 az;obtain⟨m,bo,rfl,hR⟩:=hrel;have HR:=dF hR;clear hR;by_cases b2:m=0;case pos=>subst b2;go_wp2;refine bodyPost_end (v:=.tuple #[]) (by simp[results,results21,go_sem]) rfl ?_;obtain⟨a1,s2,t2,N2,R,a6,D,⟨a,E,K,a7,aa⟩,aV,aX,p⟩:=HR.out;have A:=a.all (r:=H+1) oG (λk k0 k1=>by rw[a7];exact aa k k0 k1);exact⟨rfl,a1,s2,t2,N2,R,a6,D,A,E,K,oG,oG,oG,p⟩
 have b9:decide ((0:Int)<(m:Int))=true:=by rw[decide_eq_true_eq];omega
 have aU:decide (0<m)=true:=by rw[decide_eq_true_eq];omega
 go_upto_region 10 with fail;clear b9 aU;obtain⟨a1,s2,t2,N2,R,a6,D,⟨a,E,K,a7,aa⟩,aV,aX,p⟩:=HR.out;have aH:Hid (GK Wc base t2 N2 hs s2 w 0 wr):=⟨a1,R,by rw[DG a.nt];exact a6,D,by rw[DG a.nt];exact a.ok,p⟩;have b:=dF a;have ae:=dF E;have a8:=dF K;have ak:=dF a7;have aT:=dF aa;clear a6 D p R HR a E K a7 aa;obtain⟨W5,ba⟩:∃y,y=wr:=⟨_,rfl⟩;subst ba;go_loopw [4] (λs4 w2=>∃k:Nat,k<=hs.length/\s4=I (k:Int)/\GK Wc base t2 N2 hs s2 w k w2) (λs4 w2=>hs.length - (intOf s4).toNat);case atStart=>exact⟨0,oG,rfl,aH⟩
 case round=>
 clear aH;obtain⟨k,aR,rfl,u,i,⟨v3,c⟩,a5,B,C⟩:=hrel;obtain⟨O,a2⟩:∃y,y=s2.ask hs.length k:=⟨_,rfl⟩;rw[←a2]at c B;have F:O.ns.length=hs.length:=B.gs.nn.2;have ar:=(eX.bd B.gs).2.2.2.2;have aJ:=dF F;have aI:=dF i;obtain⟨a0,aS,o⟩:=eK (c.row 0 dG);have X:=c.cell (k:=0) dG;rw[o,show rN u O 0=u.length from rfl,i]at X;by_cases V:k<hs.length
 ·clear X o;have aY:decide ((k:Int)<(hs.length:Int))=true:=nG;have ai:k<u.length:=oG;have ao:k<O.ns.length:=oG;obtain⟨g0,bi,o,X,bl,aC⟩:=c.ones (k:=0) dG (show 0<u.length by omega);have x0:=aC k _ (show(rX u O 0)[k]?=_ from mW ai (λh=>P0 (Y ⟨h.Kn,0,Z⟩)));rw[show rN u O 0=u.length from rfl,i]at X;have bp:(0:Int)<=(k:Int)/\(k:Int)<(hs.length:Int):=oG;have am:=c.host k ai ao;rw[←CS.jy ao]at am;have au:=dF (am.gq hLO hUO hSO hBW hBS oG);have b3:=dF c;have b8:=dF a5;have ac:=dF B;have Q:=dF C;have gO:=dF a2;clear am c a5 B C a2 aC o F i;go_wp2_with fail;refine au.mono ?_;rintro q w5 ⟨l,ok,rfl,ag⟩;have i:=aI.out;have F:=aJ.out;have aj:(O.nd k).2=(hs.length:Int):=(ac.gs.ids V).2.1;have hT:=vJ (f:=λok=>(O.nd k).gq ok) (by rw[i];exact ac) b3 ai ao Q ag (by rw[i];exact ac.gs.gq V ok) (AG.kz _ _ (by rw[aj];omega));obtain⟨U,ah,al,d1,d2,aL,_,W,aN⟩:=hT;obtain⟨rfl,aQ⟩:=aN b8;dsimp only at al d1 d2 W;have av:=dF (uY Wc base (t2+k+1) true U _ _ _ _ _ v3 al d1 (by rw[show(U.length:Int)=(O.nd k).2 by rw[aj,ah,i]];exact d2) (by show O.net.length+_<=_;omega));have ay:Hid (O.put k ((O.nd k).gq true)=s2.ask hs.length (k+1)/\Ok (s2.ask hs.length (k+1)) hs.length (N2+12*k+12)):=by have A:=gO.out;subst A;exact b.ask V ac d2
  have bc:=dF aL;have b6:=dF aQ;have aW:Hid (U.length=hs.length):=by unfold Hid;omega
  clear ag au al d1 d2 aL aQ W aN ah X x0 i F aj;go_wp2_with fail;refine av.mono ?_;rintro q w6 ⟨rfl,aA,aE,_⟩;have aZ:Hid (CA w6 Wc base (t2+(k+1)) true U (s2.ask hs.length (k+1))):=by unfold Hid;rw[←ay.1];exact aA
  have b0:=dF (bc.trans aE);clear aA aE av;go_wp2_with fail;go_roundw;case rel=>exact⟨k+1,oG,rfl,U,aW,aZ,b6,ay.2,b0⟩
  case measure=>simp[intOf];omega
 obtain rfl:k=hs.length:=oG;have aM:decide ((hs.length:Int)<(hs.length:Int))=false:=sG;subst a2;obtain⟨r1,r2,_⟩:=b.round;obtain⟨CN,L⟩:∃y,CS.cnt 9 (s2.ask hs.length hs.length)=y:=⟨_,rfl⟩;rw[L]at r2;have S:=dF (FG hLO hUO hSO hBW hBS Wc base (t2+hs.length) hs.length (N2+12*hs.length) u _ 9 wr ⟨v3,c⟩ a5 B r1 dG (by rw[L];omega) (by rw[L];omega));rw[L]at S;have Q:=dF C;clear c a5 B C r1 L o F i aJ;go_wp2_with fail;refine S.mono ?_;rintro q w7 ⟨rfl,b1,W,aq,aO,aK,ax⟩;obtain⟨z1,z2,z3,z4,z5⟩:=b.round.2.2 ax;have HF:Hid (GJ Wc base t N H hs s w (m-1) w7):=by
  refine⟨b1,_,_,_,W.trans aI,aq,aK,⟨z1,z4 ae,z2.2.2.2.2.trans a8,z3.trans ak,λk k0 k1=>?_⟩,oG,oG,Q.trans aO⟩;have A:=z5 (H+1-m) (λk k0 k1=>by rw[ak.out];exact aT.out k k0 k1) k k0 k1;rw[ak.out]at A;rcases A with A|A;·exact .inl A
  ·exact .inr oG
 clear aq aK ax aO S X W z1 z2 z3 z4 z5;go_wp2_with fail;go_roundw;case rel=>exact⟨m-1,oG,by go_num,HF⟩
 case measure=>simp[intOf];omega
def kR(S:Int)(n i0:Nat):Nat->Nat
 |0=>i0
 |k+1=>bif eU S (kR S n i0 k) then kR S n i0 k else(kR S n i0 k+1)%n
def FI{S:Int}{n a:Nat}(h:a<n):∀k,kR S n a k<n
 |0=>h
 |k+1=>by
  show(bif eU S (kR S n a k) then kR S n a k else(kR S n a k+1)%n)<n;cases eU S (kR S n a k);·exact Nat.mod_lt _ oG
  ·exact FI h k
def QN{S:Int}{n a:Nat}(hS:0<=S/\S<=31)(k:n<=5)(h:a<n)(c:∃i,i<n/\AG.bit S (i:Int)):AG.bit S (kR S n a n:Int):=by
 have g:∀(S:Fin 32) (n:Fin 6) (i j:Fin 5),i.val<n.val->j.val<n.val->eU (S.val:Int) j.val=true->eU (S.val:Int) (kR (S.val:Int) n.val i.val n.val)=true:=by decide +kernel
 obtain⟨j,f,c⟩:=c;have d:=g ⟨S.toNat,oG⟩ ⟨n,oG⟩ ⟨a,oG⟩ ⟨j,oG⟩ h f;simp only[show((S.toNat:Nat):Int)=S by omega]at d;have e:eU S j=true:=by unfold eU;rw[beq_iff_eq];exact c
 have b:=d e;unfold eU at b;rw[beq_iff_eq]at b;exact b
section
variable {s s':CS} {n N N' i:Nat} {E c:Int}
def F7(P:Prop)(s1:CS)(n N1 i:Nat):Prop:=
 ((s1.nd i).act=true/\s1.lr.S=2^i/\∃E,kQ s1 n N1 i E 0)∨
 (¬((s1.nd i).act=true/\s1.lr.S=2^i)/\P/\jD 9 (s1.ja i n 0 4)/\∀{N2:Nat},Ok (CS.gu 9 (s1.ja i n 0 4)) n N2->∃E,iZ (CS.gu 9 (s1.ja i n 0 4)) n N2 E/\mD (CS.gu 9 (s1.ja i n 0 4)) n E)
def iZ.step(h:iZ s n N E)(hi:i<n)(D:AG.bit s.lr.S (i:Int))(Q:N<=10000000000)(t:AG.Az (n:Int) s.xf∨mD s n E):jD 9 (s.ja i n 0 0)/\∀{r:Nat},Ok (CS.gu 9 (s.ja i n 0 0)) n r->F7 (¬mD s n E) (CS.gu 9 (s.ja i n 0 0)) n r i:=by
 obtain⟨L,C⟩:=h.try hi D Q;refine⟨L,λ{r} ho=>?_⟩;generalize CS.gu 9 (s.ja i n 0 0)=s1 at*;rcases C with⟨v,M,m⟩|⟨z,H,u,B⟩
 ·obtain⟨g,A,c3⟩:=m.jc h ho;have l:=m.le (i:Int) oG oG;rw[eE s1]at l;by_cases b:(s1.nd i).act=true/\s1.lr.S=2^i
  ·left;have j:v.1=(i:Int)+1:=by have c:=b.1;rw[l.ac]at c;exact of_decide_eq_true c
   have p:v.2=2^i:=by have c:=b.2;rw[A]at c;exact c
   have e:v=((i:Int)+1,2^i):=Prod.ext j p;rw[e]at m;exact⟨b.1,b.2,_,m.jh h hi ho⟩
  ·right;refine⟨b,λK=>?_,?_⟩;·have e:=M.2 (λk a k1=>by rw[K k a k1];exact Int.le_refl _);subst e;exact b ⟨by rw[l.ac];simp,by rw[A]⟩
   ·obtain⟨O,y,F,R⟩:=g.news hi 0;refine⟨O,λ{N2} ho2=>⟨E+1,⟨⟨ho2,F,λk a k1=>?_⟩,λk a k1=>?_⟩,λk a k1=>?_⟩⟩;·rw[y];exact g.jc.q k a k1
    ·rw[y];exact g.ep k a k1
    ·rw[y];exact c3 k a k1
 ·right;have t:=t.resolve_right z;have w:∀k:Int,0<=k->k<(n:Int)->(s1.xf k).d.ep=E:=λk a k1=>(u k a k1).f.2.2.2.2.2.2.2.2.1.trans (h.ep k a k1);have o:s1.lr=s.lr:=by rw[←(ho.pq w).2.1 (i:Int) oG oG,←(h.jc.ok.pq h.ep).2.1 (i:Int) oG oG];unfold AG.Du.rc;rw[(u (i:Int) oG oG).f.2.2.2.2.2.2.2.2.2.1]
  refine⟨λb=>z λk a k1=>?_,z,(B 0).1,λ{N2} ho2=>?_⟩
  ·have x:=h.ep (i:Int) oG oG;have c:=t (i:Int) oG oG (by
    rw[←(u (i:Int) oG oG).f.2.2.2.2.1,eE];exact b.1) (by
    rw[x,(h.jc.ok.pq h.ep).2.1 (i:Int) oG oG,←o,Int.toNat_natCast];exact b.2) k a k1 (by
    rw[x,h.ep k a k1];exact Int.le_refl _)
   rw[x]at c;exact c
  ·obtain⟨_,v,m⟩:=B 0;obtain⟨g,_,c3⟩:=m.jc h ho2;exact⟨_,g,c3⟩
def kQ.wr(p:kQ s n N i E c)(hi:i<n)(e:c≠1000000000000)(b:Int)(a:1<=s.nb)(d:N+12<=2000000000):tZ s (s.ja i n b 2) n i E b (1+(s.ops.length:Int))/\∀{N':Nat},Ok (s.ja i n b 2) n N'->kQ (s.ja i n b 2) n N' i E (c+1):=by rw[zJ s i n b 2 (.inl rfl)];exact p.op hi e b false a d rfl
def kQ.rd(p:kQ s n N i E c)(hi:i<n)(g:c≠1000000000000)(b:Int)(a:1<=s.nb)(f:N+12<=2000000000){V:Int}(e:(s.nd i).d.bk (s.bl b)=V):tZ s (s.ja i n b 3) n i E b V/\∀{N':Nat},Ok (s.ja i n b 3) n N'->kQ (s.ja i n b 3) n N' i E (c+1):=by rw[zJ s i n b 3 (.inr rfl)];exact p.op hi g b true a f e
def tZ.v{b V:Int}(h:tZ s s' n i E b V):(s'.nd i).d.bk (s'.bl b)=V:=by
 have e:s'.bl b=s.bl b:=by unfold CS.bl;rw[h.nb]
 rw[h.bk,e];exact if_pos rfl
def OZ{i j n:Nat}(hi:i<n)(c:j<n)(d:n<=5)(h:j≠i):AG.bit (2^i+2^j) (j:Int):=by have b:∀i j:Fin 5,j.val≠i.val->((2:Int)^i.val+2^j.val)/2^j.val%2=1:=dG;have a:=b ⟨i,oG⟩ ⟨j,oG⟩ h;unfold AG.bit;rw[Int.toNat_natCast];exact a
def wA.go{j:Nat}(a:wA s n N i j E)(hi:i<n)(c:j<n)(e:j≠i)(h:N<=10000000000):jD 9 (s.ja j n 0 0)/\kC s (CS.gu 9 (s.ja j n 0 0))/\((CS.gu 9 (s.ja j n 0 0)).nd j).d.bk=(s.nd j).d.bk/\∀{N':Nat},Ok (CS.gu 9 (s.ja j n 0 0)) n N'->kQ (CS.gu 9 (s.ja j n 0 0)) n N' j (E+1) 0:=by have k:=a.jc.jc.ok.gs.nn.1;obtain⟨g,b⟩:=a.jc.fresh a.fr c (by rw[a.lr];exact OZ hi c k.2 e) h;refine⟨g,b.rst,?_,λ{N'} ho=>b.jh a.jc c ho⟩;have f:=(b.le (j:Int) oG oG).bk;rw[eE,eE]at f;exact f
def QO{l d c:List dO}{a b:dO}(f:d=l++[a])(e:c=d++[b]):c.length=l.length+2/\c[l.length]?=some a/\c[l.length+1]?=some b:=by subst f;subst e;refine⟨sG,sG,?_⟩;rw[List.getElem?_append_right sG];simp
def O0{s:CS}(h:s.4=[]):jD 9 s/\CS.gu 9 s=s:=by
 have a:s.4.length=0:=by rw[h];rfl
 refine⟨.inl a,?_⟩;show(bif decide (s.4.length=0) then s else _)=s;rw[decide_eq_true a];rfl
end
def GL(Wc base n t0 N0:Nat)(w:World)(k:Nat)(wr:World):Prop:=∃s t N E,St wr Wc base n t N s/\iZ s n N E/\((k=0/\AG.Az (n:Int) s.xf)∨(k=1/\mD s n E))/\t<=t0+20000*k/\N<=N0+300000*k/\Below base w wr
def p5:∀i:Fin 5,(2:Int)^i.val<=16:=dG
def NG(hLO:i8)(hUO:i6)(hSO:fB)(hBW:fH)(hBS:fI)(a b c:Int)(am:Option Addr)(cm:Nat)(ms:List mT)(w:World)(hT:dY w)(ha:i_ a)(hb:i_ b)(ag:i_ c)(d1:ms.length<=300000)(bo:∀m∈ms,m.ok)(ct:tR w am ms):Calls pG 10 #[.agg #[I a,I b],J am ms.length cm,I c] w λq w'=>q=.returned (Value.bool true)/\Below w.1.size w w':=by
 have h4:0<=eV a%4:=Int.emod_nonneg (eV a) (show(4:Int)≠0 by decide);obtain⟨n,hn⟩:∃n:Nat,eV a%4=(n:Int)-2:=⟨(eV a%4+2).toNat,oG⟩;have HA:=dF ha;have HB:=dF hb;have HN:=dF hn;have HT:=dF hT;have cu:=dF ct;have bC:=dF bo;have ch:=(Below.refl w.1.size w).alloc r_ (G #[I a,I b] 47);have av:=dF (dI.new w #[I a,I b] 47);have au:=dF ch;clear ch ha hb hn h4 ct bo;go_enter func10,ntmps10;go_upto_region 1 with fail;generalize hX:w.1.size=X at*;generalize World.alloc _ _=W1 at*;have cU:dY W1:=HT.below au (by rw[←hX];exact HT.two);have cX:X<=W1.1.size:=by have:=av.lt;omega
 have x0:=av.cell 0;have x1:=av.cell 1;simp at x0 x1;have cy:tR W1 am ms:=by
  rcases cu.out with l|⟨g,off,e1,e2,e3⟩;·exact .inl l
  ·exact .inr ⟨g,off,e1,oG,λj hj i hi=>by rw[au.cell (p:=⟨g,off+j*3+i,none⟩) (by rw[←hX];exact e2)];exact e3 j hj i hi⟩
 have cF:=dF cy;clear cy;go_wp2_with fail;refine(NH hLO hUO hSO hBW hBS a b n (eV b%4+1) am cm ms W1 cU HA HB HN oG d1 bC cF).mono ?_;rintro q w2 ⟨Wc,base,t,hs,s,rfl,hc,hO,d9,cN,ak,bz⟩;have bx:Hid (Below X w w2):=au.trans (bz.mono cX);have bQ:X<=base:=oG;have b5:hs.length=n:=by obtain⟨_,l⟩:=hc;exact l.hl.trans hO.gs.nn.2
 have d4:=hO.gs.nn.1;rw[←b5]at hO;have bU:=dF (QM hLO hUO hSO hBW hBS Wc base t (1+40*ms.length) hs s w2 hc hO oG oG);have cf:=dF b5;clear b5;clear bz x0 x1 hc hO ak cu bC cF av au;go_wp2_with fail;refine bU.mono ?_;rintro q w3 ⟨rfl,cG,s3,t3,N3,aT,bB,bq,hE,hz,_,cT,d8,cH,bA⟩;rw[cf.out]at hE hz aT;have d7:Hid (Below X w w3):=bx.trans (bA.mono bQ);have HR:Hid (GL Wc base n t3 N3 w3 0 w3):=⟨s3,t3,N3,_,⟨cG,aT,bB,bq,hE.jc.ok⟩,hE,.inl ⟨rfl,hz⟩,oG,oG,Below.refl _ _⟩;have df:t3<=14000000:=oG;have dc:N3<=190000000:=oG;clear bB bq hE hz bA bx d8 cH cT cf bU aT d9 cN;go_upto_region 7 with fail;go_loopw [8,9] (λs8 s9 wr=>(∃i:Int,s8=I i)/\∃k:Nat,k<=1/\s9=I (k:Int)/\GL Wc base n t3 N3 w3 k wr) (λs8 s9 wr=>20 - (intOf s9).toNat);case atStart=>exact⟨⟨0,rfl⟩,0,oG,rfl,HR⟩
 case round=>
 clear HR;obtain⟨⟨i9,rfl⟩,k,dj,rfl,s,t,N,E,hS,hE,hz,ht,hN,bG⟩:=hrel;obtain⟨h0,d2,a9,c9,d3,k9,r9⟩:=hS.hi oG;obtain⟨v1,v2,v3,v4,v5⟩:=hE.jc.ok.pq hE.ep;obtain⟨L,hL⟩:∃y,s.hi.length=y:=⟨_,rfl⟩;rw[hL]at k9 r9 h0 d2;obtain⟨x,hx⟩:∃y,s.lr=y:=⟨_,rfl⟩;rw[hx]at r9 v3 v4;have cK:decide ((k:Int)<20)=true:=by rw[decide_eq_true_eq];omega
 have ca:IntKind.i64.wrap ((L:Int) - 1)=((L-1:Nat):Int):=by rw[IntWalk.i64_in _ oG];omega
 have bX:(0:Int)<=((L-1:Nat):Int)/\((L-1:Nat):Int)<(L:Int):=oG;have bb:=dF k9;have cb:=dF r9;have HS:=dF hS;have HE:=dF hE;have HZ:=dF hz;have cB:=dF bG;have b7:=dF hx;have bc:=dF v4;have bh:=v3.2;clear k9 r9 hS hE hz bG v1 v2 v3 v4 v5 hL hx;go_upto_region 9 with fail;go_cut [10] (λs10 wx=>∃B,s10=P0 (Y ⟨B,0,Z⟩)/\dI wx B #[I x.E,I x.P,I x.S] 66/\Below wr.1.size wr wx);case first=>
  have b6:∀{w':World},Below wr.1.size wr w'->w'.cell? ⟨Wc,9,Z⟩=Y (J (Y ⟨a9,0,Z⟩) L c9)/\w'.rangeAt a9 ((L-1)*3) [I x.E,I x.P,I x.S]:=λhb=>⟨(hb.cell (p:=⟨Wc,9,Z⟩) (World.block_lt_of_cell? _ _ bb)).trans bb,λj u hu=>(hb.cell (p:=⟨a9,(L-1)*3+j,Z⟩) d3).trans (cb.out j u hu)⟩;have hA:=(Below.refl wr.1.size wr).drew.alloc r_ (G #[I 0,I 0,I 0] 66);refine eZ (S:=λw'=>w'.cell? ⟨Wc,9,Z⟩=Y (J (Y ⟨a9,0,Z⟩) L c9)/\w'.rangeAt a9 ((L-1)*3) [I x.E,I x.P,I x.S]) (λ_=>?_) (hS:=b6 b_.drew);refine dH 0 ?_;refine dH 1 ?_;refine dH 2 ?_;refine dH 3 (v:=J (Y ⟨a9,0,Z⟩) L c9) ?_ (hy:=λw O=>by have l:=O.1;go_simp);refine dH 4 ?_;refine dH 5 ?_;refine dH 6 ?_;refine dH 7 (v:=J (Y ⟨a9,0,Z⟩) L c9) ?_ (hy:=λw O=>by have l:=O.1;go_simp);refine dH 8 ?_;refine dH 9 (v:=I ((L-1:Nat):Int)) ?_ (hy:=λw O=>by first|(go_simp;done)|(go_simp;rw[ca]));refine dH 10 (v:=P0 (Y ⟨a9,(L-1)*3,Z⟩)) ?_ (hy:=λw O=>by go_simp);refine i4 11 a9 ((L-1)*3) [I x.E,I x.P,I x.S] ?_ (λw O=>O.2);refine dT 12 λK hK=>?_;(try go_simp);refine k1 hK (λ_=>?_) (b6 hA);clear hK K;have cL:=lW (P:=pG) (t:=66) (i:=0) (vs:=#[I x.E,I x.P,I x.S]) (dI.new wr.drew #[I 0,I 0,I 0] 66) kG sG (by intro u hu;simp at hu;rcases hu with rfl|rfl|rfl<;>rfl) #[I x.E,I x.P,I x.S] rfl;have cW:=(dI.new wr.drew #[I 0,I 0,I 0] 66).row (ds:=#[I x.E,I x.P,I x.S]);have ak:Below wr.1.size wr ((wr.drew.alloc (G #[I 0,I 0,I 0] 66)).setRow wr.drew.1.size #[I x.E,I x.P,I x.S]):=by have ae:=lP (wr.drew.alloc (G #[I 0,I 0,I 0] 66)) wr.drew.1.size #[I x.E,I x.P,I x.S];exact⟨ae.os.trans hA.os,ae.tape.trans hA.tape,ae.output.trans hA.output,by rw[ae.size];exact hA.size,λg hg=>(ae.block g (λl=>by have h8:g=wr.1.size:=l;omega)).trans (hA.block g hg)⟩
  refine zP 13 66 (.tmp 10) (.tmp 41) cL (b6 ak) ?_;go_wp2_with fail;go_meet;exact⟨_,rfl,cW,ak⟩
 case rest=>
 obtain⟨B,rfl,hB,z⟩:=hcut;obtain⟨W4,cM⟩:∃y,y=wc:=⟨_,rfl⟩;subst cM;have b8:=dF (HS.later z);have c3:Hid (Below base w3 W4):=cB.trans (z.mono HS.jf);obtain⟨a0,bZ,k0,_⟩:=St.nd hLO hUO b8 oG;obtain⟨i0,bN,bT⟩:=pk c n oG;have b2:=hB.cell 2;simp at b2;have d6:=dF bN;clear z hB HS cB bb cb bN cK ca bX;go_wp2_with fail;refine(nO c (n:Int) _ oG ag.1 ag.2).mono ?_;rintro q w9 ⟨rfl,aV⟩;obtain rfl:=aV.symm;rw[d6.out];go_upto_region 12 with fail;go_loopw [8,11] (λs8 s11 wx=>∃m:Nat,m<=n/\s11=I (m:Int)/\s8=I ((kR x.S n i0 m:Nat):Int)/\wx=W4) (λs8 s11 wx=>n - (intOf s11).toNat);case atStart=>exact⟨0,oG,rfl,rfl,rfl⟩
 case round=>
 obtain⟨m,d0,rfl,rfl,rfl⟩:=hrel;have C:=FI (S:=x.S) bT m;by_cases aa:m<n
 ·have cC:decide ((m:Int)<(n:Int))=true:=nG;obtain⟨b1,e1⟩:∃y,eU x.S (kR x.S n i0 m)=y:=⟨_,rfl⟩;have cZ:Hid (kR x.S n i0 (m+1)=bif b1 then kR x.S n i0 m else(kR x.S n i0 m+1)%n):=by unfold Hid;rw[kR,e1]
  have cQ:=dF e1;clear e1;generalize kR x.S n i0 m=pm at*;have aq:((pm:Int)+1).tmod (n:Int)=(((pm+1)%n:Nat):Int):=by rw[Int.tmod_eq_emod_of_nonneg oG];rfl
  have ck:((n:Int)==0)=false:=by rw[beq_eq_false_iff_ne];omega
  go_wp2_with fail;refine(rV x.S pm _ bh oG).mono ?_;rintro q w1 ⟨rfl,aV⟩;obtain rfl:=aV.symm;rw[cQ.out];cases b1;all_goals
   go_wp2_with fail
   go_roundw
   case rel=>exact⟨m+1,oG,rfl,by rw[cZ.out];first|rfl|(simp only[cond_false];rw[←aq]),by first|rfl|trivial⟩
   case measure=>simp[intOf];omega
 obtain rfl:n=m:=oG;have aZ:decide ((n:Int)<(n:Int))=false:=sG;have a5:=QN bh d4.2 bT bc;generalize kR x.S n i0 n=i at*;rw[←b7.out]at a5;obtain⟨bD,bF⟩:=HE.step C a5 oG (HZ.imp (·.2) (·.2));have h:=dF (b8.mv hLO hUO hSO hBW hBS (i:=i) (kk:=0) (K:=0) (A:=(i:Int)) (B:=0) C dG rfl rfl dG oG oG);have aD:=dF bD;have aF:Hid (∀{N1:Nat},Ok (CS.gu 9 (s.ja i n 0 0)) n N1->F7 (¬mD s n E) (CS.gu 9 (s.ja i n 0 0)) n N1 i):=bF;clear bD bF a5 b8 b2;go_wp2_with fail;refine h.mono ?_;rintro q w5 ⟨rfl,c5,bS⟩;have o:=dF (c5.all hLO hUO hSO hBW hBS aD oG oG);have bO:Hid (Below base w3 w5):=c3.trans bS;clear c5 bS h aZ k0;go_wp2_with fail;refine o.mono ?_;rintro q w6 ⟨rfl,bg,cq⟩;have bs:=dF (bO.trans cq);have al:=dF (aF.out bg.ok);clear aF aD o;generalize CS.gu 9 (s.ja i n 0 0)=s1 at*;obtain⟨a6,c6,k6,bH⟩:=St.nd hLO hUO bg oG;obtain⟨K6,x6,br,_⟩:=bH i C;have cE:=dF br;have dd:(0:Int)<=(i:Int)/\(i:Int)<(n:Int):=oG;clear bg cq bH br bO;go_wp2_with fail;refine cE.mono ?_;rintro q w7 ⟨rfl,aY,cD⟩;obtain⟨cj,az,a7,c7,cY,k7,r7⟩:=aY.hi oG;obtain⟨L7,co⟩:∃y,s1.hi.length=y:=⟨_,rfl⟩;rw[co]at k7 r7 cj az;obtain⟨S7,ad⟩:∃y,s1.lr.S=y:=⟨_,rfl⟩;have bR:=r7 2 _ rfl;rw[ad]at bR;have cg:IntKind.i64.wrap ((L7:Int) - 1)=((L7-1:Nat):Int):=by rw[IntWalk.i64_in _ oG];omega
 have be:(0:Int)<=((L7-1:Nat):Int)/\((L7-1:Nat):Int)<(L7:Int):=oG;obtain⟨ac,aX⟩:∃y,(s1.nd i).act=y:=⟨_,rfl⟩;rw[aX];have ao:=dF aX;have aw:=dF ad;have bW:=dF aY;have bI:=dF (bs.trans cD);clear aY cD r7 co ad aX cY cE bs k6 x6;go_upto_region 20 with fail;go_quiet (fail);have aj:=dF (bW.later (below_drewN b_ nq));have aU:=dF (below_drewN bI nq);generalize w7.drewN nq=W8 at*;clear k7 bR cg be bW bI;have cS:(2:Int)^i<=16:=p5 ⟨i,oG⟩;have cV:IntKind.i64.wrap ((2:Int)^i)=2^i:=IntWalk.i64_in _ (by have:(0:Int)<2^i:=Int.pow_pos dG;omega);by_cases ar:ac=true/\S7=2^i;focus
  obtain⟨rfl,rfl⟩:=ar
  obtain⟨E5,hP⟩:∃E5,kQ s1 n (N+40+117000) i E5 0:=by
   rcases al.out with l|⟨l,_⟩
   ·exact l.2.2
   ·exact absurd ⟨ao,aw⟩ l
  have HP:=dF hP
  clear hP al ao aw HE HZ b7 bc
  go_upto_region 25 with fail
  obtain⟨t8,bJ⟩:∃y,t+1+9000=y:=⟨_,rfl⟩
  obtain⟨N8,b9⟩:∃y,N+40+117000=y:=⟨_,rfl⟩
  rw[bJ,b9]at aj;rw[b9]at HP
  have dl:t8<=14100000:=oG
  have dk:N8<=191000000:=oG
  have af:∀m,m<n->(s1.nd m).d.recs.length=s1.hi.length:=by
   intro m hm
   have l:=(HP.jc.jc.ok.pq HP.jc.ep).1
   have h8:=HP.jc.ep (m:Int) oG oG
   rw[eE]at h8
   have h7:(s1.nd m).d.ep=((s1.nd m).d.recs.length:Int) - 1:=rfl
   omega
  obtain⟨L8,bf⟩:∃y,s1.hi.length=y:=⟨_,rfl⟩
  rw[bf]at af
  have bK:=dF bf;have cv:=dF af
  clear af bf cV cS bJ b9 ht hN cj az
  go_loopw [15] (λs15 wx=>∃m:Nat,m<=n/\s15=I (m:Int)/\St wx Wc base n t8 N8 s1/\Below base w3 wx) (λs15 wx=>n - (intOf s15).toNat)
  case atStart=>exact⟨0,oG,rfl,aj,aU⟩
  case round=>
  clear aj aU
  obtain⟨m,d0,rfl,a2,ap⟩:=hrel
  obtain⟨a0,bZ,k0,b0⟩:=St.nd hLO hUO a2 oG
  by_cases aa:m<n
  ·have cC:decide ((m:Int)<(n:Int))=true:=nG
   have de:(0:Int)<=(m:Int)/\(m:Int)<(n:Int):=oG
   obtain⟨K,xk,_,hR⟩:=b0 m aa
   rw[cv.out m aa]at hR
   have HR:=dF hR;have an:=dF ap
   clear b0 hR a2 ap
   go_wp2_with fail
   refine HR.mono ?_
   rintro q w9 ⟨⟨a1,c1,rfl⟩,f,z⟩
   obtain⟨_,_,a9,c9,_,k9,_⟩:=f.hi oG
   rw[bK.out]at k9
   have db:=dF f;have a4:=dF (an.trans z)
   clear f z k0 xk HR
   go_wp2_with fail
   go_roundw
   case rel=>exact⟨m+1,oG,rfl,db,a4⟩
   case measure=>simp[intOf];omega
  obtain rfl:n=m:=oG
  have aZ:decide ((n:Int)<(n:Int))=false:=sG
  obtain⟨cJ,_,a7,c7,k7,_⟩:=a2.rs oG
  obtain⟨R,hR⟩:∃y,s1.rs.length=y:=⟨_,rfl⟩
  rw[hR]at k7 cJ
  have cd:=dF hR
  have h:=dF (a2.mv hLO hUO hSO hBW hBS (i:=i) (kk:=2) (K:=2) (A:=(i:Int)) (B:=c) C dG rfl rfl ag oG oG)
  have cs:=dF a2.lo;have an:=dF ap
  clear b0 hR a2 ap cv bK
  go_wp2_with fail
  refine h.mono ?_
  rintro q w9 ⟨rfl,f,z⟩
  obtain⟨o1,p1⟩:=HP.wr C dG c cs oG
  have p2:=p1 f.ok
  generalize s1.ja i n c 2=s2 at*
  generalize 1+(s1.ops.length:Int)=V at*
  obtain⟨o2,p3⟩:=p2.rd C dG c f.lo oG o1.v
  have aI:=dF (f.mv hLO hUO hSO hBW hBS (i:=i) (kk:=3) (K:=3) (A:=(i:Int)) (B:=c) C dG rfl rfl ag oG oG)
  have bm:=dF o1;have aS:=dF o2;have Q:Hid (∀{N':Nat},Ok (s2.ja i n c 3) n N'->kQ (s2.ja i n c 3) n N' i E5 (0+1+1)):=p3
  have a4:=dF (an.trans z)
  clear p1 p2 p3 o1 o2 f z h an HP cs k0 k7 aZ
  go_wp2_with fail
  refine aI.mono ?_
  rintro q bM ⟨rfl,D,M⟩
  have p3:=Q.out D.ok
  clear Q aI
  generalize s2.ja i n c 3=s3 at*
  obtain⟨_,bL,a7,c7,k7,f7⟩:=D.rs oG
  obtain⟨b1,b2⟩:=bm.rs
  obtain⟨b3,b4⟩:=aS.rs
  obtain⟨l1,l2,l3⟩:=QO b2 b4
  rw[cd.out]at l1 l2 l3
  obtain⟨g7,rfl,v0,e0⟩:=f7 _ _ l2
  obtain⟨g8,aW,v1,_⟩:=f7 _ _ l3
  cases aW
  rw[l1]at k7
  have c4:Hid (s3.rs.length=R+2/\∃r,s3.rs[R]?=Y r/\r.v=V/\r.e=E5):=⟨l1,_,l2,rfl,rfl⟩
  have cw:=dF aS.v
  have cI:IntKind.i64.wrap ((R:Int)+1)=((R+1:Nat):Int):=by rw[IntWalk.i64_in _ oG];rfl
  have dm:IntKind.i64.wrap ((R:Int)+2)=((R+2:Nat):Int):=by rw[IntWalk.i64_in _ oG];rfl
  have dh:IntKind.i64.wrap ((R:Int)+3)=((R+3:Nat):Int):=by rw[IntWalk.i64_in _ oG];rfl
  have Q:=dF p3;have H:=dF D;have U:=dF (a4.trans M)
  clear p3 D M b2 b4 l1 l2 l3 e0 f7 bm aS cd a4
  go_upto_region 33 with fail
  have q0:¬((R:Int)<0):=oG
  have q1:¬((R:Int)+1<0):=oG
  have q2:¬((R:Int)+2<=(R:Int)):=oG
  have q3:((R:Int)+1).toNat=R+1:=oG
  have q4:(R:Int)+1<(R:Int)+2:=oG
  have q5:(R:Int)<(R:Int)+2:=oG
  have q6:0<=(R:Int)+1:=oG
  go_quiet (fail)
  have F:=dF (H.later (below_drewN b_ nq));have aE:=dF (below_drewN U nq)
  generalize bM.drewN nq=dn at*
  clear H U bL k7 v0 v1 q0 q1 q2 q3 q4 q5 q6 cI
  obtain⟨a0,bZ,k0,_⟩:=St.nd hLO hUO F oG
  have aq:((i:Int)+1).tmod (n:Int)=(((i+1)%n:Nat):Int):=by rw[Int.tmod_eq_emod_of_nonneg oG];rfl
  have ck:((n:Int)==0)=false:=by rw[beq_eq_false_iff_ne];omega
  obtain⟨j,hj⟩:∃y,(i+1)%n=y:=⟨_,rfl⟩
  have a3:j<n:=by rw[←hj];exact Nat.mod_lt _ oG
  have cr:j≠i:=by
   intro l;rw[l]at hj
   have cR:n=2∨n=3∨n=4∨n=5:=oG
   rcases cR with rfl|rfl|rfl|rfl<;>omega
  rw[hj]at aq
  have bj:E5<1000000000000:=by have l:=(Q.jc.jc.ok.pq Q.jc.ep).1;have h8:=(F.hi oG).2.1;omega
  obtain⟨bV,cp,c0,bE⟩:=Q.admi C dG a3 cr (j:Int) (yG a3) bj (by have:=F.lo;omega)
  have h:=dF (F.mv hLO hUO hSO hBW hBS (i:=i) (kk:=1) (K:=1) (A:=(i:Int)) (B:=(j:Int)) C dG rfl rfl oG oG oG)
  have cl:=dF bV;have aR:=dF cp;have bt:=dF c0;have bn:Hid (∀{N':Nat},Ok (CS.gu 9 (s3.ja i n (j:Int) 1)) n N'->wA (CS.gu 9 (s3.ja i n (j:Int) 1)) n N' i j (E5+1)):=bE
  have ah:Hid (1<=s3.nb):=F.lo
  clear bV cp c0 bE F bj hj Q
  go_wp2_with fail
  refine h.mono ?_
  rintro q du ⟨rfl,aO,aL⟩
  have o:=dF (aO.all hLO hUO hSO hBW hBS cl oG oG)
  have aM:=dF (aE.trans aL)
  clear aO aL h cl k0 aE aq ck
  go_wp2_with fail
  refine o.mono ?_
  rintro q dp ⟨rfl,ai,aP⟩
  have bp:=bn.out ai.ok
  clear bn o
  generalize CS.gu 9 (s3.ja i n (j:Int) 1)=s4 at*
  obtain⟨g1,g2,g3,g4⟩:=bp.go C a3 cr oG
  have h:=dF (ai.mv hLO hUO hSO hBW hBS (i:=j) (kk:=0) (K:=0) (A:=(j:Int)) (B:=0) a3 dG rfl rfl dG oG oG)
  have bY:=dF g1;have ba:=dF g2;have cz:=dF g3;have cn:Hid (∀{N':Nat},Ok (CS.gu 9 (s4.ja j n 0 0)) n N'->kQ (CS.gu 9 (s4.ja j n 0 0)) n N' j (E5+1+1) 0):=g4
  have ax:=dF (aM.trans aP)
  clear g1 g2 g3 g4 bp ai aP aM
  go_wp2_with fail
  refine h.mono ?_
  rintro q dq ⟨rfl,aH,aJ⟩
  have o:=dF (aH.all hLO hUO hSO hBW hBS bY oG oG)
  have aN:=dF (ax.trans aJ)
  clear aH aJ h bY ax
  go_wp2_with fail
  refine o.mono ?_
  rintro q dg ⟨rfl,W,aG⟩
  have p5:=cn.out W.ok
  clear cn o
  generalize CS.gu 9 (s4.ja j n 0 0)=s5 at*
  have bu:(s5.nd j).d.bk (s5.bl c)=V:=by
   have e1:s5.bl c=s3.bl c:=by unfold CS.bl;rw[ba.2.2.2.2,aR.2.2.2.2]
   have e2:0<=s3.bl c/\s3.bl c<s3.nb:=⟨Int.emod_nonneg _ (by have:=ah.out;omega),Int.emod_lt_of_pos _ (by have:=ah.out;omega)⟩
   rw[e1,cz.out,bt.out _ e2.1 e2.2];exact cw
  obtain⟨o5,p6⟩:=p5.rd a3 dG c W.lo oG bu
  have h:=dF (W.mv hLO hUO hSO hBW hBS (i:=j) (kk:=3) (K:=3) (A:=(j:Int)) (B:=c) a3 dG rfl rfl ag oG oG)
  have c8:=dF o5;have bv:Hid (∀{N':Nat},Ok (s5.ja j n c 3) n N'->kQ (s5.ja j n c 3) n N' j (E5+1+1) (0+1)):=p6
  have bP:Hid (s5.rs=s3.rs):=ba.2.1.trans aR.2.1
  have ay:=dF (aN.trans aG)
  clear o5 p6 p5 bu W aG aN aR bt ba cz cw ah
  go_wp2_with fail
  refine h.mono ?_
  rintro q dr ⟨rfl,a8,aB⟩
  obtain⟨n1,n2⟩:=O0 (bv.out a8.ok).jc.jc.nt
  have aQ:=a8.all hLO hUO hSO hBW hBS n1 oG oG
  rw[n2]at aQ
  have o:=dF aQ;have aC:=dF (ay.trans aB)
  clear n1 n2 aQ a8 aB h bv ay
  generalize s5.ja j n c 3=s6 at*
  go_wp2_with fail
  refine o.mono ?_
  rintro q dt ⟨rfl,aA,aK⟩
  obtain⟨_,bL,a7,c7,k7,f7⟩:=aA.rs oG
  obtain⟨r9,b2,cx,c2⟩:∃r,s6.rs=s3.rs++[r]/\r.v=V/\r.e=E5+1+1:=by
   obtain⟨b1,b2⟩:=c8.rs
   rw[bP.out]at b2
   exact⟨_,b2,rfl,rfl⟩
  obtain⟨l1,r0,l2,lv,le⟩:=c4.out
  have m1:s6.rs.length=R+3:=by rw[b2];simp;omega
  have m2:s6.rs[R]?=Y r0:=by rw[b2,List.getElem?_append_left oG];exact l2
  have m3:s6.rs[R+2]?=Y r9:=by rw[b2,List.getElem?_append_right oG,l1,Nat.sub_self];rfl
  obtain⟨g7,rfl,v0,e0⟩:=f7 _ _ m2
  obtain⟨g8,aW,v2,e2⟩:=f7 _ _ m3
  cases aW
  rw[m1]at k7;rw[lv]at v0;rw[le]at e0;rw[cx]at v2;rw[c2]at e2
  have di:decide (E5<E5+1+1)=true:=nG
  have cA:=dF (aC.trans aK)
  clear aA aK b2 cx c2 l1 l2 lv le m1 m2 m3 f7 c8 bP c4 aC o
  have q0:¬((R:Int)<0):=oG
  have q1:¬((R:Int)+2<0):=oG
  have q2:¬((R:Int)+3<=(R:Int)):=oG
  have q3:((R:Int)+2).toNat=R+2:=oG
  have q4:(R:Int)+2<(R:Int)+3:=oG
  have q5:(R:Int)<(R:Int)+3:=oG
  have q6:0<=(R:Int)+2:=oG
  go_upto_region 42 with fail
  go_quiet (fail)
  go_wp2_with fail
  refine bodyPost_ret (v:=.bool true) (by simp[results,results10,go_sem]) rfl ?_
  refine⟨rfl,?_⟩
  have l:=d7.trans ((below_drewN cA nq).mono bQ)
  first|exact l|(rw[hX];exact l)
 obtain⟨cO,cc,bi,bw⟩:¬((s1.nd i).act=true/\s1.lr.S=2^i)/\¬mD s n E/\jD 9 (s1.ja i n 0 4)/\∀{N2:Nat},Ok (CS.gu 9 (s1.ja i n 0 4)) n N2->∃E,iZ (CS.gu 9 (s1.ja i n 0 4)) n N2 E/\mD (CS.gu 9 (s1.ja i n 0 4)) n E:=by
  rcases al.out with⟨h8,l,_⟩|l;·exact absurd ⟨ao.symm.trans h8,aw.symm.trans l⟩ ar
  ·exact l
 have ce:k=0:=by
  rcases HZ.out with l|l;·exact l.1
  ·exact absurd l.2 cc
 have bd:=dF ce;have h:=dF (aj.mv hLO hUO hSO hBW hBS (i:=i) (kk:=4) (K:=4) (A:=(i:Int)) (B:=0) C dG rfl rfl dG oG oG);have d5:=dF bi;have cP:Hid (∀{N2:Nat},Ok (CS.gu 9 (s1.ja i n 0 4)) n N2->∃E,iZ (CS.gu 9 (s1.ja i n 0 4)) n N2 E/\mD (CS.gu 9 (s1.ja i n 0 4)) n E):=bw;clear cO cc bi bw ce al ao aw HE HZ b7 bc aj;have ci:ac=false∨(S7==2^i)=false:=by
  cases ac;·exact .inl rfl
  ·right;rw[beq_eq_false_iff_ne];exact λl=>ar ⟨rfl,l⟩
 clear ar;obtain⟨ab,da⟩:∃y,(S7==2^i)=y:=⟨_,rfl⟩;rw[da]at ci;rcases ci with rfl|rfl;rotate_left;cases ac;all_goals
  go_wp2_with fail
  refine h.mono ?_
  rintro q w9 ⟨rfl,f,z⟩
  have o:=dF (f.all hLO hUO hSO hBW hBS d5 oG oG)
  have a4:=dF (aU.trans z)
  clear f z
  go_wp2_with fail
  refine o.mono ?_
  rintro q bM ⟨rfl,D,M⟩
  have H:=dF D;have U:=dF (a4.trans M)
  clear D M
  go_wp2_with fail
  go_roundw
  case rel=>
   obtain⟨E9,c9,f9⟩:=cP.out H.ok
   exact⟨⟨_,rfl⟩,k+1,by have:=bd.out;omega,by go_num,_,_,_,E9,H,c9,.inr ⟨by have:=bd.out;omega,f9⟩,oG,oG,U⟩
  case measure=>simp[intOf];have:=bd.out;omega
end Go.Proofs.YtdcainmlcpafbaaGreatDoor
