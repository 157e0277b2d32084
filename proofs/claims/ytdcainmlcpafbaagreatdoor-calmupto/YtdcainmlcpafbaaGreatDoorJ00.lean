import Derived.Test.YtdcainmlcpafbaaGreatDoorProg
import Derived.BigQuiet
import Derived.Deep.QuietTactic
import Derived.WalkKit
import Derived.WalkLawsBesides
import Derived.WalkSpells
set_option linter.all false
set_option maxHeartbeats 8000000
set_option maxRecDepth 20000
namespace Go.Proofs.YtdcainmlcpafbaaGreatDoor
open Go.RowKit
open Value renaming slice->J,pointer->P0
open Tryz
open Tryz renaming prog->pG
open IntKind renaming i64->T
open Option renaming none->Z,some->Y
open Obj renaming cells->G
open Value (bool)
def r_{a:Nat}:a<=a:=Nat.le_refl a
def b_{n:Nat}{w:World}:RowKit.Below n w w:=.refl n w
def a_(w:World)(o:Obj):RowKit.Below w.heap.size w (w.alloc o):=b_.alloc r_ o
@[reducible]def i_(x:Int):Prop:=-9223372036854775808<=x/\x<=9223372036854775807
@[reducible]def e_(x:Int):Prop:=0<=x/\x<=1000000000000
@[reducible] def I(x:Int):Value:=Value.int .i64 x
@[reducible] def mA(a b c d e f g h i j:Int)(x:Value):Array Value:=#[I a,I b,I c,I d,I e,I f,I g,I h,I i,I j,x]
@[reducible] def mz:Array Value:=mA 0 0 0 0 0 0 0 0 0 0 (Value.slice none 0 0)
@[reducible] def Bw(w w':World):Prop:=Below w.heap.size w w'
def oG{p:Prop}(h:p:=by omega):p:=h
def dG{p:Prop}(h:p:=by decide):p:=h
def sG{p:Prop}(h:p:=by simp):p:=h
def kG{p:Prop}(h:p:=by kernel_rfl):p:=h
def eG{p:Prop}(h:p:=by simp[Act.eval]):p:=h
def nG{p:Prop}(h:p:=by simp;omega):p:=h
def xG{p:Prop}(h:p:=by unfold maxLen;omega):p:=h
def qE{k:IntKind}{a b:Int}(h:a=b):Ending.returned (.int k a)=.returned (.int k b):=by rw[h]
def mF{a b:Bool}(h:a=b):Ending.returned (.bool a)=.returned (.bool b):=by rw[h]
def oM(x:Int)(i:Nat):Bool:=decide (x / 2 ^ i%2≠0)
def SZ(m:Int):Int:=IntKind.u64.wrap (bits .and .u64 (m / 2) 6148914691236517205+bits .and .u64 m 6148914691236517205)
def S3(m:Int):Int:=IntKind.u64.wrap (bits .and .u64 (m / 4) 3689348814741910323+bits .and .u64 m 3689348814741910323)
def S4(m:Int):Int:=bits .and .u64 (IntKind.u64.wrap (m / 16+m)) 1085102592571150095
def S5(m:Int):Int:=IntKind.u64.wrap (m+m / 256)
def S6(m:Int):Int:=IntKind.u64.wrap (m+m / 65536)
def S8(m:Int):Int:=IntKind.u64.wrap (m+m / 4294967296)
def R4(m:Int):Int:=bits .and .i64 (wrap64 (S8 (S6 (S5 (S4 (S3 (SZ m))))))) 127
def nB(m:Nat):Nat:=m%2+m / 2%2+m / 4%2+m / 8%2+m / 16%2
def NO:∀m,m<32->R4 ((m:Nat):Int)=((nB m:Nat):Int):=by decide +kernel
def LI(m:Nat)(w:World)(a:m<32):Calls pG 254 #[.int .u64 m] w λe w'=>e=.returned (I (nB m))/\w'=w:=by go_enter func254,ntmps254;go_wp2;go_ret;refine⟨qE ?_,rfl⟩;exact NO m a
def GS(m:Nat)(w:World)(a:m<32):Calls pG 234 #[.int .u64 m] w λe w'=>e=.returned (I (nB m))/\w'=w:=by go_enter func234,ntmps234;go_wp2_with fail;refine(LI m _ a).mono ?_;rintro e w1 ⟨rfl,rfl⟩;go_wp2;go_ret;exact⟨rfl,rfl⟩
def BF(c f a d g b:Int)(w:World):Calls pG 233 #[.agg #[I c,I f,I a],.agg #[I d,I g,I b]] w λe w'=>e=.returned (I (bits .andNot .i64 b a))/\Bw w w':=by go_enter func233,ntmps233;go_wp2;go_ret;exact⟨rfl,(a_ _ _).alloc sG _⟩
def lZ(oE nE:Int):Bool:=decide (0<=oE/\oE<1000000000000/\nE=oE+1)
def JU(a b:Int)(w:World)(g:-9223372036854775808<=a)(f:a<=9223372036854775807):Calls pG 182 #[I a,I b] w λe w'=>e=.returned (.bool (lZ a b))/\w'=w:=by
 by_cases d:0<=a
 ·by_cases c:a<1000000000000
  ·have H:Hid ((b==a+1)=lZ a b):=by unfold Hid lZ;rw[Bool.eq_iff_iff];simp[d,c]
   go_enter func182,ntmps182;go_wp2;go_ret;exact⟨mF H,rfl⟩
  ·have H:Hid (lZ a b=false):=by unfold Hid lZ;simp;omega
   go_enter func182,ntmps182;go_wp2;go_ret;exact⟨mF H.symm,rfl⟩
 ·have H:Hid (lZ a b=false):=by unfold Hid lZ;simp;omega
  go_enter func182,ntmps182;go_wp2;go_ret;exact⟨mF H.symm,rfl⟩
def LJ(n:Int):bits .and .i64 n 1=n%2:=by
 have b:(BitVec.ofInt 64 1).toNat=2 ^ 1 - 1:=dG;have a:(BitVec.ofInt 64 n&&&BitVec.ofInt 64 1).toNat=(n%((2 ^ 64:Nat):Int)).toNat%2 ^ 1:=by rw[BitVec.toNat_and,BitVec.toNat_ofInt,b,Nat.and_two_pow_sub_one_eq_mod]
 show IntKind.i64.wrap ((BitVec.ofInt 64 n&&&BitVec.ofInt 64 1).toNat:Nat)=n%2;rw[a,IntKind.wrap_i64];omega
def R5(n:Int):(bits .and .i64 n 1==1)=decide (n%2≠0):=by rw[LJ,Bool.eq_iff_iff];simp only[beq_iff_eq,ne_eq,decide_eq_true_eq];omega
def mI(nP nS:Int):Bool:=decide (1<=nP/\nP<=5/\1<=nS/\nS<=31)&&oM nS (nP - 1).toNat
def NP(c b a:Int)(w:World)(h:b<1∨5<b∨a<1∨31<a):Calls pG 183 #[.agg #[I c,I b,I a]] w λe w'=>e=.returned (.bool false)/\Bw w w':=by
 by_cases g:b<1;·go_enter func183,ntmps183;go_wp2;go_ret;exact⟨rfl,a_ _ _⟩
 by_cases d:5<b;·go_enter func183,ntmps183;go_wp2;go_ret;exact⟨rfl,a_ _ _⟩
 by_cases c3:a<1;·go_enter func183,ntmps183;go_wp2;go_ret;exact⟨rfl,a_ _ _⟩
 have f:31<a:=oG;go_enter func183,ntmps183;go_wp2;go_ret;exact⟨rfl,a_ _ _⟩
def LK(a:Int)(P S:Nat)(w:World)(d:1<=P)(b:P<=5)(f:1<=S)(c:S<=31):Calls pG 183 #[.agg #[I a,I P,I S]] w λe w'=>e=.returned (.bool (oM S (P - 1)))/\Bw w w':=by go_enter func183,ntmps183;go_wp2;go_ret;exact⟨mF (R5 _),a_ _ _⟩
def LL(c b a:Int)(w:World):Calls pG 183 #[.agg #[I c,I b,I a]] w λe w'=>e=.returned (.bool (mI b a))/\Bw w w':=by
 by_cases h:b<1∨5<b∨a<1∨31<a
 ·have e:mI b a=false:=by unfold mI;rw[decide_eq_false oG];rfl
  rw[e];exact NP c b a w h
 ·have e:mI b a=oM a (b - 1).toNat:=by unfold mI;rw[decide_eq_true oG];rfl
  rw[e];obtain⟨P,rfl⟩:=Int.eq_ofNat_of_zero_le (show 0<=b by omega);obtain⟨S,rfl⟩:=Int.eq_ofNat_of_zero_le (show 0<=a by omega);have d:((P:Int) - 1).toNat=P - 1:=oG;rw[d];exact LK c P S w oG oG oG oG
def dF{p:Prop}(h:p):Hid p:=h
def zU(k f e b wa p s q bl v:Int)(a:Option Addr)(n c:Nat)(w:World):Calls pG 212 #[.agg (mA k f e b wa p s q bl v (J a n c))] w λr w'=> r=.returned (.agg #[I 0,I e,I b,I wa,I p,I s,I q,I bl,I v,I n])/\Bw w w':=by go_enter func212,ntmps212;go_wp2;exact bodyPost_ret (v:=.agg #[I 0,I e,I b,I wa,I p,I s,I q,I bl,I v,I n]) (by simp[results,results212,go_sem]) rfl ⟨rfl,(a_ _ _).alloc sG _⟩
def IC(k f o g h i l e b d j m:Int)(a:Option Addr)(n c:Nat)(w:World):Calls pG 251 #[I k,I f,.agg #[I o,I g,I h,I i,I l,I e,I b,I d,I j,I m],J a n c] w λr w'=> r=.returned (.agg (mA k f g h i l e b d j (J a n c)))/\Bw w w':=by go_enter func251,ntmps251;go_wp2;exact bodyPost_ret (v:=.agg (mA k f g h i l e b d j (J a n c))) (by simp[results,results251,go_sem]) rfl ⟨rfl,(a_ _ _).alloc sG _⟩
def uH:List (List Nat):=[[0,0,0,0,0],[1,2,0,0,0],[1,2,3,4,5],[1,2,4,5,0],[1,2,0,0,0],[1,2,3,0,0],[1,4,5,0,0],[1,6,7,8,0],[1,6,0,0,0],[1,6,9,0,0],[1,6,0,0,0]]
def fO(k j:Nat):Nat:=(uH.getD k []).getD j 0
def mX:List Int:=[0,0,0,0,0,0,0,0,-9223372036854775808,0]
def mY:List Int:=[0,1000000000000,1000000000000,1000000000000,5,31,1000000000000,3,9223372036854775807,4]
def kS(f:Nat):Int:=mX.getD f 0
def kT(f:Nat):Int:=mY.getD f 0
structure dY(w:World):Prop where
  mh:∀k j,k<11->j<5->w.cell? ⟨0,k*5+j,Z⟩=Y (I (fO k j))
  lim:∀f,f<10->w.cell? ⟨1,f*2,Z⟩=Y (I (kS f))/\w.cell? ⟨1,f*2+1,Z⟩=Y (I (kT f))
  two:2<=w.1.size
def wJ(k j:Nat)(b:k<11)(a:j<5):fO k j<10:=by have:∀k<11,∀j<5,fO k j<10:=dG;exact this k b j a
def dY.below{w w':World}(h:dY w){B:Nat}(a:Below B w w')(e:2<=B):dY w':=
  ⟨λk j c d=>(a.cell (p:=⟨0,k*5+j,Z⟩) (by show 0<B;omega)).trans (h.mh k j c d),
   λf b=>⟨(a.cell (p:=⟨1,f*2,Z⟩) (by show 1<B;omega)).trans (h.lim f b).1,(a.cell (p:=⟨1,f*2+1,Z⟩) (by show 1<B;omega)).trans (h.lim f b).2⟩,
   Nat.le_trans h.two a.size⟩
def zB{B:Nat}{W w1:World}(a:Below B W w1):(∀b o,b<B->w1.cell? ⟨b,o,Z⟩=W.cell? ⟨b,o,Z⟩)/\(∀b o,b<B->w1.frozen? ⟨b,o,Z⟩=W.frozen? ⟨b,o,Z⟩):=⟨λb o h=>a.cell (p:=⟨b,o,Z⟩) h,λb o h=>a.frozen (p:=⟨b,o,Z⟩) h⟩
def oN(k f:Int):Bool:=decide (k<1∨10<k∨f<0∨5<=f)
def GT(k f e b wa p s q bl v:Int)(a:Option Addr)(n c:Nat)(w:World)(h:k<1∨10<k∨f<0∨5<=f):Calls pG 211 #[.agg (mA k f e b wa p s q bl v (J a n c))] w λr w'=> r=.returned (.bool false)/\Bw w w':=by
 by_cases i:k<1;·go_enter func211,ntmps211;go_wp2;go_ret;exact⟨rfl,a_ _ _⟩
 by_cases d:10<k;·go_enter func211,ntmps211;go_wp2;go_ret;exact⟨rfl,a_ _ _⟩
 by_cases j:f<0;·go_enter func211,ntmps211;go_wp2;go_ret;exact⟨rfl,a_ _ _⟩
 have g:5<=f:=oG;go_enter func211,ntmps211;go_wp2;go_ret;exact⟨rfl,a_ _ _⟩
def BH{P:Program}{w:World}(f:Nat->Bool)(a:Nat->Option Bool×Unit->Sem (ForInStep (Option Bool×Unit))):∀(l:List Nat),
    (∀i∈l,(a i (none,())).run P w=.ok (if f i then .yield (none,()) else .done (Y false,())) w)->
    (forIn l ((none,()):Option Bool×Unit) a).run P w=.ok (if l.all f then(none,()) else(Y false,())) w
  | [],_=>by simp
  |i::l,h=>by
    rw[List.forIn_cons,Sem.run_bind,h i sG,Result.andThen_ok];cases hf:f i
    · simp[hf]
    · simp only[if_true,List.all_cons,hf,Bool.true_and]
      exact BH f a l λj b=>h j (by simp[b])
def QU(w:World):(sizeOf 3).run pG w=.ok 1 w:=kG
def jL(xs:Array Value)(i:Nat)(v:Value)(h:xs[i]?=Y v)(w:World):(part 3 xs i).run pG w=.ok v w:=by simp[part,h,go_sem]
def qF(l:List Int):Bool:=l==List.replicate 10 0
def R6(a f b g c l e k d j:Int)(w:World):(Op.equalIn 10000 298 (.agg #[I a,I f,I b,I g,I c,I l,I e,I k,I d,I j]) (.agg #[I 0,I 0,I 0,I 0,I 0,I 0,I 0,I 0,I 0,I 0])).run pG w = .ok (qF [a,f,b,g,c,l,e,k,d,j]) w:=by
 unfold qF;rw[show(10000:Nat)=9998+1+1 from rfl];unfold Op.equalIn;simp only[Sem.run_bind,run_underlying underlying298,Result.andThen_ok,QU];simp only[Std.Legacy.Range.forIn_eq_forIn_range',Std.Legacy.Range.size];rw[BH (λi=>[a,f,b,g,c,l,e,k,d,j].getD i 0==0)]
 ·simp only[Result.andThen_ok];by_cases h:[a,f,b,g,c,l,e,k,d,j]=List.replicate 10 0;·simp[List.replicate]at h;simp[List.range',List.replicate,h]
  ·rw[if_neg];·rw[beq_eq_false_iff_ne.2 h];simp
   ·intro n;apply h;simpa[List.range',List.replicate] using n
 ·intro i hi;have hi:i<10:=by simp[List.mem_range']at hi;omega
  have m:#[I a,I f,I b,I g,I c,I l,I e,I k,I d,I j][i*1]?=Y (I ([a,f,b,g,c,l,e,k,d,j].getD i 0)):=by
   match i,hi with
   |0,_|1,_|2,_|3,_|4,_|5,_|6,_|7,_|8,_|9,_=>rfl
  have o:#[I 0,I 0,I 0,I 0,I 0,I 0,I 0,I 0,I 0,I 0][i*1]?=Y (I 0):=by
   match i,hi with
   |0,_|1,_|2,_|3,_|4,_|5,_|6,_|7,_|8,_|9,_=>rfl
  simp only[Sem.run_bind,jL _ _ _ m,jL _ _ _ o,Result.andThen_ok,run_equalIn_int w 9998 3 .i64 .i64 _ _ underlying3];cases([a,f,b,g,c,l,e,k,d,j].getD i 0==0)<;>simp
def i7:List Nat->List Int->Option (List Int)
  | [],arr=>some arr
  |f::r,arr=>if arr.getD f 0<kS f∨kT f<arr.getD f 0 then none else i7 r (arr.set f 0)
def fD(k:Nat):List Nat:=uH.getD k []
def iS(k:Nat)(nums:List Int):Bool:=match i7 (fD k) nums with
  |none=>false
  |some arr=>qF arr
def BJ{w wr:World}{B:Nat}{arr:List Int}(b:arr.length=10)(F:Nat)(g:F<10)(x:Int)(d:∀a,w.cell? a=wr.cell? a)(f:∀t,t<10->wr.cell? ⟨B,t,Z⟩=Y (I (arr.getD t 0))):∀t,t<10->(w.setCell ⟨B,F,Z⟩ (I x)).cell? ⟨B,t,Z⟩=Y (I ((arr.set F x).getD t 0)):=by
 intro t c;by_cases e:t=F;·subst e;rw[World.cell?_setCell_same _ _ _ ((d _).trans (f t c))];simp[List.getD_eq_getElem?_getD,b,c]
 ·rw[World.cell?_setCell_other _ _ _ _ (by intro h;cases h;exact e rfl),d,f t c];simp[List.getD_eq_getElem?_getD,Ne.symm e]
def I2(k j:Nat)(b:k<11)(a:j<5):(fD k).drop j=fO k j::(fD k).drop (j+1):=by have:∀k<11,∀j<5,(fD k).drop j=fO k j::(fD k).drop (j+1):=dG;exact this k b j a
def QV(a b d c e:Value)(w:World):∀j:Nat,j<5->(Instr.index 301 (.agg #[a,b,d,c,e]) (I (j:Int))).run pG w=.ok ([a,b,d,c,e].getD j undef) w
 |0,_=>by kernel_rfl
 |1,_=>by kernel_rfl
 |2,_=>by kernel_rfl
 |3,_=>by kernel_rfl
 |4,_=>by kernel_rfl
def xB(k j:Nat)(a:j<5)(w:World):(Instr.index 301 (.agg #[I (fO k 0),I (fO k 1),I (fO k 2),I (fO k 3),I (fO k 4)]) (I (j:Int))).run pG w=.ok (I (fO k j)) w:=by
 rw[QV _ _ _ _ _ w j a];match j,a with
 |0,_|1,_|2,_|3,_|4,_=>rfl
def zY(k:Nat)(f e b wa p s q bl v:Int)(a:Option Addr)(n c:Nat)(w:World)(h1:1<=k)(h2:k<=10)(h3:0<=f)(h4:f<5)(m:dY w):Calls pG 211 #[.agg (mA k f e b wa p s q bl v (J a n c))] w λr w'=> r=.returned (.bool (iS k [0,e,b,wa,p,s,q,bl,v,n]))/\Bw w w':=by
 have d1:decide ((k:Int)<1)=false:=nG;have d2:decide ((10:Int)<(k:Int))=false:=nG;have d3:decide (f<0)=false:=nG;have d4:decide (5<=f)=false:=nG;have tw:=m.two;have t0:0<w.1.size:=oG;have t1:1<w.1.size:=oG;have r0:w.cell? ⟨0,k*5,Z⟩=_:=m.mh k 0 oG oG;have r1:=m.mh k 1 oG oG;have r2:=m.mh k 2 oG oG;have r3:=m.mh k 3 oG oG;have r4:=m.mh k 4 oG oG;go_enter func211,ntmps211;go_wp2_with fail;refine(zU _ _ _ _ _ _ _ _ _ _ _ _ _ _).mono ?_;rintro r w1 ⟨rfl,x⟩;obtain⟨H,a2⟩:=zB x;have aa:w.1.size<w1.1.size:=by have:=x.size;simp at this;omega
 have g0:0<w1.1.size:=oG;have g1:1<w1.1.size:=oG;go_wp2_with fail;have O:dY w1:=(m.below ((Below.refl w.1.size w).alloc r_ _) oG).below x nG;have B:Bw w w1:=((Below.refl w.1.size w).alloc r_ _).trans (x.mono sG);clear H a2 x r0 r1 r2 r3 r4 m tw t0 t1;go_loopw [30] (λi wr=>∃(j:Nat) (arr:List Int),j<=5/\i=I j/\arr.length=10/\i7 (fD k) [0,e,b,wa,p,s,q,bl,v,(n:Int)]=i7 ((fD k).drop j) arr/\
    (∀t,t<10->wr.cell? ⟨w1.1.size,t,Z⟩=Y (I (arr.getD t 0)))/\(∀t,t<10->wr.frozen? ⟨w1.1.size,t,Z⟩=false)/\Bw w1 wr)
  (λi _=>5 - (intOf i).toNat)
 case atStart=>
  refine⟨0,[0,e,b,wa,p,s,q,bl,v,n],oG,rfl,rfl,rfl,?_,?_,a_ _ _⟩
  ·intro t m;match t,m with
   |0,_=>simp[go_sem]
   |1,_=>simp[go_sem]
   |2,_=>simp[go_sem]
   |3,_=>simp[go_sem]
   |4,_=>simp[go_sem]
   |5,_=>simp[go_sem]
   |6,_=>simp[go_sem]
   |7,_=>simp[go_sem]
   |8,_=>simp[go_sem]
   |9,_=>simp[go_sem]
  ·intro t m;simp[go_sem]
 case round=>
  obtain⟨j,arr,hj,rfl,D,h,d,g,o⟩:=hrel;by_cases E:j<5
  ·have u:=I2 k j oG E;have K:=wJ k j oG E;have a6:∀w,(Instr.index 301 (.agg #[I (fO k 0),I (fO k 1),I (fO k 2),I (fO k 3),I (fO k 4)]) (I (j:Int))).run pG w=.ok (I (fO k j)) w:=xB k j E;have C:=O.below o oG;have cl:=(C.lim (fO k j) K).1;have cu:=(C.lim (fO k j) K).2;have cF:=d (fO k j) K;have fF:=g (fO k j) K;rw[u]at h;generalize fO k j=F at*;generalize hA:arr.getD F 0=A at*;generalize hL:kS F=L at*;generalize hU:kT F=U1 at*;have M:=dF hA;have HL:=dF hL;have HU:=dF hU;have U:Hid _:=h;have HC:Hid _:=d;have HZ:Hid _:=g;clear hA hL hU h d g u C;by_cases y:A<L
   ·have l:Hid (iS k [0,e,b,wa,p,s,q,bl,v,n]=false):=by unfold Hid iS;rw[U.out];rw[←M.out,←HL.out]at y;unfold i7;rw[if_pos (Or.inl y)]
    go_wp2;go_quiet (fail);go_wp2;go_ret;exact⟨by rw[l.out];rfl,B.trans ((below_drewN o _).mono oG)⟩
   ·have a7:decide (A<L)=false:=by simpa using y
    by_cases z:U1<A
    ·have l:Hid (iS k [0,e,b,wa,p,s,q,bl,v,n]=false):=by unfold Hid iS;rw[U.out];rw[←HU.out,←M.out]at z;unfold i7;rw[if_pos (Or.inr z)]
     go_wp2;go_quiet (fail);go_wp2;go_ret;exact⟨by rw[l.out];rfl,B.trans ((below_drewN o _).mono oG)⟩
    ·have a9:decide (U1<A)=false:=by simpa using z
     go_wp2;have a4:Hid (i7 (fD k) [0,e,b,wa,p,s,q,bl,v,(n:Int)]=i7 ((fD k).drop (j+1)) (arr.set F 0)):=by
      unfold Hid;rw[U.out];rw[←HU.out,←M.out]at z;rw[←M.out,←HL.out]at y;conv=>lhs;unfold i7
      rw[if_neg oG]
     go_quiet (fail);go_wp2;go_roundw;case rel=>exact⟨j+1,arr.set F 0,oG,by go_num,by simpa using D,a4,BJ D F K 0 (λ_=>rfl) HC,λt m=>by simpa using HZ.out t m,(below_drewN o _).setCell r_ _⟩
     case measure=>simp[intOf];omega
  ·have N:=d 0 oG;have H:=d 1 oG;have X:=d 2 oG;have a5:=d 3 oG;have V:=d 4 oG;have S:=d 5 oG;have a3:=d 6 oG;have Q:=d 7 oG;have a0:=d 8 oG;have W:=d 9 oG;match arr,D with
   | [x0,x1,x2,x3,x4,x5,x6,x7,x8,x9],_=>
    have a8:=λw=>R6 x0 x1 x2 x3 x4 x5 x6 x7 x8 x9 w;simp only[List.getD_eq_getElem?_getD,List.getElem?_cons_zero,List.getElem?_cons_succ,Option.getD_some]at N H X a5 V S a3 Q a0 W;have l:Hid (iS k [0,e,b,wa,p,s,q,bl,v,n]=qF [x0,x1,x2,x3,x4,x5,x6,x7,x8,x9]):=by
     have a1:j=5:=oG;subst a1;have R:(fD k).drop 5=[]:=by have:∀k<11,(fD k).drop 5=[]:=dG;exact this k oG
     unfold iS;rw[h,R];rfl
    clear h d g;go_wp2;go_ret;exact⟨by rw[l.out];rfl,B.trans (o.mono oG)⟩
def pF(s:Int×Int)(x:UInt8):Int×Int:=((s.1+(x.toNat:Int))%65521,(s.2+(s.1+(x.toNat:Int))%65521)%65521)
def jM(bs:List UInt8):Int×Int:=bs.foldl pF (1,0)
def I3(s:Int×Int)(x:UInt8):0<=(pF s x).1/\(pF s x).1<65521/\0<=(pF s x).2/\(pF s x).2<65521:=by unfold pF;simp only;omega
def AQ(a:List UInt8)(x:UInt8):jM (a++[x])=pF (jM a) x:=by simp[jM]
def LM(a:List UInt8):0<=(jM a).1/\(jM a).1<65521/\0<=(jM a).2/\(jM a).2<65521:=by
 rcases List.eq_nil_or_concat a with rfl|⟨l,x,rfl⟩;·simp[jM]
 ·rw[List.concat_eq_append,AQ];exact I3 _ _
def BL(a:List UInt8)(k:Nat)(h:k<a.length):a.take (k+1)=a.take k++[a[k]]:=by rw[List.take_succ_eq_append_getElem h]
def LN(c a:Int)(f:0<=c)(j:c<65536)(g:0<=a)(k:a<65536):bits .or .i64 (c*65536) a=65536*c+a:=by
 obtain⟨C,rfl⟩:=Int.eq_ofNat_of_zero_le f;obtain⟨A,rfl⟩:=Int.eq_ofNat_of_zero_le g;have d:(BitVec.ofInt 64 ((C:Int)*65536)).toNat=C*65536:=by rw[show(C:Int)*65536=((C*65536:Nat):Int) by omega,BitVec.ofInt_natCast,BitVec.toNat_ofNat];exact Nat.mod_eq_of_lt oG
 have h:(BitVec.ofInt 64 (A:Int)).toNat=A:=by rw[BitVec.ofInt_natCast,BitVec.toNat_ofNat];exact Nat.mod_eq_of_lt oG
 have e:C*65536 ||| A=C*65536+A:=by have:=Nat.shiftLeft_add_eq_or_of_lt (i:=16) (b:=A) oG C;rw[Nat.shiftLeft_eq]at this;exact this.symm
 show IntKind.i64.wrap ((BitVec.ofInt 64 ((C:Int)*65536) ||| BitVec.ofInt 64 (A:Int)).toNat:Int)=_;rw[BitVec.toNat_or,d,h,e,IntKind.wrap_i64];omega
def je(w:World)(v:Value)(bs:List UInt8):Prop:=
 ∃ao cap,v=J ao bs.length cap/\bs.length<=cap/\cap<=maxLen/\(bs=[]∨∃g off,ao=Y ⟨g,off,Z⟩/\∀j (h:j<bs.length),w.cell? ⟨g,off+j,Z⟩=Y (.int .u8 (bs[j].toNat:Int)))
def LO(b:List UInt8)(g off l:Nat)(w:World)(m:b.length<=140737488355328)(o:∀j (h:j<b.length),w.cell? ⟨g,off+j,Z⟩=Y (.int .u8 (b[j].toNat:Int))):Calls pG 214 #[J (Y ⟨g,off,Z⟩) b.length l] w λe w'=>e=.returned (I (65536*(jM b).2+(jM b).1))/\w'=w:=by
 go_enter func214,ntmps214;go_wp2;go_loop [3,4,9] (λa c i=>∃k:Nat,k<=b.length/\i=I k/\a=I (jM (b.take k)).1/\c=I (jM (b.take k)).2) (λ_ _ i=>b.length - (intOf i).toNat);case atStart=>exact⟨0,Nat.zero_le _,rfl,rfl,rfl⟩
 case round=>
  obtain⟨k,q,rfl,rfl,rfl⟩:=hrel;have f:=LM (b.take k);by_cases d:k<b.length
  ·have H:Hid (jM (b.take (k+1))=pF (jM (b.take k)) b[k]):=by rw[BL b k d];exact AQ _ _
   have p:(b[k].toNat:Int)<256:=by have:=b[k].toNat_lt;omega
   have n:=o k d;go_wp2;go_round;case rel=>exact⟨k+1,oG,by go_num,by rw[H.out];rfl,by rw[H.out];rfl⟩
   case measure=>simp[intOf];omega
  ·go_wp2;go_ret;exact⟨qE (by rw[List.take_of_length_le oG]at f⊢;exact LN _ _ f.2.2.1 oG f.1 oG),rfl⟩
def LP(b:Option Addr)(a:Nat)(w:World):Calls pG 214 #[J b 0 a] w λe w'=>e=.returned (I 1)/\w'=w:=by go_enter func214,ntmps214;go_wp2;refine wp_loop_rounds 1 ?_;rw[rounds_succ];go_wp2;go_ret;exact⟨qE kG,rfl⟩
def NQ(b:List UInt8)(v:Value)(w:World)(c:b.length<=140737488355328)(f:je w v b):Calls pG 214 #[v] w λe w'=>e=.returned (I (65536*(jM b).2+(jM b).1))/\w'=w:=by
 obtain⟨d,a,rfl,_,_,rfl|⟨g,off,rfl,h⟩⟩:=f;·exact LP d a w
 ·exact LO b g off a w c h
def jO(n:Int)(i:Nat):UInt8:=UInt8.ofNat (n / 2 ^ (8*i)%256).toNat
def be(n:Int):Nat->List UInt8
 |0=>[]
 |k+1=>jO n k::be n k
def lX(n:Int)(k:Nat):(be n k).length=k:=by induction k with
 |zero=>rfl
 |succ k ih=>simp[be,ih]
def QW:(Tryz.prog.info? 5).map (λi=>(i.zero,i.size,i.bytes))=Y (Y (.int .u8 0),1,1):=kG
def iD(l:List UInt8):List Value:=l.map λx=>Value.int .u8 (x.toNat:Int)
def ID(n:Int)(k:Nat)(a:k<8):IntKind.u64.wrap n / 2 ^ (8*k)%256=((jO n k).toNat:Int):=by
 have e:((jO n k).toNat:Int)=n / 2 ^ (8*k)%256:=by unfold jO;rw[UInt8.toNat_ofNat'];have c:0<=n / 2 ^ (8*k)%256:=Int.emod_nonneg _ oG;have b:n / 2 ^ (8*k)%256<256:=Int.emod_lt_of_pos _ oG;omega
 rw[e,IntKind.wrap_u64];match k,a with
 |0,_=>simp only[Nat.mul_zero,Int.pow_zero];omega
 |1,_=>show n%18446744073709551616 / 256%256=n / 256%256;omega
 |2,_=>show n%18446744073709551616 / 65536%256=n / 65536%256;omega
 |3,_=>show n%18446744073709551616 / 16777216%256=n / 16777216%256;omega
 |4,_=>show n%18446744073709551616 / 4294967296%256=n / 4294967296%256;omega
 |5,_=>show n%18446744073709551616 / 1099511627776%256=n / 1099511627776%256;omega
 |6,_=>show n%18446744073709551616 / 281474976710656%256=n / 281474976710656%256;omega
 |7,_=>show n%18446744073709551616 / 72057594037927936%256=n / 72057594037927936%256;omega
def gJ(w:World)(base:Nat)(v:Value)(bs:List UInt8):Prop:=w.ownsRow base 5 1 v bs.length (iD bs)
def I4(a b:List UInt8):iD (a++b)=iD a++iD b:=by simp[iD]
def wE(n:Int)(b:Nat)(R:b<=8)(base:Nat)(v:Value)(xs:List UInt8)(w:World)(F:xs.length<=1000000)(j:gJ w base v xs)(d:base<=w.1.size):Calls pG 213 #[v,I n,I b] w λe w'=>∃v',e=.returned v'/\gJ w' base v' (xs++be n b)/\Below base w w':=by
 obtain⟨M,hi,t,y,z⟩:=info_parts QW;go_enter func213,ntmps213;go_wp2;go_loopw [0,7] (λs i wr=>∃(k:Nat) (dn:List UInt8),k<=b/\i=I ((k:Int) - 1)/\dn++be n k=be n b/\gJ wr base s (xs++dn)/\Below base w wr/\base<=wr.1.size)
  (λ_ i _=>(intOf i+1).toNat)
 case atStart=>exact⟨b,[],Nat.le_refl _,rfl,rfl,by simpa using j,Below.refl _ _,d⟩
 case round=>
  obtain⟨k,dn,S,rfl,D,o,x,hs⟩:=hrel;have q:=dF D;clear D;cases k with
  |zero=>
   have dF:dn=be n b:=by simpa[be] using q.out
   subst dF;clear q;have O:∃a l c,u0=J a l c:=by
    rcases o.2 with⟨h,_⟩|⟨g,K,_,h,_⟩;·exact⟨_,_,_,h⟩
    ·exact⟨_,_,_,h⟩
   obtain⟨a,l,c,rfl⟩:=O;go_wp2;go_ret;exact⟨_,rfl,o,x⟩
  |succ k=>
   have E:=ID n k oG;have p:=dF E;clear E;have N:dn.length+(k+1)=b:=by have:=congrArg List.length q;simpa[lX] using this
   go_wp2_with(at_builtin;refine wpList_append_own _ rfl _ _ 148 rfl base 5 M (.int .u8 0) 1 1 underlying148 hi t y z rfl dG _ _ _ rfl (World.ownsRow.alloc o _) ⟨wr.1.size,0,Z⟩ 1 1 [.int .u8 (IntKind.u64.wrap n / 2 ^ (8*k)%256)] rfl rfl (cell_one_new _ _ _) ?c2 ?c3 ?c4 ?c5 ?_);case c2=>intro u H;simp at H;subst H;rfl
   case c3=>unfold maxLen;simp;omega
   case c4=>simp;omega
   case c5=>simp;omega
   ·intro v' w1 f m _;rw[p.out]at f;have C:gJ w1 base v' (xs++(dn++[jO n k])):=by
     unfold gJ;have Q:(xs++(dn++[jO n k])).length=xs.length+dn.length+1:=nG;have L:iD (xs++(dn++[jO n k]))=iD (xs++dn)++[Value.int .u8 ((jO n k).toNat:Int)]:=by simp[iD]
     rw[Q,L];exact f
    have B:=(x.alloc hs _).grown m nG (λg m=>(World.ownsRow.lt o g m).1);have A:base<=w1.1.size:=by have:=m.size;simp at this;omega
    have r:Hid ((dn++[jO n k])++be n k=be n b):=by have:=q.out;simpa[be,Hid] using this
    clear f m o x hs q p;go_wp2;go_roundw;case rel=>exact⟨k,dn++[jO n k],oG,by go_num,r,C,B,A⟩
    case measure=>simp[intOf]
def jN(nums vals:List Int)(f:Nat):List UInt8:=
 if f=0 then[] else if f=9 then be (nums.getD 9 0) 1++vals.flatMap (λv=>be v 8) else be (nums.getD f 0) 8
def mV(k f:Nat)(nums vals:List Int):List UInt8:=[UInt8.ofNat k,UInt8.ofNat f]++(fD k).flatMap (jN nums vals)
def EO(b:List UInt8):Int:=65536*(jM b).2+(jM b).1
def kE(k f:Nat)(nums vals:List Int):List UInt8:=mV k f nums vals++be (EO (mV k f nums vals)) 4
def fK(w:World)(ao:Option Addr)(zs:List Int):Prop:=
 zs=[]∨∃g off,ao=Y ⟨g,off,Z⟩/\g<w.1.size/\∀j (h:j<zs.length),w.cell? ⟨g,off+j,Z⟩=Y (I zs[j])
def GU(n:Int)(base:Nat)(v:Value)(xs:List UInt8)(w:World)(c:xs.length<=1000000)(b:gJ w base v xs)(a:base<=w.1.size):
  Calls pG 213 #[v,I n,I 1] w λe w'=>∃v',e=.returned v'/\gJ w' base v' (xs++be n 1)/\Below base w w':=wE n 1 oG base v xs w c b a
def GV(n:Int)(base:Nat)(v:Value)(xs:List UInt8)(w:World)(c:xs.length<=1000000)(b:gJ w base v xs)(a:base<=w.1.size):
  Calls pG 213 #[v,I n,I 4] w λe w'=>∃v',e=.returned v'/\gJ w' base v' (xs++be n 4)/\Below base w w':=wE n 4 oG base v xs w c b a
def zV(n:Int)(base:Nat)(v:Value)(xs:List UInt8)(w:World)(c:xs.length<=1000000)(b:gJ w base v xs)(a:base<=w.1.size):
  Calls pG 213 #[v,I n,I 8] w λe w'=>∃v',e=.returned v'/\gJ w' base v' (xs++be n 8)/\Below base w w':=wE n 8 oG base v xs w c b a
def wF(a:List Int):(a.flatMap (λv=>be v 8)).length=8*a.length:=by
 induction a with
 |nil=>rfl
 |cons z a ih=>simp[lX,ih];omega
def GP(b a:List Int)(f:Nat)(h:a.length<=4):(jN b a f).length<=33:=by
 unfold jN;split;·simp
 split;·rw[List.length_append,wF,lX];omega
 ·rw[lX];omega
def LQ(b a:List Int)(h:a.length<=4)(l:List Nat):(l.flatMap (jN b a)).length<=33*l.length:=by
 induction l with
 |nil=>simp
 |cons f l ih=>have:=GP b a f h;rw[List.flatMap_cons,List.length_append,List.length_cons];omega
def uB(k:Nat)(a:k<11):(fD k).length=5:=by have:∀k<11,(fD k).length=5:=dG;exact this k a
def AR(k j:Nat)(b:k<11)(a:j<5):(fD k).take (j+1)=(fD k).take j++[fO k j]:=by have:∀k<11,∀j<5,(fD k).take (j+1)=(fD k).take j++[fO k j]:=dG;exact this k b j a
def lH(k f:Nat)(nums vals:List Int)(j:Nat):List UInt8:=[UInt8.ofNat k,UInt8.ofNat f]++((fD k).take j).flatMap (jN nums vals)
def AS(k f:Nat)(b a:List Int)(j:Nat)(c:k<11)(h:a.length<=4):(lH k f b a j).length<=200:=by
 have e:=LQ b a h ((fD k).take j);have d:((fD k).take j).length<=5:=by rw[List.length_take,uB k c];omega
 unfold lH;simp;simp at e d;omega
def IE(k f:Nat)(b a:List Int)(j:Nat)(c:k<11)(d:j<5):lH k f b a (j+1)=lH k f b a j++jN b a (fO k j):=by unfold lH;rw[AR k j c d];simp
def AT(k f:Nat)(b a:List Int)(c:k<11):lH k f b a 5=mV k f b a:=by unfold lH mV;rw[List.take_of_length_le (by rw[uB k c];omega)]
def DI{w:World}(a f b g c j e i d h:Int)(t:Nat)(k:t<10):(w.alloc (.cells #[I a,I f,I b,I g,I c,I j,I e,I i,I d,I h] 298)).cell? ⟨w.1.size,t,Z⟩=Y (I ([a,f,b,g,c,j,e,i,d,h].getD t 0)):=by
 rw[World.cell?_alloc_at _ _ _ _ rfl];match t,k with
 |0,_|1,_|2,_|3,_|4,_|5,_|6,_|7,_|8,_|9,_=>rfl
def gJ.je{w:World}{base:Nat}{v:Value}{b:List UInt8}(h:gJ w base v b):je w v b:=by
 obtain⟨s,m⟩:=h;rcases m with⟨rfl,f⟩|⟨g,a,d,rfl,o,p,i,k,hs,q⟩;·exact⟨none,0,by simp[f],oG,by simp[maxLen],.inl (List.eq_nil_of_length_eq_zero f)⟩
 ·refine⟨_,a,rfl,i,k,.inr ⟨g,0,rfl,λj r=>?_⟩⟩;have l:=World.ownsRow.cells (w:=w) (base:=base) (e:=5) (size:=1) (v:=J (Y ⟨g,0,Z⟩) b.length a) (n:=b.length) (xs:=iD b) ⟨s,.inr ⟨g,a,d,rfl,o,p,i,k,hs,q⟩⟩ (g:=g) rfl j (.int .u8 (b[j].toNat:Int)) (by simp[iD,r]);have c:(⟨g,0,Z⟩:Addr).add j=⟨g,j,Z⟩:=by unfold Addr.add;split<;>simp_all
  rw[c]at l;rw[Nat.zero_add];exact l
def JV(a:List Int)(t:Nat)(h:t<a.length):(a.take (t+1)).flatMap (λv=>be v 8)=(a.take t).flatMap (λv=>be v 8)++be a[t] 8:=by rw[List.take_succ_eq_append_getElem h,List.flatMap_append];simp only[List.flatMap_cons,List.flatMap_nil,List.append_nil]
def gJ.low{w:World}{base a:Nat}{v:Value}{f:List UInt8}(h:gJ w base v f)(j:a<=base):gJ w a v f:=by
 obtain⟨e,c⟩:=h;rcases c with c|⟨g,d,b,i,k,r⟩;·exact⟨e,.inl c⟩
 ·exact⟨e,.inr ⟨g,d,b,i,oG,r⟩⟩
def JW(k f:Nat)(e b wa p s q bl v:Int)(a:Option Addr)(l:List Int)(c:Nat)(w:World)(h1:1<=k)(h2:k<=10)(h4:f<5)(D:dY w)(hl:l.length<=4)(hz:fK w a l)(hm:iS k [0,e,b,wa,p,s,q,bl,v,(l.length:Int)]=true):Calls pG 157 #[.agg (mA k f e b wa p s q bl v (J a l.length c))] w λr w'=> ∃x,r=.returned (.tuple #[x,I 0])/\gJ w' w.1.size x (kE k f [0,e,b,wa,p,s,q,bl,v,(l.length:Int)] l)/\Bw w w':=by
 have tw:=D.two;have t0:0<w.1.size:=oG;have t1:1<w.1.size:=oG;have r0:w.cell? ⟨0,k*5,Z⟩=_:=D.mh k 0 oG oG;have r1:=D.mh k 1 oG oG;have r2:=D.mh k 2 oG oG;have r3:=D.mh k 3 oG oG;have r4:=D.mh k 4 oG oG;have HM:Hid _:=hm;clear hm;go_enter func157,ntmps157;go_wp2_with fail;refine(zY k f e b wa p s q bl v a l.length c _ h1 h2 oG oG (D.below ((Below.refl w.1.size w).alloc r_ _) oG)).mono ?_;rintro r w1 ⟨rfl,W⟩;rw[HM.out];obtain⟨ai,aw⟩:=zB W;have ap:w.1.size<w1.1.size:=by have:=W.size;simp at this;omega
 have g0:0<w1.1.size:=oG;have g1:1<w1.1.size:=oG;go_wp2_with fail;refine(zU _ _ _ _ _ _ _ _ _ _ _ _ _ _).mono ?_;rintro r w2 ⟨rfl,V⟩;obtain⟨af,av⟩:=zB V;have ak:w.1.size<w2.1.size:=by have:=V.size;omega
 have aA:0<w2.1.size:=oG;have aF:1<w2.1.size:=oG;go_wp2_with fail;have C:Bw w w2:=((Below.refl w.1.size w).alloc r_ _).trans ((W.mono sG).trans (V.mono oG));have a1:w2.cell? ⟨w.1.size,10,Z⟩=Y (J a l.length c):=by rw[af _ _ ap,ai _ _ sG,World.cell?_alloc_at _ _ _ _ rfl];rfl
 have a2:=λt D=>DI (w:=w2) 0 e b wa p s q bl v (l.length:Int) t D;have X:dY w2:=D.below C oG;generalize hN:[0,e,b,wa,p,s,q,bl,v,(l.length:Int)]=d at*;generalize hX:w2.alloc (G #[I 0,I e,I b,I wa,I p,I s,I q,I bl,I v,I (l.length:Int)] 298)=W3 at*;have O:W3.1.size=w2.1.size+1:=by rw[←hX];simp
 have z:Bw w2 W3:=by rw[←hX];exact a_ _ _
 have ad:gJ (W3.alloc (G #[Value.int IntKind.u8 ↑k,Value.int IntKind.u8 ↑f] 5)) (w2.1.size+1) (J (some {block:=w2.1.size+1,off:=0}) 2 2) (lH k f d l 0):=by
  refine⟨by simp[lH,iD],.inr ⟨_,2,_,rfl,Nat.le_refl _,by rw[←O];exact heap_alloc_new W3 _,by simp[lH],by simp[maxLen],sG,?_⟩⟩;have e1:((UInt8.ofNat k).toNat:Int)=k:=by rw[UInt8.toNat_ofNat'];omega
  have e2:((UInt8.ofNat f).toNat:Int)=f:=by rw[UInt8.toNat_ofNat'];omega
  simp only[lH,iD,List.take_zero,List.flatMap_nil,List.append_nil,List.map_cons,List.map_nil,e1,e2];rfl
 have K:Below (w2.1.size+1) W3 (W3.alloc (G #[Value.int IntKind.u8 ↑k,Value.int IntKind.u8 ↑f] 5)):=b_.alloc oG _;have aB:(W3.alloc (G #[Value.int IntKind.u8 ↑k,Value.int IntKind.u8 ↑f] 5)).1.size=w2.1.size+2:=by simp[O]
 generalize W3.alloc (G #[Value.int IntKind.u8 ↑k,Value.int IntKind.u8 ↑f] 5)=R at*;have am:dY R:=(X.below z oG).below K oG;have a4:∀t,t<10->R.cell? ⟨w2.1.size,t,Z⟩=Y (I (d.getD t 0)):=λt D=>(K.cell (by show w2.1.size<_;omega)).trans (a2 t D);have a7:R.cell? ⟨w.1.size,10,Z⟩=Y (J a l.length c):=(K.cell (by show w.1.size<_;omega)).trans ((z.cell (by exact ak)).trans a1);have E:l=[]∨∃g off,a=Y ⟨g,off,Z⟩/\g<w2.1.size/\∀j (h:j<l.length),R.cell? ⟨g,off+j,Z⟩=Y (I l[j]):=by
  rcases hz with h|⟨g,off,h1,h2,h3⟩;·exact .inl h
  ·exact .inr ⟨g,off,h1,oG,λj hj=>(K.cell (by show g<_;omega)).trans ((z.cell (by show g<_;omega)).trans ((C.cell (by exact h2)).trans (h3 j hj)))⟩
 have a8:Bw w R:=C.trans ((z.mono oG).trans (K.mono oG));clear ai aw af av W V r0 r1 r2 r3 r4 D tw t0 t1 hX a2 X z K a1 C hz O;generalize hB:w2.1.size=B at*;have HN:Hid _:=hN;clear hN hB HM;go_loopw [5,26] (λo i wr=>∃(j:Nat),j<=5/\i=I j/\gJ wr (B+1) o (lH k f d l j)/\Below (B+1) R wr) (λ_ i _=>5 - (intOf i).toNat);case atStart=>exact⟨0,oG,rfl,ad,Below.refl _ _⟩
 case round=>
  obtain⟨j,hj,rfl,ho,n⟩:=hrel;have a0:=AS k f d l j oG hl;have ao:=n.size;by_cases a5:j<5
  ·have ax:∀w,(Instr.index 301 (.agg #[I (fO k 0),I (fO k 1),I (fO k 2),I (fO k 3),I (fO k 4)]) (I (j:Int))).run pG w=.ok (I (fO k j)) w:=xB k j a5;have hF:=wJ k j oG a5;have HS:Hid _:=IE k f d l j oG a5;have aj:wr.cell? ⟨B,fO k j,Z⟩=Y (I (d.getD (fO k j) 0)):=(n.cell (by show B<_;omega)).trans (a4 _ hF);have ah:wr.cell? ⟨w.1.size,10,Z⟩=Y (J a l.length c):=(n.cell (by show w.1.size<_;omega)).trans a7;generalize fO k j=F at*;generalize lH k f d l j=H at*;by_cases a3:F=0
   ·subst a3;go_wp2;go_roundw;case rel=>exact⟨j+1,oG,by go_num,by rw[HS.out];simpa[jN] using ho,n⟩
    case measure=>simp[intOf];omega
   by_cases aa:F=9
   ·subst aa;have U:Hid (lH k f d l (j+1)=H++be (d.getD 9 0) 1++l.flatMap (λv=>be v 8)):=by unfold Hid;rw[HS.out];simp[jN]
    clear HS hF a3;generalize d.getD 9 0=N at*;go_wp2_with fail;refine(GU N (B+1) _ H _ oG ho oG).mono ?_;rintro r w5 ⟨v5,rfl,Q,L⟩;have ay:w5.cell? ⟨w.1.size,10,Z⟩=Y (J a l.length c):=(L.cell (by show w.1.size<_;omega)).trans ah;have m:Below (B+1) R w5:=n.trans L;have aC:=m.size;have aD:(H++be N 1).length<=201:=by rw[List.length_append,lX];omega
    generalize H++be N 1=u at*;clear ah L ho n aj a0 ao;go_wp2_with fail;go_loopw [5,47] (λo i wr=>∃(t:Nat),t<=l.length/\i=I t/\gJ wr (B+1) o (u++(l.take t).flatMap (λv=>be v 8))/\Below (B+1) R wr) (λ_ i _=>l.length - (intOf i).toNat);case atStart=>exact⟨0,Nat.zero_le _,rfl,by simpa using Q,m⟩
    case round=>
     obtain⟨t,D,rfl,M,y⟩:=hrel;have az:=y.size;by_cases a6:t<l.length
     ·obtain⟨g,off,rfl,hg,ab⟩:∃g off,a=Y ⟨g,off,Z⟩/\g<B/\∀j (h:j<l.length),R.cell? ⟨g,off+j,Z⟩=Y (I l[j]):=by
       rcases E with h|h;·subst h;simp at a6
       ·exact h
      have aE:wr.cell? ⟨g,off+t,Z⟩=Y (I l[t]):=(y.cell (by show g<_;omega)).trans (ab t a6);have HT:Hid (u++(l.take (t+1)).flatMap (λv=>be v 8)=(u++(l.take t).flatMap (λv=>be v 8))++be l[t] 8):=by unfold Hid;rw[JV l t a6,List.append_assoc]
      have al:(u++(l.take t).flatMap (λv=>be v 8)).length<=1000000:=by rw[List.length_append,wF,List.length_take];omega
      generalize u++(l.take t).flatMap (λv=>be v 8)=ae at*;clear ab Q m E;generalize l[t]=Z1 at*;go_wp2_with fail;refine(zV Z1 (B+1) _ ae _ al M oG).mono ?_;rintro r w7 ⟨v7,rfl,ar,ag⟩;have ac:=y.trans ag;clear M y ag;go_wp2;go_roundw;case rel=>exact⟨t+1,oG,by go_num,by rw[HT.out];exact ar,ac⟩
      case measure=>simp[intOf];omega
     ·have a9:l.take t=l:=List.take_of_length_le oG;rw[a9]at M;rw[←U.out]at M;clear a9 Q m U;go_wp2;go_roundw;case rel=>exact⟨j+1,oG,by go_num,M,y⟩
      case measure=>simp[intOf];omega
   ·have n0:((F:Int)==0)=false:=nG;have n9:((F:Int)==9)=false:=nG;have U:Hid (lH k f d l (j+1)=H++be (d.getD F 0) 8):=by unfold Hid;rw[HS.out];simp[jN,a3,aa]
    clear HS;generalize d.getD F 0=N at*;go_wp2_with fail;refine(zV N (B+1) _ H _ oG ho oG).mono ?_;rintro r w5 ⟨v5,rfl,Q,L⟩;have m:Below (B+1) R w5:=n.trans L;clear ho n L;go_wp2;go_roundw;case rel=>exact⟨j+1,oG,by go_num,by rw[U.out];exact Q,m⟩
    case measure=>simp[intOf];omega
  ·have au:j=5:=oG;subst au;rw[AT k f d l oG]at ho a0;have HE:Hid (kE k f d l=mV k f d l++be (65536*(jM (mV k f d l)).2+(jM (mV k f d l)).1) 4):=rfl;generalize mV k f d l=A at*;go_wp2_with fail;refine(NQ A _ _ oG ho.je).mono ?_;rintro r w8 ⟨rfl,rfl⟩;generalize 65536*(jM A).2+(jM A).1=S at*;go_wp2_with fail;refine(GV S (B+1) _ A _ oG ho oG).mono ?_;rintro r w9 ⟨v9,rfl,an,aq⟩;go_wp2;go_ret2;refine⟨v9,rfl,?_,a8.trans ((n.trans aq).mono oG)⟩;rw[HN.out,HE.out];exact an.low oG
def fP(k f:Int)(nums:List Int):Bool:=!oN k f&&iS k.toNat nums
def GW(k f e b wa p s q bl v:Int)(a:Option Addr)(n c:Nat)(w:World)(g:dY w):Calls pG 211 #[.agg (mA k f e b wa p s q bl v (J a n c))] w λr w'=> r=.returned (.bool (fP k f [0,e,b,wa,p,s,q,bl,v,n]))/\Bw w w':=by
 by_cases h:k<1∨10<k∨f<0∨5<=f
 ·have d:fP k f [0,e,b,wa,p,s,q,bl,v,n]=false:=by simp only[fP,oN,h,decide_true,Bool.not_true,Bool.false_and]
  rw[d];exact GT k f e b wa p s q bl v a n c w h
 ·have d:fP k f [0,e,b,wa,p,s,q,bl,v,n]=iS k.toNat [0,e,b,wa,p,s,q,bl,v,n]:=by simp only[fP,oN,h,decide_false,Bool.not_false,Bool.true_and]
  rw[d];obtain⟨K,rfl⟩:=Int.eq_ofNat_of_zero_le (show 0<=k by omega);exact zY K f e b wa p s q bl v a n c w oG oG oG oG g
def wN(k f e b wa p s q bl v:Int)(a:Option Addr)(n c:Nat)(w:World)(g:dY w)(h:fP k f [0,e,b,wa,p,s,q,bl,v,(n:Int)]=false):Calls pG 157 #[.agg (mA k f e b wa p s q bl v (J a n c))] w λr w'=> r=.returned (.tuple #[J Z 0 0,I 1])/\Bw w w':=by have l:=g.two;have i:Hid _:=h;clear h;go_enter func157,ntmps157;go_wp2_with fail;refine(GW k f e b wa p s q bl v a n c _ (g.below ((Below.refl w.1.size w).alloc r_ _) oG)).mono ?_;rintro r w1 ⟨rfl,d⟩;rw[i.out];have j:=((Below.refl w.1.size w).alloc r_ _).trans (d.mono sG);go_wp2;go_ret2;exact⟨rfl,j⟩
def k8(bs:List UInt8):Nat:=bs.foldl (λn x=>n*256+x.toNat) 0
def AU(a:List UInt8)(x:UInt8):k8 (a++[x])=k8 a*256+x.toNat:=by simp[k8]
def LR:∀(a:List UInt8),k8 a<256 ^ a.length:=by
 intro a;have b:∀(n:Nat) (a:List UInt8),a.length=n->k8 a<256 ^ n:=by
  intro n;induction n with
  |zero=>intro a h;rw[List.eq_nil_of_length_eq_zero h];decide
  |succ n ih=>
   intro a h;rcases List.eq_nil_or_concat a with rfl|⟨l,x,rfl⟩;·simp at h
   ·rw[List.concat_eq_append]at h⊢;have c:l.length=n:=by simpa using h
    have:=ih l c;have d:=x.toNat_lt;rw[AU,Nat.pow_succ];omega
 exact b _ a rfl
def JX(a:List UInt8)(h:a.length<=7):k8 a<72057594037927936:=by have b:=LR a;have d:256 ^ a.length<=256 ^ 7:=Nat.pow_le_pow_right oG h;have c:(256:Nat) ^ 7=72057594037927936:=dG;omega
def qI(bs:List UInt8):Int:=wrap64 (k8 bs:Int)
structure dM(B:Nat)(w w':World):Prop where
 os:w'.os=w.os
 tape:w'.tape=w.tape
 output:w'.output=w.output
 size:w'.1.size=w.1.size
 block:∀k,k≠B->w'.1[k]?=w.1[k]?
def dM.setCell(w:World)(a:Addr)(u:Value):dM a.block w (w.setCell a u):=⟨rfl,rfl,rfl,by simp[World.setCell],λk b=>Below.heap_setCell _ _ _ _ b⟩
def dM.cell{B:Nat}{w w':World}(h:dM B w w'){p:Addr}(a:p.block≠B):w'.cell? p=w.cell? p:=World.cell?_of_block (w:=w) (h.block p.block a)
def dM.frozen{B:Nat}{w w':World}(h:dM B w w'){p:Addr}(a:p.block≠B):w'.frozen? p=w.frozen? p:=World.frozen?_of_block (w:=w) (h.block p.block a)
def dM.below{B C:Nat}{w w':World}(h:dM B w w')(b:C<=B):Below C w w':=⟨h.os,h.tape,h.output,by rw[h.size];exact Nat.le_refl _,λk a=>h.block k oG⟩
def LS(n:Nat)(x:UInt8)(c:n<72057594037927936):bits .or .u64 ((n:Int)*256) (x.toNat:Int)=((n*256+x.toNat:Nat):Int):=by
 have d:=x.toNat_lt;have e:=u64_or_nat (n*256) x.toNat oG oG;have a:n*256 ||| x.toNat=n*256+x.toNat:=by have:=Nat.shiftLeft_add_eq_or_of_lt (i:=8) (b:=x.toNat) oG n;rw[Nat.shiftLeft_eq]at this;exact this.symm
 rw[a]at e;rw[←e];rfl
def G1(B:Nat)(d:Option Addr)(n b a:Nat)(w:World)(c:n<a)(_hw8:a<=8)(g:w.cell? ⟨B,0,Z⟩=Y (J d n b))(f:w.frozen? ⟨B,0,Z⟩=false):Calls pG 250 #[P0 (Y ⟨B,0,Z⟩),I a] w λe w'=>e=.returned (I 0)/\w'=w.setCell ⟨B,0,Z⟩ (J Z 0 0):=by go_enter func250,ntmps250;go_wp2;go_ret;exact⟨rfl,rfl⟩
def IF(B g off c:Nat)(b:List UInt8)(a:Nat)(w:World)(r:1<=a)(A:a<=8)(y:a<=b.length)(m:b.length<=c)(x:c<=maxLen)(E:w.cell? ⟨B,0,Z⟩=Y (J (Y ⟨g,off,Z⟩) b.length c))(C:w.frozen? ⟨B,0,Z⟩=false)(f:∀j (h:j<b.length),w.cell? ⟨g,off+j,Z⟩=Y (.int .u8 (b[j].toNat:Int))):Calls pG 250 #[P0 (Y ⟨B,0,Z⟩),I a] w λe w'=>e=.returned (I (qI (b.take a)))/\∃l,w'=w.setCell ⟨B,0,Z⟩ (J l (b.length - a) (c - a))/\(b.length≠a->l=Y ⟨g,off+a,Z⟩):=by
 unfold maxLen at x;have dn:decide (b.length<a)=false:=nG;go_enter func250,ntmps250;go_wp2;go_loop [5,25] (λn i=>∃t:Nat,t<=a/\i=I t/\n=.int .u64 (k8 (b.take t):Int)) (λ_ i=>a - (intOf i).toNat);case atStart=>exact⟨0,Nat.zero_le _,rfl,rfl⟩
 case round=>
  obtain⟨t,q,rfl,rfl⟩:=hrel;by_cases u:t<a
  ·have k:=JX (b.take t) (by rw[List.length_take];omega);have z:=f t oG;have v:Hid (k8 (b.take (t+1))=k8 (b.take t)*256+b[t].toNat):=by unfold Hid;rw[BL b t oG,AU]
   have o:Hid _:=LS (k8 (b.take t)) b[t] k;have D:(b[t].toNat:Int)<256:=by have:=b[t].toNat_lt;omega
   have p:t<b.length:=oG;generalize s:b[t]=X at*;generalize k8 (b.take t)=N at*;clear s f;go_wp2;go_round;case rel=>exact⟨t+1,oG,by go_num,by rw[v.out];exact congrArg (Value.int .u64) o⟩
   case measure=>simp[intOf];omega
  ·have d:t=a:=oG;subst d;clear f;go_wp2;·go_ret;exact⟨rfl,_,rfl,λh=>oG⟩
   ·go_ret;exact⟨rfl,_,rfl,λ_=>rfl⟩
def gU(w:World)(lim:Nat)(v:Value)(bs:List UInt8):Prop:=
 ∃ao cap,v=J ao bs.length cap/\bs.length<=cap/\cap<=maxLen/\(bs=[]∨∃g off,ao=Y ⟨g,off,Z⟩/\g<lim/\∀j (h:j<bs.length),w.cell? ⟨g,off+j,Z⟩=Y (.int .u8 (bs[j].toNat:Int)))
def iR(bs:List UInt8)(width:Nat):Int:=if bs.length<width then 0 else qI (bs.take width)
def iM(bs:List UInt8)(width:Nat):List UInt8:=if bs.length<width then[] else bs.drop width
def AV(B d:Nat)(v:Value)(c:List UInt8)(a:Nat)(w:World)(m:1<=a)(i:a<=8)(q:d<=B)(l:w.cell? ⟨B,0,Z⟩=Y v)(k:w.frozen? ⟨B,0,Z⟩=false)(u:gU w d v c):Calls pG 250 #[P0 (Y ⟨B,0,Z⟩),I a] w λe w'=>e=.returned (I (iR c a))/\∃v',w'.cell? ⟨B,0,Z⟩=Y v'/\w'.frozen? ⟨B,0,Z⟩=false/\gU w' d v' (iM c a)/\dM B w w':=by
 obtain⟨n,f,rfl,A,t,x⟩:=u;unfold iR iM;by_cases b:c.length<a;·rw[if_pos b,if_pos b];refine(G1 B n c.length f a w b i l k).mono ?_;rintro e w' ⟨rfl,rfl⟩;exact⟨rfl,_,World.cell?_setCell_same _ _ _ l,by simpa using k,⟨none,0,rfl,Nat.le_refl _,by simp[maxLen],.inl rfl⟩,dM.setCell w ⟨B,0,Z⟩ _⟩
 ·rw[if_neg b,if_neg b];rcases x with rfl|⟨g,off,rfl,y,r⟩;·simp at b;omega
  refine(IF B g off f c a w m i oG A t l k r).mono ?_;rintro e w' ⟨rfl,n,rfl,p⟩;refine⟨rfl,_,World.cell?_setCell_same _ _ _ l,by simpa using k,⟨n,f - a,sG,nG,oG,?_⟩,dM.setCell w ⟨B,0,Z⟩ _⟩;by_cases s:c.length=a;·exact .inl (by simp[s])
  ·refine .inr ⟨g,off+a,p s,y,λj z=>?_⟩;rw[World.cell?_setCell_other _ _ _ _ (by intro h;have:=congrArg Addr.block h;simp at this;omega)];have o:a+j<c.length:=by rw[List.length_drop]at z;omega
   have:=r (a+j) o;rw[Nat.add_assoc,this,List.getElem_drop]
end Go.Proofs.YtdcainmlcpafbaaGreatDoor
