import Derived.Test.YtdcainmlcpafbaaGreatDoorProg
import Derived.BigQuiet
import Derived.Deep.QuietTactic
import Derived.WalkKit
import Derived.WalkLawsBesides
import Derived.WalkSpells
set_option linter.all false
set_option maxHeartbeats 8000000
set_option maxRecDepth 20000
namespace Go.Proofs.YtdcainmlcpafbaaGreatDoor
open Go.RowKit
open Value renaming int->I,slice->J,pointer->P0
open Tryz
open Tryz renaming prog->pG
open IntKind renaming i64->T
open Option renaming none->Z,some->Y
open Obj renaming cells->G
open Value (bool)
theorem r_{a:Nat}:a<=a:=Nat.le_refl a
theorem b_{n:Nat}{w:World}:RowKit.Below n w w:=.refl n w
theorem a_(w:World)(o:Obj):RowKit.Below w.heap.size w (w.alloc o):=b_.alloc r_ o
@[reducible]def i_(x:Int):Prop:=-9223372036854775808<=x/\x<=9223372036854775807
@[reducible]def e_(x:Int):Prop:=0<=x/\x<=1000000000000
theorem oV{k:IntKind}{a b:Int}(h:a=b):Ending.returned (.int k a)=.returned (.int k b):=by rw[h]
theorem lH{a b:Bool}(h:a=b):Ending.returned (.bool a)=.returned (.bool b):=by rw[h]
def nJ(x:Int)(i:Nat):Bool:=decide (x / 2 ^ i%2≠0)
def PW(m:Int):Int:=IntKind.u64.wrap (bits .and .u64 (m / 2) 6148914691236517205+bits .and .u64 m 6148914691236517205)
def PX(m:Int):Int:=IntKind.u64.wrap (bits .and .u64 (m / 4) 3689348814741910323+bits .and .u64 m 3689348814741910323)
def PY(m:Int):Int:=bits .and .u64 (IntKind.u64.wrap (m / 16+m)) 1085102592571150095
def PZ(m:Int):Int:=IntKind.u64.wrap (m+m / 256)
def P1(m:Int):Int:=IntKind.u64.wrap (m+m / 65536)
def P2(m:Int):Int:=IntKind.u64.wrap (m+m / 4294967296)
def O1(m:Int):Int:=bits .and .i64 (wrap64 (P2 (P1 (PZ (PY (PX (PW m))))))) 127
def l9(m:Nat):Nat:=m%2+m / 2%2+m / 4%2+m / 8%2+m / 16%2
theorem K2:∀m,m<32->O1 ((m:Nat):Int)=((l9 m:Nat):Int):=by decide +kernel
theorem I3(m:Nat)(w:World)(a:m<32):Calls pG 254 #[.int .u64 m] w fun e w'=>e=.returned (I T (l9 m))/\w'=w:=by go_enter func254,ntmps254;go_wp2;go_ret;refine⟨oV ?_,rfl⟩;exact K2 m a
theorem D9(m:Nat)(w:World)(a:m<32):Calls pG 234 #[.int .u64 m] w fun e w'=>e=.returned (I T (l9 m))/\w'=w:=by go_enter func234,ntmps234;go_wp2_with fail;refine(I3 m _ a).mono ?_;rintro e w1 ⟨rfl,rfl⟩;go_wp2;go_ret;exact⟨rfl,rfl⟩
theorem yU(f c b g d a:Int)(w:World):Calls pG 233 #[.agg #[I T f,I T c,I T b],.agg #[I T g,I T d,I T a]] w fun e w'=>e=.returned (I T (bits .andNot .i64 a b))/\Below w.heap.size w w':=by go_enter func233,ntmps233;go_wp2;go_ret;exact⟨rfl,(a_ _ _).alloc (by simp) _⟩
def lB(oE nE:Int):Bool:=decide (0<=oE/\oE<1000000000000/\nE=oE+1)
theorem GR(a b:Int)(w:World)(g:-9223372036854775808<=a)(f:a<=9223372036854775807):Calls pG 182 #[I T a,I T b] w fun e w'=>e=.returned (.bool (lB a b))/\w'=w:=by
 by_cases d:0<=a
 ·by_cases c:a<1000000000000
  ·have H:Hid ((b==a+1)=lB a b):=by unfold Hid lB;rw[Bool.eq_iff_iff];simp[d,c]
   go_enter func182,ntmps182;go_wp2;go_ret;exact⟨lH H,rfl⟩
  ·have H:Hid (lB a b=false):=by unfold Hid lB;simp;omega
   go_enter func182,ntmps182;go_wp2;go_ret;exact⟨lH H.out.symm,rfl⟩
 ·have H:Hid (lB a b=false):=by unfold Hid lB;simp;omega
  go_enter func182,ntmps182;go_wp2;go_ret;exact⟨lH H.out.symm,rfl⟩
theorem I4(n:Int):bits .and .i64 n 1=n%2:=by
 have b:(BitVec.ofInt 64 1).toNat=2 ^ 1 - 1:=by decide
 have a:(BitVec.ofInt 64 n&&&BitVec.ofInt 64 1).toNat=(n%((2 ^ 64:Nat):Int)).toNat%2 ^ 1:=by rw[BitVec.toNat_and,BitVec.toNat_ofInt,b,Nat.and_two_pow_sub_one_eq_mod]
 show IntKind.i64.wrap ((BitVec.ofInt 64 n&&&BitVec.ofInt 64 1).toNat:Nat)=n%2;rw[a,IntKind.wrap_i64];omega
theorem O2(n:Int):(bits .and .i64 n 1==1)=decide (n%2≠0):=by rw[I4,Bool.eq_iff_iff];simp only[beq_iff_eq,ne_eq,decide_eq_true_eq];omega
def lJ(nP nS:Int):Bool:=decide (1<=nP/\nP<=5/\1<=nS/\nS<=31)&&nJ nS (nP - 1).toNat
theorem K3(c b a:Int)(w:World)(h:b<1∨5<b∨a<1∨31<a):Calls pG 183 #[.agg #[I T c,I T b,I T a]] w fun e w'=>e=.returned (.bool false)/\Below w.heap.size w w':=by
 by_cases g:b<1;·go_enter func183,ntmps183;go_wp2;go_ret;exact⟨rfl,a_ _ _⟩
 by_cases d:5<b;·go_enter func183,ntmps183;go_wp2;go_ret;exact⟨rfl,a_ _ _⟩
 by_cases c3:a<1;·go_enter func183,ntmps183;go_wp2;go_ret;exact⟨rfl,a_ _ _⟩
 have f:31<a:=by omega
 go_enter func183,ntmps183;go_wp2;go_ret;exact⟨rfl,a_ _ _⟩
theorem I5(a:Int)(P S:Nat)(w:World)(c:1<=P)(b:P<=5)(f:1<=S)(d:S<=31):Calls pG 183 #[.agg #[I T a,I T P,I T S]] w fun e w'=>e=.returned (.bool (nJ S (P - 1)))/\Below w.heap.size w w':=by go_enter func183,ntmps183;go_wp2;go_ret;exact⟨lH (O2 _),a_ _ _⟩
theorem I6(c b a:Int)(w:World):Calls pG 183 #[.agg #[I T c,I T b,I T a]] w fun e w'=>e=.returned (.bool (lJ b a))/\Below w.heap.size w w':=by
 by_cases h:b<1∨5<b∨a<1∨31<a
 ·have e:lJ b a=false:=by unfold lJ;rw[decide_eq_false (by omega)];rfl
  rw[e];exact K3 c b a w h
 ·have e:lJ b a=nJ a (b - 1).toNat:=by unfold lJ;rw[decide_eq_true (by omega)];rfl
  rw[e];obtain⟨P,rfl⟩:=Int.eq_ofNat_of_zero_le (show 0<=b by omega);obtain⟨S,rfl⟩:=Int.eq_ofNat_of_zero_le (show 0<=a by omega);have d:((P:Int) - 1).toNat=P - 1:=by omega
  rw[d];exact I5 c P S w (by omega) (by omega) (by omega) (by omega)
theorem dA{p:Prop}(h:p):Hid p:=h
theorem xM(k f e b wa p s q bl v:Int)(a:Option Addr)(n c:Nat)(w:World):Calls pG 212 #[.agg #[I T k,I T f,I T e,I T b,I T wa,I T p,I T s,I T q,I T bl,I T v,J a n c]] w fun r w'=> r=.returned (.agg #[I T 0,I T e,I T b,I T wa,I T p,I T s,I T q,I T bl,I T v,I T n])/\Below w.heap.size w w':=by go_enter func212,ntmps212;go_wp2;exact bodyPost_ret (v:=.agg #[I T 0,I T e,I T b,I T wa,I T p,I T s,I T q,I T bl,I T v,I T n]) (by simp[results,results212,go_sem]) rfl ⟨rfl,(a_ _ _).alloc (by simp) _⟩
theorem E3(k f m h l b d i e g j o:Int)(a:Option Addr)(n c:Nat)(w:World):Calls pG 251 #[I T k,I T f,.agg #[I T m,I T h,I T l,I T b,I T d,I T i,I T e,I T g,I T j,I T o],J a n c] w fun r w'=> r=.returned (.agg #[I T k,I T f,I T h,I T l,I T b,I T d,I T i,I T e,I T g,I T j,J a n c])/\Below w.heap.size w w':=by go_enter func251,ntmps251;go_wp2;exact bodyPost_ret (v:=.agg #[I T k,I T f,I T h,I T l,I T b,I T d,I T i,I T e,I T g,I T j,J a n c]) (by simp[results,results251,go_sem]) rfl ⟨rfl,(a_ _ _).alloc (by simp) _⟩
def sW:List (List Nat):=[[0,0,0,0,0],[1,2,0,0,0],[1,2,3,4,5],[1,2,4,5,0],[1,2,0,0,0],[1,2,3,0,0],[1,4,5,0,0],[1,6,7,8,0],[1,6,0,0,0],[1,6,9,0,0],[1,6,0,0,0]]
def fC(k j:Nat):Nat:=(sW.getD k []).getD j 0
def lV:List Int:=[0,0,0,0,0,0,0,0,-9223372036854775808,0]
def lW:List Int:=[0,1000000000000,1000000000000,1000000000000,5,31,1000000000000,3,9223372036854775807,4]
def jV(f:Nat):Int:=lV.getD f 0
def jW(f:Nat):Int:=lW.getD f 0
structure dU(w:World):Prop where
  lu:∀k j,k<11->j<5->w.cell? ⟨0,k*5+j,Z⟩=Y (I T (fC k j))
  lim:∀f,f<10->w.cell? ⟨1,f*2,Z⟩=Y (I T (jV f))/\w.cell? ⟨1,f*2+1,Z⟩=Y (I T (jW f))
  two:2<=w.heap.size
theorem uN(k j:Nat)(a:k<11)(b:j<5):fC k j<10:=by
 have:∀k<11,∀j<5,fC k j<10:=by decide
 exact this k a j b
theorem dU.below{w w':World}(h:dU w){B:Nat}(a:Below B w w')(e:2<=B):dU w':=
  ⟨fun k j c d=>(a.cell (p:=⟨0,k*5+j,Z⟩) (by show 0<B;omega)).trans (h.lu k j c d),
   fun f b=>⟨(a.cell (p:=⟨1,f*2,Z⟩) (by show 1<B;omega)).trans (h.lim f b).1,(a.cell (p:=⟨1,f*2+1,Z⟩) (by show 1<B;omega)).trans (h.lim f b).2⟩,
   Nat.le_trans h.two a.size⟩
theorem wW{B:Nat}{W w1:World}(a:Below B W w1):(∀b o,b<B->w1.cell? ⟨b,o,Z⟩=W.cell? ⟨b,o,Z⟩)/\(∀b o,b<B->w1.frozen? ⟨b,o,Z⟩=W.frozen? ⟨b,o,Z⟩):=⟨fun b o h=>a.cell (p:=⟨b,o,Z⟩) h,fun b o h=>a.frozen (p:=⟨b,o,Z⟩) h⟩
def nK(k f:Int):Bool:=decide (k<1∨10<k∨f<0∨5<=f)
theorem EA(k f e b wa p s q bl v:Int)(a:Option Addr)(n c:Nat)(w:World)(h:k<1∨10<k∨f<0∨5<=f):Calls pG 211 #[.agg #[I T k,I T f,I T e,I T b,I T wa,I T p,I T s,I T q,I T bl,I T v,J a n c]] w fun r w'=> r=.returned (.bool false)/\Below w.heap.size w w':=by
 by_cases i:k<1;·go_enter func211,ntmps211;go_wp2;go_ret;exact⟨rfl,a_ _ _⟩
 by_cases g:10<k;·go_enter func211,ntmps211;go_wp2;go_ret;exact⟨rfl,a_ _ _⟩
 by_cases j:f<0;·go_enter func211,ntmps211;go_wp2;go_ret;exact⟨rfl,a_ _ _⟩
 have d:5<=f:=by omega
 go_enter func211,ntmps211;go_wp2;go_ret;exact⟨rfl,a_ _ _⟩
theorem yV{P:Program}{w:World}(f:Nat->Bool)(a:Nat->Option Bool×Unit->Sem (ForInStep (Option Bool×Unit))):∀(l:List Nat),
    (∀i∈l,(a i (none,())).run P w=.ok (if f i then .yield (none,()) else .done (Y false,())) w)->
    (forIn l ((none,()):Option Bool×Unit) a).run P w=.ok (if l.all f then(none,()) else(Y false,())) w
  | [],_=>by simp
  |i::l,h=>by
    rw[List.forIn_cons,Sem.run_bind,h i (by simp),Result.andThen_ok];cases hf:f i
    · simp[hf]
    · simp only[if_true,List.all_cons,hf,Bool.true_and]
      exact yV f a l fun j b=>h j (by simp[b])
theorem NQ(w:World):(sizeOf 3).run pG w=.ok 1 w:=by kernel_rfl
theorem i6(xs:Array Value)(i:Nat)(v:Value)(h:xs[i]?=Y v)(w:World):(part 3 xs i).run pG w=.ok v w:=by simp[part,h,go_sem]
def oW(l:List Int):Bool:=l==List.replicate 10 0
theorem O3(a d k j f c l b e g:Int)(w:World):(Op.equalIn 10000 298 (.agg #[I T a,I T d,I T k,I T j,I T f,I T c,I T l,I T b,I T e,I T g]) (.agg #[I T 0,I T 0,I T 0,I T 0,I T 0,I T 0,I T 0,I T 0,I T 0,I T 0])).run pG w = .ok (oW [a,d,k,j,f,c,l,b,e,g]) w:=by
 unfold oW;rw[show(10000:Nat)=9998+1+1 from rfl];unfold Op.equalIn;simp only[Sem.run_bind,run_underlying underlying298,Result.andThen_ok,NQ];simp only[Std.Legacy.Range.forIn_eq_forIn_range',Std.Legacy.Range.size];rw[yV (fun i=>[a,d,k,j,f,c,l,b,e,g].getD i 0==0)]
 ·simp only[Result.andThen_ok];by_cases h:[a,d,k,j,f,c,l,b,e,g]=List.replicate 10 0;·simp[List.replicate]at h;simp[List.range',List.replicate,h]
  ·rw[if_neg];·rw[beq_eq_false_iff_ne.2 h];simp
   ·intro m;apply h;simpa[List.range',List.replicate] using m
 ·intro i hi;have hi:i<10:=by simp[List.mem_range']at hi;omega
  have n:#[I T a,I T d,I T k,I T j,I T f,I T c,I T l,I T b,I T e,I T g][i*1]?=Y (I T ([a,d,k,j,f,c,l,b,e,g].getD i 0)):=by
   match i,hi with
   |0,_|1,_|2,_|3,_|4,_|5,_|6,_|7,_|8,_|9,_=>rfl
  have o:#[I T 0,I T 0,I T 0,I T 0,I T 0,I T 0,I T 0,I T 0,I T 0,I T 0][i*1]?=Y (I T 0):=by
   match i,hi with
   |0,_|1,_|2,_|3,_|4,_|5,_|6,_|7,_|8,_|9,_=>rfl
  simp only[Sem.run_bind,i6 _ _ _ n,i6 _ _ _ o,Result.andThen_ok,run_equalIn_int w 9998 3 .i64 .i64 _ _ underlying3];cases([a,d,k,j,f,c,l,b,e,g].getD i 0==0)<;>simp
def iR:List Nat->List Int->Option (List Int)
  | [],arr=>some arr
  |f::r,arr=>if arr.getD f 0<jV f∨jW f<arr.getD f 0 then none else iR r (arr.set f 0)
def eU(k:Nat):List Nat:=sW.getD k []
def iG(k:Nat)(nums:List Int):Bool:=match iR (eU k) nums with
  |none=>false
  |some arr=>oW arr
theorem yW{w wr:World}{B:Nat}{arr:List Int}(b:arr.length=10)(F:Nat)(g:F<10)(x:Int)(d:∀a,w.cell? a=wr.cell? a)(f:∀t,t<10->wr.cell? ⟨B,t,Z⟩=Y (I T (arr.getD t 0))):∀t,t<10->(w.setCell ⟨B,F,Z⟩ (I T x)).cell? ⟨B,t,Z⟩=Y (I T ((arr.set F x).getD t 0)):=by
 intro t c;by_cases e:t=F;·subst e;rw[World.cell?_setCell_same _ _ _ ((d _).trans (f t c))];simp[List.getD_eq_getElem?_getD,b,c]
 ·rw[World.cell?_setCell_other _ _ _ _ (by intro h;cases h;exact e rfl),d,f t c];simp[List.getD_eq_getElem?_getD,Ne.symm e]
theorem FU(k j:Nat)(a:k<11)(b:j<5):(eU k).drop j=fC k j::(eU k).drop (j+1):=by
 have:∀k<11,∀j<5,(eU k).drop j=fC k j::(eU k).drop (j+1):=by decide
 exact this k a j b
theorem NR(a c e b d:Value)(w:World):∀j:Nat,j<5->(Instr.index 301 (.agg #[a,c,e,b,d]) (I T (j:Int))).run pG w=.ok ([a,c,e,b,d].getD j undef) w
 |0,_=>by kernel_rfl
 |1,_=>by kernel_rfl
 |2,_=>by kernel_rfl
 |3,_=>by kernel_rfl
 |4,_=>by kernel_rfl
theorem vA(k j:Nat)(a:j<5)(w:World):(Instr.index 301 (.agg #[I T (fC k 0),I T (fC k 1),I T (fC k 2),I T (fC k 3),I T (fC k 4)]) (I T (j:Int))).run pG w=.ok (I T (fC k j)) w:=by
 rw[NR _ _ _ _ _ w j a];match j,a with
 |0,_|1,_|2,_|3,_|4,_=>rfl
theorem xQ(k:Nat)(f e b wa p s q bl v:Int)(a:Option Addr)(n c:Nat)(w:World)(h1:1<=k)(h2:k<=10)(h3:0<=f)(h4:f<5)(m:dU w):Calls pG 211 #[.agg #[I T k,I T f,I T e,I T b,I T wa,I T p,I T s,I T q,I T bl,I T v,J a n c]] w fun r w'=> r=.returned (.bool (iG k [0,e,b,wa,p,s,q,bl,v,n]))/\Below w.heap.size w w':=by
 have d1:decide ((k:Int)<1)=false:=by simp;omega
 have d2:decide ((10:Int)<(k:Int))=false:=by simp;omega
 have d3:decide (f<0)=false:=by simp;omega
 have d4:decide (5<=f)=false:=by simp;omega
 have tw:=m.two;have t0:0<w.heap.size:=by omega
 have t1:1<w.heap.size:=by omega
 have r0:w.cell? ⟨0,k*5,Z⟩=_:=m.lu k 0 (by omega) (by omega);have r1:=m.lu k 1 (by omega) (by omega);have r2:=m.lu k 2 (by omega) (by omega);have r3:=m.lu k 3 (by omega) (by omega);have r4:=m.lu k 4 (by omega) (by omega);go_enter func211,ntmps211;go_wp2_with fail;refine(xM _ _ _ _ _ _ _ _ _ _ _ _ _ _).mono ?_;rintro r w1 ⟨rfl,x⟩;obtain⟨B,V⟩:=wW x;have a9:w.heap.size<w1.heap.size:=by have:=x.size;simp at this;omega
 have g0:0<w1.heap.size:=by omega
 have g1:1<w1.heap.size:=by omega
 go_wp2_with fail;have Q:dU w1:=(m.below (a_ w _) (by omega)).below x (by simp;omega);have H:Below w.heap.size w w1:=(a_ w _).trans (x.mono (by simp));clear B V x r0 r1 r2 r3 r4 m tw t0 t1;go_loopw [30] (fun i wr=>∃(j:Nat) (arr:List Int),j<=5/\i=I T j/\arr.length=10/\iR (eU k) [0,e,b,wa,p,s,q,bl,v,(n:Int)]=iR ((eU k).drop j) arr/\
    (∀t,t<10->wr.cell? ⟨w1.heap.size,t,Z⟩=Y (I T (arr.getD t 0)))/\(∀t,t<10->wr.frozen? ⟨w1.heap.size,t,Z⟩=false)/\Below w1.heap.size w1 wr)
  (fun i _=>5 - (intOf i).toNat)
 case atStart=>
  refine⟨0,[0,e,b,wa,p,s,q,bl,v,n],by omega,rfl,rfl,rfl,?_,?_,a_ _ _⟩
  ·intro t m;match t,m with
   |0,_=>simp[go_sem]
   |1,_=>simp[go_sem]
   |2,_=>simp[go_sem]
   |3,_=>simp[go_sem]
   |4,_=>simp[go_sem]
   |5,_=>simp[go_sem]
   |6,_=>simp[go_sem]
   |7,_=>simp[go_sem]
   |8,_=>simp[go_sem]
   |9,_=>simp[go_sem]
  ·intro t m;simp[go_sem]
 case round=>
  obtain⟨j,arr,hj,rfl,D,l,d,g,u⟩:=hrel;by_cases E:j<5
  ·have o:=FU k j (by omega) E;have K:=uN k j (by omega) E;have a5:∀w,(Instr.index 301 (.agg #[I T (fC k 0),I T (fC k 1),I T (fC k 2),I T (fC k 3),I T (fC k 4)]) (I T (j:Int))).run pG w=.ok (I T (fC k j)) w:=vA k j E;have C:=Q.below u (by omega);have cl:=(C.lim (fC k j) K).1;have cu:=(C.lim (fC k j) K).2;have cF:=d (fC k j) K;have fF:=g (fC k j) K;rw[o]at l;generalize fC k j=F at*;generalize hA:arr.getD F 0=A at*;generalize hL:jV F=L at*;generalize hU:jW F=U1 at*;have M:=dA hA;have HL:=dA hL;have HU:=dA hU;have HR:Hid _:=l;have HC:Hid _:=d;have HZ:Hid _:=g;clear hA hL hU l d g o C;by_cases z:A<L
   ·have h:Hid (iG k [0,e,b,wa,p,s,q,bl,v,n]=false):=by unfold Hid iG;rw[HR.out];rw[←M.out,←HL.out]at z;unfold iR;rw[if_pos (Or.inl z)]
    go_wp2;go_quiet (fail);go_wp2;go_ret;exact⟨by rw[h.out];rfl,H.trans ((below_drewN u _).mono (by omega))⟩
   ·have a6:decide (A<L)=false:=by simpa using z
    by_cases y:U1<A
    ·have h:Hid (iG k [0,e,b,wa,p,s,q,bl,v,n]=false):=by unfold Hid iG;rw[HR.out];rw[←HU.out,←M.out]at y;unfold iR;rw[if_pos (Or.inr y)]
     go_wp2;go_quiet (fail);go_wp2;go_ret;exact⟨by rw[h.out];rfl,H.trans ((below_drewN u _).mono (by omega))⟩
    ·have a7:decide (U1<A)=false:=by simpa using y
     go_wp2;have a1:Hid (iR (eU k) [0,e,b,wa,p,s,q,bl,v,(n:Int)]=iR ((eU k).drop (j+1)) (arr.set F 0)):=by
      unfold Hid;rw[HR.out];rw[←HU.out,←M.out]at y;rw[←M.out,←HL.out]at z;conv=>lhs;unfold iR
      rw[if_neg (by omega)]
     go_quiet (fail);go_wp2;go_roundw;case rel=>exact⟨j+1,arr.set F 0,by omega,by go_num,by simpa using D,a1,yW D F K 0 (fun _=>rfl) HC,fun t m=>by simpa using HZ.out t m,(below_drewN u _).setCell r_ _⟩
     case measure=>simp[intOf];omega
  ·have W:=d 0 (by omega);have B:=d 1 (by omega);have a4:=d 2 (by omega);have R:=d 3 (by omega);have a3:=d 4 (by omega);have a0:=d 5 (by omega);have N:=d 6 (by omega);have X:=d 7 (by omega);have O:=d 8 (by omega);have a2:=d 9 (by omega);match arr,D with
   | [x0,x1,x2,x3,x4,x5,x6,x7,x8,x9],_=>
    have a8:=fun w=>O3 x0 x1 x2 x3 x4 x5 x6 x7 x8 x9 w;simp only[List.getD_eq_getElem?_getD,List.getElem?_cons_zero,List.getElem?_cons_succ,Option.getD_some]at W B a4 R a3 a0 N X O a2;have h:Hid (iG k [0,e,b,wa,p,s,q,bl,v,n]=oW [x0,x1,x2,x3,x4,x5,x6,x7,x8,x9]):=by
     have S:j=5:=by omega
     subst S;have U:(eU k).drop 5=[]:=by
      have:∀k<11,(eU k).drop 5=[]:=by decide
      exact this k (by omega)
     unfold iG;rw[l,U];rfl
    clear l d g;go_wp2;go_ret;exact⟨by rw[h.out];rfl,H.trans (u.mono (by omega))⟩
def oB(s:Int×Int)(x:UInt8):Int×Int:=((s.1+(x.toNat:Int))%65521,(s.2+(s.1+(x.toNat:Int))%65521)%65521)
def i7(bs:List UInt8):Int×Int:=bs.foldl oB (1,0)
theorem FV(s:Int×Int)(x:UInt8):0<=(oB s x).1/\(oB s x).1<65521/\0<=(oB s x).2/\(oB s x).2<65521:=by unfold oB;simp only;omega
theorem yG(a:List UInt8)(x:UInt8):i7 (a++[x])=oB (i7 a) x:=by simp[i7]
theorem I7(a:List UInt8):0<=(i7 a).1/\(i7 a).1<65521/\0<=(i7 a).2/\(i7 a).2<65521:=by
 rcases List.eq_nil_or_concat a with rfl|⟨l,x,rfl⟩;·simp[i7]
 ·rw[List.concat_eq_append,yG];exact FV _ _
theorem yX(a:List UInt8)(k:Nat)(h:k<a.length):a.take (k+1)=a.take k++[a[k]]:=by rw[List.take_succ_eq_append_getElem h]
theorem I8(c a:Int)(f:0<=c)(j:c<65536)(g:0<=a)(k:a<65536):bits .or .i64 (c*65536) a=65536*c+a:=by
 obtain⟨C,rfl⟩:=Int.eq_ofNat_of_zero_le f;obtain⟨A,rfl⟩:=Int.eq_ofNat_of_zero_le g;have d:(BitVec.ofInt 64 ((C:Int)*65536)).toNat=C*65536:=by rw[show(C:Int)*65536=((C*65536:Nat):Int) by omega,BitVec.ofInt_natCast,BitVec.toNat_ofNat];exact Nat.mod_eq_of_lt (by omega)
 have e:(BitVec.ofInt 64 (A:Int)).toNat=A:=by rw[BitVec.ofInt_natCast,BitVec.toNat_ofNat];exact Nat.mod_eq_of_lt (by omega)
 have h:C*65536 ||| A=C*65536+A:=by have:=Nat.shiftLeft_add_eq_or_of_lt (i:=16) (b:=A) (by omega) C;rw[Nat.shiftLeft_eq]at this;exact this.symm
 show IntKind.i64.wrap ((BitVec.ofInt 64 ((C:Int)*65536) ||| BitVec.ofInt 64 (A:Int)).toNat:Int)=_;rw[BitVec.toNat_or,d,e,h,IntKind.wrap_i64];omega
def jb(w:World)(v:Value)(bs:List UInt8):Prop:=
 ∃ao cap,v=J ao bs.length cap/\bs.length<=cap/\cap<=maxLen/\(bs=[]∨∃g off,ao=Y ⟨g,off,Z⟩/\∀j (h:j<bs.length),w.cell? ⟨g,off+j,Z⟩=Y (.int .u8 (bs[j].toNat:Int)))
theorem I9(b:List UInt8)(g off l:Nat)(w:World)(m:b.length<=140737488355328)(o:∀j (h:j<b.length),w.cell? ⟨g,off+j,Z⟩=Y (.int .u8 (b[j].toNat:Int))):Calls pG 214 #[J (Y ⟨g,off,Z⟩) b.length l] w fun e w'=>e=.returned (I T (65536*(i7 b).2+(i7 b).1))/\w'=w:=by
 go_enter func214,ntmps214;go_wp2;go_loop [3,4,9] (fun a c i=>∃k:Nat,k<=b.length/\i=I T k/\a=I T (i7 (b.take k)).1/\c=I T (i7 (b.take k)).2) (fun _ _ i=>b.length - (intOf i).toNat);case atStart=>exact⟨0,Nat.zero_le _,rfl,rfl,rfl⟩
 case round=>
  obtain⟨k,p,rfl,rfl,rfl⟩:=hrel;have f:=I7 (b.take k);by_cases d:k<b.length
  ·have H:Hid (i7 (b.take (k+1))=oB (i7 (b.take k)) b[k]):=by rw[yX b k d];exact yG _ _
   have q:(b[k].toNat:Int)<256:=by have:=b[k].toNat_lt;omega
   have n:=o k d;go_wp2;go_round;case rel=>exact⟨k+1,by omega,by go_num,by rw[H.out];rfl,by rw[H.out];rfl⟩
   case measure=>simp[intOf];omega
  ·go_wp2;go_ret;exact⟨oV (by rw[List.take_of_length_le (by omega)]at f⊢;exact I8 _ _ f.2.2.1 (by omega) f.1 (by omega)),rfl⟩
theorem JA(b:Option Addr)(a:Nat)(w:World):Calls pG 214 #[J b 0 a] w fun e w'=>e=.returned (I T 1)/\w'=w:=by go_enter func214,ntmps214;go_wp2;refine wp_loop_rounds 1 ?_;rw[rounds_succ];go_wp2;go_ret;exact⟨oV (by kernel_rfl),rfl⟩
theorem K4(b:List UInt8)(v:Value)(w:World)(c:b.length<=140737488355328)(d:jb w v b):Calls pG 214 #[v] w fun e w'=>e=.returned (I T (65536*(i7 b).2+(i7 b).1))/\w'=w:=by
 obtain⟨f,a,rfl,_,_,rfl|⟨g,off,rfl,h⟩⟩:=d;·exact JA f a w
 ·exact I9 b g off a w c h
def jB(n:Int)(i:Nat):UInt8:=UInt8.ofNat (n / 2 ^ (8*i)%256).toNat
def be(n:Int):Nat->List UInt8
 |0=>[]
 |k+1=>jB n k::be n k
theorem lA(n:Int)(k:Nat):(be n k).length=k:=by induction k with
 |zero=>rfl
 |succ k ih=>simp[be,ih]
theorem NS:(Tryz.prog.info? 5).map (fun i=>(i.zero,i.size,i.bytes))=Y (Y (.int .u8 0),1,1):=by kernel_rfl
def gU(l:List UInt8):List Value:=l.map fun x=>Value.int .u8 (x.toNat:Int)
theorem E4(n:Int)(k:Nat)(a:k<8):IntKind.u64.wrap n / 2 ^ (8*k)%256=((jB n k).toNat:Int):=by
 have e:((jB n k).toNat:Int)=n / 2 ^ (8*k)%256:=by unfold jB;rw[UInt8.toNat_ofNat'];have c:0<=n / 2 ^ (8*k)%256:=Int.emod_nonneg _ (by omega);have b:n / 2 ^ (8*k)%256<256:=Int.emod_lt_of_pos _ (by omega);omega
 rw[e,IntKind.wrap_u64];match k,a with
 |0,_=>simp only[Nat.mul_zero,Int.pow_zero];omega
 |1,_=>show n%18446744073709551616 / 256%256=n / 256%256;omega
 |2,_=>show n%18446744073709551616 / 65536%256=n / 65536%256;omega
 |3,_=>show n%18446744073709551616 / 16777216%256=n / 16777216%256;omega
 |4,_=>show n%18446744073709551616 / 4294967296%256=n / 4294967296%256;omega
 |5,_=>show n%18446744073709551616 / 1099511627776%256=n / 1099511627776%256;omega
 |6,_=>show n%18446744073709551616 / 281474976710656%256=n / 281474976710656%256;omega
 |7,_=>show n%18446744073709551616 / 72057594037927936%256=n / 72057594037927936%256;omega
def gC(w:World)(base:Nat)(v:Value)(bs:List UInt8):Prop:=w.ownsRow base 5 1 v bs.length (gU bs)
theorem FW(a b:List UInt8):gU (a++b)=gU a++gU b:=by simp[gU]
theorem uH(n:Int)(b:Nat)(Q:b<=8)(base:Nat)(v:Value)(xs:List UInt8)(w:World)(H:xs.length<=1000000)(q:gC w base v xs)(f:base<=w.heap.size):Calls pG 213 #[v,I T n,I T b] w fun e w'=>∃v',e=.returned v'/\gC w' base v' (xs++be n b)/\Below base w w':=by
 obtain⟨K,hi,x,r,t⟩:=info_parts NS;go_enter func213,ntmps213;go_wp2;go_loopw [0,7] (fun s i wr=>∃(k:Nat) (dn:List UInt8),k<=b/\i=I T ((k:Int) - 1)/\dn++be n k=be n b/\gC wr base s (xs++dn)/\Below base w wr/\base<=wr.heap.size)
  (fun _ i _=>(intOf i+1).toNat)
 case atStart=>exact⟨b,[],Nat.le_refl _,rfl,rfl,by simpa using q,Below.refl _ _,f⟩
 case round=>
  obtain⟨k,dn,S,rfl,F,m,A,hs⟩:=hrel;have p:=dA F;clear F;cases k with
  |zero=>
   have dA:dn=be n b:=by simpa[be] using p.out
   subst dA;clear p;have N:∃a l c,u0=J a l c:=by
    rcases m.2 with⟨h,_⟩|⟨g,O,_,h,_⟩;·exact⟨_,_,_,h⟩
    ·exact⟨_,_,_,h⟩
   obtain⟨a,l,c,rfl⟩:=N;go_wp2;go_ret;exact⟨_,rfl,m,A⟩
  |succ k=>
   have D:=E4 n k (by omega);have o:=dA D;clear D;have L:dn.length+(k+1)=b:=by have:=congrArg List.length p;simpa[lA] using this
   go_wp2_with(at_builtin;refine wpList_append_own _ rfl _ _ 148 rfl base 5 K (.int .u8 0) 1 1 underlying148 hi x r t rfl (by decide) _ _ _ rfl (World.ownsRow.alloc m _) ⟨wr.heap.size,0,Z⟩ 1 1 [.int .u8 (IntKind.u64.wrap n / 2 ^ (8*k)%256)] rfl rfl (cell_one_new _ _ _) ?c2 ?c3 ?c4 ?c5 ?_);case c2=>intro u E;simp at E;subst E;rfl
   case c3=>unfold maxLen;simp;omega
   case c4=>simp;omega
   case c5=>simp;omega
   ·intro v' w1 d j _;rw[o.out]at d;have y:gC w1 base v' (xs++(dn++[jB n k])):=by
     unfold gC;have R:(xs++(dn++[jB n k])).length=xs.length+dn.length+1:=by simp;omega
     have M:gU (xs++(dn++[jB n k]))=gU (xs++dn)++[Value.int .u8 ((jB n k).toNat:Int)]:=by simp[gU]
     rw[R,M];exact d
    have C:=(A.alloc hs _).grown j (by simp;omega) (fun g j=>(World.ownsRow.lt m g j).1);have z:base<=w1.heap.size:=by have:=j.size;simp at this;omega
    have B:Hid ((dn++[jB n k])++be n k=be n b):=by have:=p.out;simpa[be,Hid] using this
    clear d j m A hs p o;go_wp2;go_roundw;case rel=>exact⟨k,dn++[jB n k],by omega,by go_num,B,y,C,z⟩
    case measure=>simp[intOf]
def i8(nums vals:List Int)(f:Nat):List UInt8:=
 if f=0 then[] else if f=9 then be (nums.getD 9 0) 1++vals.flatMap (fun v=>be v 8) else be (nums.getD f 0) 8
def lU(k f:Nat)(nums vals:List Int):List UInt8:=[UInt8.ofNat k,UInt8.ofNat f]++(eU k).flatMap (i8 nums vals)
def CH(b:List UInt8):Int:=65536*(i7 b).2+(i7 b).1
def jM(k f:Nat)(nums vals:List Int):List UInt8:=lU k f nums vals++be (CH (lU k f nums vals)) 4
def eX(w:World)(ao:Option Addr)(zs:List Int):Prop:=
 zs=[]∨∃g off,ao=Y ⟨g,off,Z⟩/\g<w.heap.size/\∀j (h:j<zs.length),w.cell? ⟨g,off+j,Z⟩=Y (I T zs[j])
theorem EB(n:Int)(base:Nat)(v:Value)(xs:List UInt8)(w:World)(c:xs.length<=1000000)(b:gC w base v xs)(a:base<=w.heap.size):
  Calls pG 213 #[v,I T n,I T 1] w fun e w'=>∃v',e=.returned v'/\gC w' base v' (xs++be n 1)/\Below base w w':=uH n 1 (by omega) base v xs w c b a
theorem EC(n:Int)(base:Nat)(v:Value)(xs:List UInt8)(w:World)(c:xs.length<=1000000)(b:gC w base v xs)(a:base<=w.heap.size):
  Calls pG 213 #[v,I T n,I T 4] w fun e w'=>∃v',e=.returned v'/\gC w' base v' (xs++be n 4)/\Below base w w':=uH n 4 (by omega) base v xs w c b a
theorem xN(n:Int)(base:Nat)(v:Value)(xs:List UInt8)(w:World)(c:xs.length<=1000000)(b:gC w base v xs)(a:base<=w.heap.size):
  Calls pG 213 #[v,I T n,I T 8] w fun e w'=>∃v',e=.returned v'/\gC w' base v' (xs++be n 8)/\Below base w w':=uH n 8 (by omega) base v xs w c b a
theorem uI(a:List Int):(a.flatMap (fun v=>be v 8)).length=8*a.length:=by
 induction a with
 |nil=>rfl
 |cons z a ih=>simp[lA,ih];omega
theorem D6(b a:List Int)(f:Nat)(h:a.length<=4):(i8 b a f).length<=33:=by
 unfold i8;split;·simp
 split;·rw[List.length_append,uI,lA];omega
 ·rw[lA];omega
theorem JB(b a:List Int)(h:a.length<=4)(l:List Nat):(l.flatMap (i8 b a)).length<=33*l.length:=by
 induction l with
 |nil=>simp
 |cons f l ih=>have:=D6 b a f h;rw[List.flatMap_cons,List.length_append,List.length_cons];omega
theorem sQ(k:Nat)(a:k<11):(eU k).length=5:=by
 have:∀k<11,(eU k).length=5:=by decide
 exact this k a
theorem yH(k j:Nat)(a:k<11)(b:j<5):(eU k).take (j+1)=(eU k).take j++[fC k j]:=by
 have:∀k<11,∀j<5,(eU k).take (j+1)=(eU k).take j++[fC k j]:=by decide
 exact this k a j b
def kP(k f:Nat)(nums vals:List Int)(j:Nat):List UInt8:=[UInt8.ofNat k,UInt8.ofNat f]++((eU k).take j).flatMap (i8 nums vals)
theorem yI(k f:Nat)(b a:List Int)(j:Nat)(d:k<11)(h:a.length<=4):(kP k f b a j).length<=200:=by
 have e:=JB b a h ((eU k).take j);have c:((eU k).take j).length<=5:=by rw[List.length_take,sQ k d];omega
 unfold kP;simp;simp at e c;omega
theorem E5(k f:Nat)(a b:List Int)(j:Nat)(c:k<11)(d:j<5):kP k f a b (j+1)=kP k f a b j++i8 a b (fC k j):=by unfold kP;rw[yH k j c d];simp
theorem yJ(k f:Nat)(a b:List Int)(c:k<11):kP k f a b 5=lU k f a b:=by unfold kP lU;rw[List.take_of_length_le (by rw[sQ k c];omega)]
theorem AY{w:World}(a d i h f c j b e g:Int)(t:Nat)(k:t<10):(w.alloc (.cells #[I T a,I T d,I T i,I T h,I T f,I T c,I T j,I T b,I T e,I T g] 298)).cell? ⟨w.heap.size,t,Z⟩=Y (I T ([a,d,i,h,f,c,j,b,e,g].getD t 0)):=by
 rw[World.cell?_alloc_at _ _ _ _ rfl];match t,k with
 |0,_|1,_|2,_|3,_|4,_|5,_|6,_|7,_|8,_|9,_=>rfl
theorem gC.jb{w:World}{base:Nat}{v:Value}{b:List UInt8}(h:gC w base v b):jb w v b:=by
 obtain⟨p,m⟩:=h;rcases m with⟨rfl,l⟩|⟨g,a,d,rfl,o,q,k,f,hs,r⟩;·exact⟨none,0,by simp[l],by omega,by simp[maxLen],.inl (List.eq_nil_of_length_eq_zero l)⟩
 ·refine⟨_,a,rfl,k,f,.inr ⟨g,0,rfl,fun j s=>?_⟩⟩;have i:=World.ownsRow.cells (w:=w) (base:=base) (e:=5) (size:=1) (v:=J (Y ⟨g,0,Z⟩) b.length a) (n:=b.length) (xs:=gU b) ⟨p,.inr ⟨g,a,d,rfl,o,q,k,f,hs,r⟩⟩ (g:=g) rfl j (.int .u8 (b[j].toNat:Int)) (by simp[gU,s]);have c:(⟨g,0,Z⟩:Addr).add j=⟨g,j,Z⟩:=by unfold Addr.add;split<;>simp_all
  rw[c]at i;rw[Nat.zero_add];exact i
theorem GS(a:List Int)(t:Nat)(h:t<a.length):(a.take (t+1)).flatMap (fun v=>be v 8)=(a.take t).flatMap (fun v=>be v 8)++be a[t] 8:=by rw[List.take_succ_eq_append_getElem h,List.flatMap_append];simp only[List.flatMap_cons,List.flatMap_nil,List.append_nil]
theorem gC.low{w:World}{base a:Nat}{v:Value}{f:List UInt8}(h:gC w base v f)(k:a<=base):gC w a v f:=by
 obtain⟨e,b⟩:=h;rcases b with b|⟨g,c,d,i,j,r⟩;·exact⟨e,.inl b⟩
 ·exact⟨e,.inr ⟨g,c,d,i,by omega,r⟩⟩
theorem GT(k f:Nat)(e b wa p s q bl v:Int)(a:Option Addr)(l:List Int)(c:Nat)(w:World)(h1:1<=k)(h2:k<=10)(h4:f<5)(D:dU w)(hl:l.length<=4)(hz:eX w a l)(hm:iG k [0,e,b,wa,p,s,q,bl,v,(l.length:Int)]=true):Calls pG 157 #[.agg #[I T k,I T f,I T e,I T b,I T wa,I T p,I T s,I T q,I T bl,I T v,J a l.length c]] w fun r w'=> ∃x,r=.returned (.tuple #[x,I T 0])/\gC w' w.heap.size x (jM k f [0,e,b,wa,p,s,q,bl,v,(l.length:Int)] l)/\Below w.heap.size w w':=by
 have tw:=D.two;have t0:0<w.heap.size:=by omega
 have t1:1<w.heap.size:=by omega
 have r0:w.cell? ⟨0,k*5,Z⟩=_:=D.lu k 0 (by omega) (by omega);have r1:=D.lu k 1 (by omega) (by omega);have r2:=D.lu k 2 (by omega) (by omega);have r3:=D.lu k 3 (by omega) (by omega);have r4:=D.lu k 4 (by omega) (by omega);have HM:Hid _:=hm;clear hm;go_enter func157,ntmps157;go_wp2_with fail;refine(xQ k f e b wa p s q bl v a l.length c _ h1 h2 (by omega) (by omega) (D.below (a_ w _) (by omega))).mono ?_;rintro r w1 ⟨rfl,W⟩;rw[HM.out];obtain⟨ac,aq⟩:=wW W;have ao:w.heap.size<w1.heap.size:=by have:=W.size;simp at this;omega
 have g0:0<w1.heap.size:=by omega
 have g1:1<w1.heap.size:=by omega
 go_wp2_with fail;refine(xM _ _ _ _ _ _ _ _ _ _ _ _ _ _).mono ?_;rintro r w2 ⟨rfl,U⟩;obtain⟨ah,ak⟩:=wW U;have aj:w.heap.size<w2.heap.size:=by have:=U.size;omega
 have aD:0<w2.heap.size:=by omega
 have aF:1<w2.heap.size:=by omega
 go_wp2_with fail;have C:Below w.heap.size w w2:=(a_ w _).trans ((W.mono (by simp)).trans (U.mono (by omega)));have a1:w2.cell? ⟨w.heap.size,10,Z⟩=Y (J a l.length c):=by rw[ah _ _ ao,ac _ _ (by simp),World.cell?_alloc_at _ _ _ _ rfl];rfl
 have X:=fun t D=>AY (w:=w2) 0 e b wa p s q bl v (l.length:Int) t D;have a2:dU w2:=D.below C (by omega);generalize hN:[0,e,b,wa,p,s,q,bl,v,(l.length:Int)]=d at*;generalize hX:w2.alloc (G #[I T 0,I T e,I T b,I T wa,I T p,I T s,I T q,I T bl,I T v,I T (l.length:Int)] 298)=W3 at*;have O:W3.heap.size=w2.heap.size+1:=by rw[←hX];simp
 have u:Below w2.heap.size w2 W3:=by rw[←hX];exact a_ _ _
 have ag:gC (W3.alloc (G #[Value.int IntKind.u8 ↑k,Value.int IntKind.u8 ↑f] 5)) (w2.heap.size+1) (J (some {block:=w2.heap.size+1,off:=0}) 2 2) (kP k f d l 0):=by
  refine⟨by simp[kP,gU],.inr ⟨_,2,_,rfl,Nat.le_refl _,by rw[←O];exact heap_alloc_new W3 _,by simp[kP],by simp[maxLen],by simp,?_⟩⟩;have e1:((UInt8.ofNat k).toNat:Int)=k:=by rw[UInt8.toNat_ofNat'];omega
  have e2:((UInt8.ofNat f).toNat:Int)=f:=by rw[UInt8.toNat_ofNat'];omega
  simp only[kP,gU,List.take_zero,List.flatMap_nil,List.append_nil,List.map_cons,List.map_nil,e1,e2];rfl
 have H:Below (w2.heap.size+1) W3 (W3.alloc (G #[Value.int IntKind.u8 ↑k,Value.int IntKind.u8 ↑f] 5)):=b_.alloc (by omega) _;have az:(W3.alloc (G #[Value.int IntKind.u8 ↑k,Value.int IntKind.u8 ↑f] 5)).heap.size=w2.heap.size+2:=by simp[O]
 generalize W3.alloc (G #[Value.int IntKind.u8 ↑k,Value.int IntKind.u8 ↑f] 5)=R at*;have aw:dU R:=(a2.below u (by omega)).below H (by omega);have a4:∀t,t<10->R.cell? ⟨w2.heap.size,t,Z⟩=Y (I T (d.getD t 0)):=fun t D=>(H.cell (by show w2.heap.size<_;omega)).trans (X t D);have a3:R.cell? ⟨w.heap.size,10,Z⟩=Y (J a l.length c):=(H.cell (by show w.heap.size<_;omega)).trans ((u.cell (by exact aj)).trans a1);have A:l=[]∨∃g off,a=Y ⟨g,off,Z⟩/\g<w2.heap.size/\∀j (h:j<l.length),R.cell? ⟨g,off+j,Z⟩=Y (I T l[j]):=by
  rcases hz with h|⟨g,off,h1,h2,h3⟩;·exact .inl h
  ·exact .inr ⟨g,off,h1,by omega,fun j hj=>(H.cell (by show g<_;omega)).trans ((u.cell (by show g<_;omega)).trans ((C.cell (by exact h2)).trans (h3 j hj)))⟩
 have a5:Below w.heap.size w R:=C.trans ((u.mono (by omega)).trans (H.mono (by omega)));clear ac aq ah ak W U r0 r1 r2 r3 r4 D tw t0 t1 hX X a2 u H a1 C hz O;generalize hB:w2.heap.size=B at*;have HN:Hid _:=hN;clear hN hB HM;go_loopw [5,26] (fun o i wr=>∃(j:Nat),j<=5/\i=I T j/\gC wr (B+1) o (kP k f d l j)/\Below (B+1) R wr) (fun _ i _=>5 - (intOf i).toNat);case atStart=>exact⟨0,by omega,rfl,ag,Below.refl _ _⟩
 case round=>
  obtain⟨j,hj,rfl,ho,n⟩:=hrel;have a0:=yI k f d l j (by omega) hl;have au:=n.size;by_cases a7:j<5
  ·have ay:∀w,(Instr.index 301 (.agg #[I T (fC k 0),I T (fC k 1),I T (fC k 2),I T (fC k 3),I T (fC k 4)]) (I T (j:Int))).run pG w=.ok (I T (fC k j)) w:=vA k j a7;have hF:=uN k j (by omega) a7;have HS:Hid _:=E5 k f d l j (by omega) a7;have av:wr.cell? ⟨B,fC k j,Z⟩=Y (I T (d.getD (fC k j) 0)):=(n.cell (by show B<_;omega)).trans (a4 _ hF);have a9:wr.cell? ⟨w.heap.size,10,Z⟩=Y (J a l.length c):=(n.cell (by show w.heap.size<_;omega)).trans a3;generalize fC k j=F at*;generalize kP k f d l j=L at*;by_cases a6:F=0
   ·subst a6;go_wp2;go_roundw;case rel=>exact⟨j+1,by omega,by go_num,by rw[HS.out];simpa[i8] using ho,n⟩
    case measure=>simp[intOf];omega
   by_cases ai:F=9
   ·subst ai;have V:Hid (kP k f d l (j+1)=L++be (d.getD 9 0) 1++l.flatMap (fun v=>be v 8)):=by unfold Hid;rw[HS.out];simp[i8]
    clear HS hF a6;generalize d.getD 9 0=N at*;go_wp2_with fail;refine(EB N (B+1) _ L _ (by omega) ho (by omega)).mono ?_;rintro r w5 ⟨v5,rfl,Q,K⟩;have ax:w5.cell? ⟨w.heap.size,10,Z⟩=Y (J a l.length c):=(K.cell (by show w.heap.size<_;omega)).trans a9;have m:Below (B+1) R w5:=n.trans K;have aA:=m.size;have aB:(L++be N 1).length<=201:=by rw[List.length_append,lA];omega
    generalize L++be N 1=y at*;clear a9 K ho n av a0 au;go_wp2_with fail;go_loopw [5,47] (fun o i wr=>∃(t:Nat),t<=l.length/\i=I T t/\gC wr (B+1) o (y++(l.take t).flatMap (fun v=>be v 8))/\Below (B+1) R wr) (fun _ i _=>l.length - (intOf i).toNat);case atStart=>exact⟨0,Nat.zero_le _,rfl,by simpa using Q,m⟩
    case round=>
     obtain⟨t,D,rfl,M,z⟩:=hrel;have aC:=z.size;by_cases a8:t<l.length
     ·obtain⟨g,off,rfl,hg,ae⟩:∃g off,a=Y ⟨g,off,Z⟩/\g<B/\∀j (h:j<l.length),R.cell? ⟨g,off+j,Z⟩=Y (I T l[j]):=by
       rcases A with h|h;·subst h;simp at a8
       ·exact h
      have aE:wr.cell? ⟨g,off+t,Z⟩=Y (I T l[t]):=(z.cell (by show g<_;omega)).trans (ae t a8);have HT:Hid (y++(l.take (t+1)).flatMap (fun v=>be v 8)=(y++(l.take t).flatMap (fun v=>be v 8))++be l[t] 8):=by unfold Hid;rw[GS l t a8,List.append_assoc]
      have ap:(y++(l.take t).flatMap (fun v=>be v 8)).length<=1000000:=by rw[List.length_append,uI,List.length_take];omega
      generalize y++(l.take t).flatMap (fun v=>be v 8)=aa at*;clear ae Q m A;generalize l[t]=Z1 at*;go_wp2_with fail;refine(xN Z1 (B+1) _ aa _ ap M (by omega)).mono ?_;rintro r w7 ⟨v7,rfl,an,ab⟩;have ad:=z.trans ab;clear M z ab;go_wp2;go_roundw;case rel=>exact⟨t+1,by omega,by go_num,by rw[HT.out];exact an,ad⟩
      case measure=>simp[intOf];omega
     ·have af:l.take t=l:=List.take_of_length_le (by omega);rw[af]at M;rw[←V.out]at M;clear af Q m V;go_wp2;go_roundw;case rel=>exact⟨j+1,by omega,by go_num,M,z⟩
      case measure=>simp[intOf];omega
   ·have n0:((F:Int)==0)=false:=by simp;omega
    have n9:((F:Int)==9)=false:=by simp;omega
    have V:Hid (kP k f d l (j+1)=L++be (d.getD F 0) 8):=by unfold Hid;rw[HS.out];simp[i8,a6,ai]
    clear HS;generalize d.getD F 0=N at*;go_wp2_with fail;refine(xN N (B+1) _ L _ (by omega) ho (by omega)).mono ?_;rintro r w5 ⟨v5,rfl,Q,K⟩;have m:Below (B+1) R w5:=n.trans K;clear ho n K;go_wp2;go_roundw;case rel=>exact⟨j+1,by omega,by go_num,by rw[V.out];exact Q,m⟩
    case measure=>simp[intOf];omega
  ·have am:j=5:=by omega
   subst am;rw[yJ k f d l (by omega)]at ho a0;have HE:Hid (jM k f d l=lU k f d l++be (65536*(i7 (lU k f d l)).2+(i7 (lU k f d l)).1) 4):=rfl;generalize lU k f d l=E at*;go_wp2_with fail;refine(K4 E _ _ (by omega) ho.jb).mono ?_;rintro r w8 ⟨rfl,rfl⟩;generalize 65536*(i7 E).2+(i7 E).1=S at*;go_wp2_with fail;refine(EC S (B+1) _ E _ (by omega) ho (by omega)).mono ?_;rintro r w9 ⟨v9,rfl,ar,al⟩;go_wp2;go_ret2;refine⟨v9,rfl,?_,a5.trans ((n.trans al).mono (by omega))⟩;rw[HN.out,HE.out];exact ar.low (by omega)
def fD(k f:Int)(nums:List Int):Bool:=!nK k f&&iG k.toNat nums
theorem ED(k f e b wa p s q bl v:Int)(a:Option Addr)(n c:Nat)(w:World)(g:dU w):Calls pG 211 #[.agg #[I T k,I T f,I T e,I T b,I T wa,I T p,I T s,I T q,I T bl,I T v,J a n c]] w fun r w'=> r=.returned (.bool (fD k f [0,e,b,wa,p,s,q,bl,v,n]))/\Below w.heap.size w w':=by
 by_cases h:k<1∨10<k∨f<0∨5<=f
 ·have d:fD k f [0,e,b,wa,p,s,q,bl,v,n]=false:=by simp only[fD,nK,h,decide_true,Bool.not_true,Bool.false_and]
  rw[d];exact EA k f e b wa p s q bl v a n c w h
 ·have d:fD k f [0,e,b,wa,p,s,q,bl,v,n]=iG k.toNat [0,e,b,wa,p,s,q,bl,v,n]:=by simp only[fD,nK,h,decide_false,Bool.not_false,Bool.true_and]
  rw[d];obtain⟨K,rfl⟩:=Int.eq_ofNat_of_zero_le (show 0<=k by omega);exact xQ K f e b wa p s q bl v a n c w (by omega) (by omega) (by omega) (by omega) g
theorem uQ(k f e b wa p s q bl v:Int)(a:Option Addr)(n c:Nat)(w:World)(h:dU w)(g:fD k f [0,e,b,wa,p,s,q,bl,v,(n:Int)]=false):Calls pG 157 #[.agg #[I T k,I T f,I T e,I T b,I T wa,I T p,I T s,I T q,I T bl,I T v,J a n c]] w fun r w'=> r=.returned (.tuple #[J Z 0 0,I T 1])/\Below w.heap.size w w':=by have l:=h.two;have j:Hid _:=g;clear g;go_enter func157,ntmps157;go_wp2_with fail;refine(ED k f e b wa p s q bl v a n c _ (h.below (a_ w _) (by omega))).mono ?_;rintro r w1 ⟨rfl,d⟩;rw[j.out];have i:=(a_ w _).trans (d.mono (by simp));go_wp2;go_ret2;exact⟨rfl,i⟩
def kG(bs:List UInt8):Nat:=bs.foldl (fun n x=>n*256+x.toNat) 0
theorem yK(a:List UInt8)(x:UInt8):kG (a++[x])=kG a*256+x.toNat:=by simp[kG]
theorem JC:∀(a:List UInt8),kG a<256 ^ a.length:=by
 intro a;have b:∀(n:Nat) (a:List UInt8),a.length=n->kG a<256 ^ n:=by
  intro n;induction n with
  |zero=>intro a h;rw[List.eq_nil_of_length_eq_zero h];decide
  |succ n ih=>
   intro a h;rcases List.eq_nil_or_concat a with rfl|⟨l,x,rfl⟩;·simp at h
   ·rw[List.concat_eq_append]at h⊢;have c:l.length=n:=by simpa using h
    have:=ih l c;have d:=x.toNat_lt;rw[yK,Nat.pow_succ];omega
 exact b _ a rfl
theorem GU(a:List UInt8)(h:a.length<=7):kG a<72057594037927936:=by
 have b:=JC a;have c:256 ^ a.length<=256 ^ 7:=Nat.pow_le_pow_right (by omega) h;have d:(256:Nat) ^ 7=72057594037927936:=by decide
 omega
def oX(bs:List UInt8):Int:=wrap64 (kG bs:Int)
structure dH(B:Nat)(w w':World):Prop where
 os:w'.os=w.os
 tape:w'.tape=w.tape
 output:w'.output=w.output
 size:w'.heap.size=w.heap.size
 block:∀k,k≠B->w'.heap[k]?=w.heap[k]?
theorem dH.setCell(w:World)(a:Addr)(u:Value):dH a.block w (w.setCell a u):=⟨rfl,rfl,rfl,by simp[World.setCell],fun k b=>Below.heap_setCell _ _ _ _ b⟩
theorem dH.cell{B:Nat}{w w':World}(h:dH B w w'){p:Addr}(a:p.block≠B):w'.cell? p=w.cell? p:=World.cell?_of_block (w:=w) (h.block p.block a)
theorem dH.frozen{B:Nat}{w w':World}(h:dH B w w'){p:Addr}(a:p.block≠B):w'.frozen? p=w.frozen? p:=World.frozen?_of_block (w:=w) (h.block p.block a)
theorem dH.below{B C:Nat}{w w':World}(h:dH B w w')(b:C<=B):Below C w w':=⟨h.os,h.tape,h.output,by rw[h.size];exact Nat.le_refl _,fun k a=>h.block k (by omega)⟩
theorem JE(n:Nat)(x:UInt8)(d:n<72057594037927936):bits .or .u64 ((n:Int)*256) (x.toNat:Int)=((n*256+x.toNat:Nat):Int):=by
 have c:=x.toNat_lt;have e:=u64_or_nat (n*256) x.toNat (by omega) (by omega);have a:n*256 ||| x.toNat=n*256+x.toNat:=by have:=Nat.shiftLeft_add_eq_or_of_lt (i:=8) (b:=x.toNat) (by omega) n;rw[Nat.shiftLeft_eq]at this;exact this.symm
 rw[a]at e;rw[←e];rfl
theorem EI(B:Nat)(c:Option Addr)(n b a:Nat)(w:World)(d:n<a)(_hw8:a<=8)(f:w.cell? ⟨B,0,Z⟩=Y (J c n b))(g:w.frozen? ⟨B,0,Z⟩=false):Calls pG 250 #[P0 (Y ⟨B,0,Z⟩),I T a] w fun e w'=>e=.returned (I T 0)/\w'=w.setCell ⟨B,0,Z⟩ (J Z 0 0):=by go_enter func250,ntmps250;go_wp2;go_ret;exact⟨rfl,rfl⟩
theorem E6(B g off c:Nat)(b:List UInt8)(a:Nat)(w:World)(y:1<=a)(u:a<=8)(r:a<=b.length)(m:b.length<=c)(o:c<=maxLen)(C:w.cell? ⟨B,0,Z⟩=Y (J (Y ⟨g,off,Z⟩) b.length c))(D:w.frozen? ⟨B,0,Z⟩=false)(f:∀j (h:j<b.length),w.cell? ⟨g,off+j,Z⟩=Y (.int .u8 (b[j].toNat:Int))):Calls pG 250 #[P0 (Y ⟨B,0,Z⟩),I T a] w fun e w'=>e=.returned (I T (oX (b.take a)))/\∃l,w'=w.setCell ⟨B,0,Z⟩ (J l (b.length - a) (c - a))/\(b.length≠a->l=Y ⟨g,off+a,Z⟩):=by
 unfold maxLen at o;have dn:decide (b.length<a)=false:=by simp;omega
 go_enter func250,ntmps250;go_wp2;go_loop [5,25] (fun n i=>∃t:Nat,t<=a/\i=I T t/\n=.int .u64 (kG (b.take t):Int)) (fun _ i=>a - (intOf i).toNat);case atStart=>exact⟨0,Nat.zero_le _,rfl,rfl⟩
 case round=>
  obtain⟨t,s,rfl,rfl⟩:=hrel;by_cases p:t<a
  ·have k:=GU (b.take t) (by rw[List.length_take];omega);have x:=f t (by omega);have v:Hid (kG (b.take (t+1))=kG (b.take t)*256+b[t].toNat):=by unfold Hid;rw[yX b t (by omega),yK]
   have z:Hid _:=JE (kG (b.take t)) b[t] k;have E:(b[t].toNat:Int)<256:=by have:=b[t].toNat_lt;omega
   have A:t<b.length:=by omega
   generalize q:b[t]=X at*;generalize kG (b.take t)=N at*;clear q f;go_wp2;go_round;case rel=>exact⟨t+1,by omega,by go_num,by rw[v.out];exact congrArg (Value.int .u64) z⟩
   case measure=>simp[intOf];omega
  ·have d:t=a:=by omega
   subst d;clear f;go_wp2;·go_ret;exact⟨rfl,_,rfl,fun h=>by omega⟩
   ·go_ret;exact⟨rfl,_,rfl,fun _=>rfl⟩
def gG(w:World)(lim:Nat)(v:Value)(bs:List UInt8):Prop:=
 ∃ao cap,v=J ao bs.length cap/\bs.length<=cap/\cap<=maxLen/\(bs=[]∨∃g off,ao=Y ⟨g,off,Z⟩/\g<lim/\∀j (h:j<bs.length),w.cell? ⟨g,off+j,Z⟩=Y (.int .u8 (bs[j].toNat:Int)))
def iF(bs:List UInt8)(width:Nat):Int:=if bs.length<width then 0 else oX (bs.take width)
def iB(bs:List UInt8)(width:Nat):List UInt8:=if bs.length<width then[] else bs.drop width
theorem yL(B d:Nat)(v:Value)(c:List UInt8)(a:Nat)(w:World)(p:1<=a)(i:a<=8)(s:d<=B)(k:w.cell? ⟨B,0,Z⟩=Y v)(l:w.frozen? ⟨B,0,Z⟩=false)(x:gG w d v c):Calls pG 250 #[P0 (Y ⟨B,0,Z⟩),I T a] w fun e w'=>e=.returned (I T (iF c a))/\∃v',w'.cell? ⟨B,0,Z⟩=Y v'/\w'.frozen? ⟨B,0,Z⟩=false/\gG w' d v' (iB c a)/\dH B w w':=by
 obtain⟨n,f,rfl,u,t,A⟩:=x;unfold iF iB;by_cases b:c.length<a;·rw[if_pos b,if_pos b];refine(EI B n c.length f a w b i k l).mono ?_;rintro e w' ⟨rfl,rfl⟩;exact⟨rfl,_,World.cell?_setCell_same _ _ _ k,by simpa using l,⟨none,0,rfl,Nat.le_refl _,by simp[maxLen],.inl rfl⟩,dH.setCell w ⟨B,0,Z⟩ _⟩
 ·rw[if_neg b,if_neg b];rcases A with rfl|⟨g,off,rfl,y,r⟩;·simp at b;omega
  refine(E6 B g off f c a w p i (by omega) u t k l r).mono ?_;rintro e w' ⟨rfl,n,rfl,o⟩;refine⟨rfl,_,World.cell?_setCell_same _ _ _ k,by simpa using l,⟨n,f - a,by simp,by simp;omega,by omega,?_⟩,dH.setCell w ⟨B,0,Z⟩ _⟩;by_cases q:c.length=a;·exact .inl (by simp[q])
  ·refine .inr ⟨g,off+a,o q,y,fun j z=>?_⟩;rw[World.cell?_setCell_other _ _ _ _ (by intro h;have:=congrArg Addr.block h;simp at this;omega)];have m:a+j<c.length:=by rw[List.length_drop]at z;omega
   have:=r (a+j) m;rw[Nat.add_assoc,this,List.getElem_drop]
end Go.Proofs.YtdcainmlcpafbaaGreatDoor
