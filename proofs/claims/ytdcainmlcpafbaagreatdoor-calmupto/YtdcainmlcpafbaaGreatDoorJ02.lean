import Derived.Test.YtdcainmlcpafbaaGreatDoorJ01
import Derived.Deep.CutRange
import Derived.Deep.RegionHeld3
set_option linter.all false
set_option maxHeartbeats 40000000
set_option maxRecDepth 20000
namespace Go.Proofs.YtdcainmlcpafbaaGreatDoor
open Go.RowKit
open Value renaming slice->J,pointer->P0
open Tryz
open Tryz renaming prog->pG
open IntKind renaming i64->T
open Option renaming none->Z,some->Y
open Obj renaming cells->G
section
open Value (bool)
def oC(n:Int)(k:Nat):((jO n k).toNat:Int)=n / 2 ^ (8*k)%256:=by unfold jO;rw[UInt8.toNat_ofNat'];have b:0<=n / 2 ^ (8*k)%256:=Int.emod_nonneg _ oG;have a:n / 2 ^ (8*k)%256<256:=Int.emod_lt_of_pos _ oG;omega
def J1(n:Int):(k8 (be n 8):Int)=n%18446744073709551616:=by have d:((jO n 0).toNat:Int)=n / 1%256:=oC n 0;have b:((jO n 1).toNat:Int)=n / 256%256:=oC n 1;have g:((jO n 2).toNat:Int)=n / 65536%256:=oC n 2;have h:((jO n 3).toNat:Int)=n / 16777216%256:=oC n 3;have f:((jO n 4).toNat:Int)=n / 4294967296%256:=oC n 4;have c:((jO n 5).toNat:Int)=n / 1099511627776%256:=oC n 5;have e:((jO n 6).toNat:Int)=n / 281474976710656%256:=oC n 6;have a:((jO n 7).toNat:Int)=n / 72057594037927936%256:=oC n 7;simp only[be,k8,List.foldl_cons,List.foldl_nil];omega
def I8(n:Int)(a:-9223372036854775808<=n)(b:n<=9223372036854775807):qI (be n 8)=n:=by unfold qI;rw[J1];unfold wrap64;omega
def FL(n:Int)(r:List UInt8)(a:-9223372036854775808<=n)(b:n<=9223372036854775807):iR (be n 8++r) 8=n:=by unfold iR;rw[if_neg (by simp[lX]),List.take_left' (lX n 8),I8 n a b]
def FM(n:Int)(r:List UInt8):iM (be n 8++r) 8=r:=by unfold iM;rw[if_neg (by simp[lX]),List.drop_left' (lX n 8)]
def zD(x:UInt8)(r:List UInt8):iR (x::r) 1=(x.toNat:Int):=by have a:=x.toNat_lt;unfold iR;rw[if_neg sG];simp only[qI,List.take_succ_cons,List.take_zero,k8,List.foldl_cons,List.foldl_nil];rw[IntWalk.wrap64_in _ oG];omega
def vK(x:UInt8)(r:List UInt8):iM (x::r) 1=r:=by unfold iM;rw[if_neg sG];rfl
def S9(n:Nat)(h:n<256):be (n:Int) 1=[UInt8.ofNat n]:=by
 have e:jO (n:Int) 0=UInt8.ofNat n:=by
  apply UInt8.toNat_inj.1;have a:=oC (n:Int) 0;have:((UInt8.ofNat n).toNat:Int)=n:=by rw[UInt8.toNat_ofNat'];omega
  simp at a;omega
 simp[be,e]
def IH(a:List Int)(c:∀z∈a,-9223372036854775808<=z/\z<=9223372036854775807):∀(r:List UInt8) (vs:List Int),kD a.length (a.flatMap (λv=>be v 8)++r) vs=(r,vs++a):=by
 induction a with
 |nil=>intro r vs;simp[kD]
 |cons z a ih=>intro r vs;have b:=c z sG;rw[List.length_cons,kD,List.flatMap_cons,List.append_assoc,FL z _ b.1 b.2,FM,ih (λy hy=>c y (by simp[hy]))];simp
def J2(r:List UInt8)(b a:List Int)(F:Nat)(n:Int)(f:F≠0)(c:F≠9)(e:-9223372036854775808<=n)(d:n<=9223372036854775807):kL ⟨be n 8++r,b,a⟩ F=⟨r,b.set F n,a⟩:=by unfold kL;rw[if_neg f,if_neg c];simp only[FL n r e d,FM]
def I9(a:Gs):kL a 0=a:=rfl
def JA(r:List UInt8)(b:List Int)(a:List Int)(d:a.length<=4)(c:∀z∈a,-9223372036854775808<=z/\z<=9223372036854775807):kL ⟨be (a.length:Int) 1++a.flatMap (λv=>be v 8)++r,b,[]⟩ 9=⟨r,b,a⟩:=by
 have e:((UInt8.ofNat a.length).toNat:Int)=a.length:=by rw[UInt8.toNat_ofNat'];omega
 unfold kL;rw[if_neg oG,if_pos rfl,S9 a.length oG];simp only[List.cons_append,zD,vK,e,Int.toNat_natCast,IH a c,List.nil_append]
def F8(a b:List Int):jN a b 0=[]:=rfl
def TA(a c:List Int)(F:Nat)(b:F≠0)(d:F≠9):jN a c F=be (a.getD F 0) 8:=by unfold jN;rw[if_neg b,if_neg d]
def TB(a b:List Int):jN a b 9=be (a.getD 9 0) 1++b.flatMap (λv=>be v 8):=by unfold jN;rw[if_neg oG,if_pos rfl]
def yI(nums:List Int):List Nat->List Int->List Int
 | [],N=>N
 |F::l,N=>yI nums l (if F=0 then N else N.set F (nums.getD F 0))
def nI(a i:List Int)(h:∀F,-9223372036854775808<=a.getD F 0/\a.getD F 0<=9223372036854775807)(b:List UInt8)(V:List Int):∀(l:List Nat) (N:List Int),(∀F∈l,F≠9)->l.foldl kL ⟨l.flatMap (jN a i)++b,N,V⟩=⟨b,yI a l N,V⟩:=by
 intro l;induction l with
 |nil=>intro N _;rfl
 |cons F l ih=>
  intro N e;have c:=e F sG;rw[List.foldl_cons,List.flatMap_cons];by_cases d:F=0;·subst d;rw[F8,List.nil_append,I9,ih N (λf g=>e f (by simp[g]))];rfl
  ·rw[TA a i F d c,List.append_assoc,J2 _ _ _ F _ d c (h F).1 (h F).2,ih _ (λf g=>e f (by simp[g]))];rw[yI,if_neg d]
def nK(e b wa p s q bl v n:Int)(h:∀x∈[e,b,wa,p,s,q,bl,v,n],-9223372036854775808<=x/\x<=9223372036854775807)(F:Nat):-9223372036854775808<=[0,e,b,wa,p,s,q,bl,v,n].getD F 0/\[0,e,b,wa,p,s,q,bl,v,n].getD F 0<=9223372036854775807:=by
 simp only[List.forall_mem_cons]at h;match F with
 |0=>exact⟨sG,sG⟩
 |1=>exact h.1
 |2=>exact h.2.1
 |3=>exact h.2.2.1
 |4=>exact h.2.2.2.1
 |5=>exact h.2.2.2.2.1
 |6=>exact h.2.2.2.2.2.1
 |7=>exact h.2.2.2.2.2.2.1
 |8=>exact h.2.2.2.2.2.2.2.1
 |9=>exact h.2.2.2.2.2.2.2.2.1
 |F+10=>simp
def LU(k:Nat)(a:k<11)(rest:List UInt8):jG k 5 rest=(fD k).foldl kL ⟨rest,List.replicate 10 0,[]⟩:=by unfold jG;rw[List.take_of_length_le (by rw[uB k a];omega)]
def round(k f:Nat)(e b wa p s q bl v:Int)(c:List Int)(i:1<=k)(r:k<=10)(A:f<5)(g:iS k [0,e,b,wa,p,s,q,bl,v,(c.length:Int)]=true)(w:∀z∈c,-9223372036854775808<=z/\z<=9223372036854775807):jP (kE k f [0,e,b,wa,p,s,q,bl,v,(c.length:Int)] c)=k/\lQ (kE k f [0,e,b,wa,p,s,q,bl,v,(c.length:Int)] c)=f/\oK (kE k f [0,e,b,wa,p,s,q,bl,v,(c.length:Int)] c)=[0,e,b,wa,p,s,q,bl,v,(c.length:Int)]/\(iX (kE k f [0,e,b,wa,p,s,q,bl,v,(c.length:Int)] c)).vals=c:=by
 have t:((UInt8.ofNat k).toNat:Int)=k:=by rw[UInt8.toNat_ofNat'];omega
 have o:((UInt8.ofNat f).toNat:Int)=f:=by rw[UInt8.toNat_ofNat'];omega
 generalize x:[0,e,b,wa,p,s,q,bl,v,(c.length:Int)]=d at*;obtain⟨a,h⟩:∃a,kE k f d c=UInt8.ofNat k::UInt8.ofNat f::((fD k).flatMap (jN d c)++a):=⟨be (EO (mV k f d c)) 4,by simp[kE,mV]⟩;have j:jP (kE k f d c)=k:=by rw[h];unfold jP;rw[zD,t]
 have m:lQ (kE k f d c)=f:=by rw[h];unfold lQ;rw[vK,zD,o]
 have n:iX (kE k f d c)=jG k 5 ((fD k).flatMap (jN d c)++a):=by unfold iX;rw[j,h,vK,vK];rfl
 refine⟨j,m,?_⟩;unfold oK;rw[n,LU k oG];clear j m n h;subst x;match k,i,r with
 |1,_,_=>rw[nQ]at g;obtain⟨m1,m2,rfl,rfl,rfl,rfl,rfl,rfl,m9⟩:=g;obtain rfl:c=[]:=List.eq_nil_of_length_eq_zero oG;rw[nI _ _ (nK _ _ _ _ _ _ _ _ _ (by simp only[List.forall_mem_cons];exact⟨oG,oG,oG,oG,oG,oG,oG,oG,sG,sG⟩)) a [] (fD 1) _ dG];exact⟨rfl,rfl⟩
 |2,_,_=>rw[sZ]at g;obtain⟨m1,m2,m3,m4,m5,rfl,rfl,rfl,m9⟩:=g;obtain rfl:c=[]:=List.eq_nil_of_length_eq_zero oG;rw[nI _ _ (nK _ _ _ _ _ _ _ _ _ (by simp only[List.forall_mem_cons];exact⟨oG,oG,oG,oG,oG,oG,oG,oG,sG,sG⟩)) a [] (fD 2) _ dG];exact⟨rfl,rfl⟩
 |3,_,_=>rw[nR]at g;obtain⟨m1,m2,m4,m5,rfl,rfl,rfl,rfl,m9⟩:=g;obtain rfl:c=[]:=List.eq_nil_of_length_eq_zero oG;rw[nI _ _ (nK _ _ _ _ _ _ _ _ _ (by simp only[List.forall_mem_cons];exact⟨oG,oG,oG,oG,oG,oG,oG,oG,sG,sG⟩)) a [] (fD 3) _ dG];exact⟨rfl,rfl⟩
 |4,_,_=>rw[tA]at g;obtain⟨m1,m2,rfl,rfl,rfl,rfl,rfl,rfl,m9⟩:=g;obtain rfl:c=[]:=List.eq_nil_of_length_eq_zero oG;rw[nI _ _ (nK _ _ _ _ _ _ _ _ _ (by simp only[List.forall_mem_cons];exact⟨oG,oG,oG,oG,oG,oG,oG,oG,sG,sG⟩)) a [] (fD 4) _ dG];exact⟨rfl,rfl⟩
 |5,_,_=>rw[tB]at g;obtain⟨m1,m2,m3,rfl,rfl,rfl,rfl,rfl,m9⟩:=g;obtain rfl:c=[]:=List.eq_nil_of_length_eq_zero oG;rw[nI _ _ (nK _ _ _ _ _ _ _ _ _ (by simp only[List.forall_mem_cons];exact⟨oG,oG,oG,oG,oG,oG,oG,oG,sG,sG⟩)) a [] (fD 5) _ dG];exact⟨rfl,rfl⟩
 |6,_,_=>rw[oD]at g;obtain⟨m1,m4,m5,rfl,rfl,rfl,rfl,rfl,m9⟩:=g;obtain rfl:c=[]:=List.eq_nil_of_length_eq_zero oG;rw[nI _ _ (nK _ _ _ _ _ _ _ _ _ (by simp only[List.forall_mem_cons];exact⟨oG,oG,oG,oG,oG,oG,oG,oG,sG,sG⟩)) a [] (fD 6) _ dG];exact⟨rfl,rfl⟩
 |7,_,_=>rw[oF]at g;obtain⟨m1,m6,B,C,rfl,rfl,rfl,rfl,m9⟩:=g;obtain rfl:c=[]:=List.eq_nil_of_length_eq_zero oG;rw[nI _ _ (nK _ _ _ _ _ _ _ _ _ (by simp only[List.forall_mem_cons];exact⟨oG,oG,oG,oG,oG,oG,oG,oG,sG,sG⟩)) a [] (fD 7) _ dG];exact⟨rfl,rfl⟩
 |8,_,_=>rw[tC]at g;obtain⟨m1,m6,rfl,rfl,rfl,rfl,rfl,rfl,m9⟩:=g;obtain rfl:c=[]:=List.eq_nil_of_length_eq_zero oG;rw[nI _ _ (nK _ _ _ _ _ _ _ _ _ (by simp only[List.forall_mem_cons];exact⟨oG,oG,oG,oG,oG,oG,oG,oG,sG,sG⟩)) a [] (fD 8) _ dG];exact⟨rfl,rfl⟩
 |9,_,_=>
  rw[oH]at g;obtain⟨m1,m6,m9,rfl,rfl,rfl,rfl,rfl,rfl⟩:=g;have y:(fD 9).flatMap (jN [0,e,0,0,0,0,q,0,0,(c.length:Int)] c)++a=[1,6].flatMap (jN [0,e,0,0,0,0,q,0,0,(c.length:Int)] c)++(be (c.length:Int) 1++c.flatMap (λv=>be v 8)++a):=by rw[show fD 9=[1,6]++[9,0,0] from rfl,List.flatMap_append,List.append_assoc];congr 1;simp only[List.flatMap_cons,List.flatMap_nil,F8,TB,List.append_nil];rfl
  have u:∀l:Gs,(fD 9).foldl kL l=kL (([1,6]:List Nat).foldl kL l) 9:=λl=>rfl;rw[y,u,nI _ _ (nK _ _ _ _ _ _ _ _ _ (by simp only[List.forall_mem_cons];exact⟨oG,oG,oG,oG,oG,oG,oG,oG,oG,sG⟩)) _ [] [1,6] _ dG,JA _ _ c oG w];exact⟨rfl,rfl⟩
 |10,_,_=>rw[uI]at g;obtain⟨m1,m6,rfl,rfl,rfl,rfl,rfl,rfl,m9⟩:=g;obtain rfl:c=[]:=List.eq_nil_of_length_eq_zero oG;rw[nI _ _ (nK _ _ _ _ _ _ _ _ _ (by simp only[List.forall_mem_cons];exact⟨oG,oG,oG,oG,oG,oG,oG,oG,sG,sG⟩)) a [] (fD 10) _ dG];exact⟨rfl,rfl⟩
structure vX where
 K:Int
 A:Int
 B:Int
 C:Int
 S:ByteArray
def vX.cells(o:vX):List Value:=[I o.K,I o.A,I o.B,I o.C,.string o.S]
def vX.ok(o:vX):Prop:=(-9223372036854775808<=o.A/\o.A<=9223372036854775807)/\(-9223372036854775808<=o.B/\o.B<=9223372036854775807)/\o.S.size<=maxLen
structure nV(base R:Nat)(w w':World):Prop where
 os:w'.os=w.os
 tape:w'.tape=w.tape
 output:w'.output=w.output
 size:w.1.size<=w'.1.size
 block:∀k,k<base->k≠R->w'.1[k]?=w.1[k]?
def nV.refl(base R:Nat)(w:World):nV base R w w:=⟨rfl,rfl,rfl,Nat.le_refl _,λ_ _ _=>rfl⟩
def nV.trans{base R:Nat}{a b c:World}(h:nV base R a b)(k:nV base R b c):nV base R a c:=⟨k.os.trans h.os,k.tape.trans h.tape,k.output.trans h.output,Nat.le_trans h.size k.size,λx d hy=>(k.block x d hy).trans (h.block x d hy)⟩
def nV.below{base R B:Nat}{w w':World}(h:nV base R w w')(c:B<=base)(b:B<=R):Below B w w':=⟨h.os,h.tape,h.output,h.size,λk a=>h.block k oG oG⟩
def nV.cell{base R:Nat}{w w':World}(h:nV base R w w'){p:Addr}(a:p.block<base)(b:p.block≠R):w'.cell? p=w.cell? p:=World.cell?_of_block (w:=w) (h.block p.block a b)
def O7(gm gr:Value):Array Value:=#[gm,gr,J Z 0 0,J Z 0 0,J Z 0 0,J Z 0 0,J Z 0 0,J Z 0 0,J Z 0 0]
structure zE(w:World)(R:Nat)(gm gr:Value):Prop where
 lt:R<w.1.size
 cell:∀i,w.cell? ⟨R,i,Z⟩=(O7 gm gr)[i]?
 free:∀i,w.frozen? ⟨R,i,Z⟩=false
def zE.later{w w':World}{R:Nat}{c b:Value}(h:zE w R c b)(a:Bw w w'):zE w' R c b:=⟨Nat.lt_of_lt_of_le h.lt a.size,λi=>(a.cell h.lt).trans (h.cell i),λi=>(a.frozen h.lt).trans (h.free i)⟩
structure eM where
 E:Int
 P:Int
 S:Int
def eM.cells(r:eM):List Value:=[I r.E,I r.P,I r.S]
def jX(n:Nat)(o:Int):Nat:=n&&&(31 - (o%32).toNat)
def DK(n:Nat)(o:Int):jX n o<32:=by have:jX n o<2 ^ 5:=Nat.and_lt_two_pow _ oG;omega
def BM(n:Nat)(o:Int)(e:n<32):bits .andNot .i64 (n:Int) o=(jX n o:Int):=by
 have b:(BitVec.ofInt 64 (n:Int)).toNat=n:=by rw[BitVec.ofInt_natCast,BitVec.toNat_ofNat];exact Nat.mod_eq_of_lt oG
 have d:(~~~ BitVec.ofInt 64 o).toNat=2 ^ 64 - 1 - (o%((2 ^ 64:Nat):Int)).toNat:=by rw[BitVec.toNat_not,BitVec.toNat_ofInt]
 have c:n&&&(~~~ BitVec.ofInt 64 o).toNat=jX n o:=by
  have a:n=n&&&(2 ^ 5 - 1):=by rw[Nat.and_two_pow_sub_one_eq_mod];omega
  conv=>lhs;rw[a]
  rw[Nat.and_assoc,Nat.and_comm (2 ^ 5 - 1) _,Nat.and_two_pow_sub_one_eq_mod,d];unfold jX;congr 1;omega
 show IntKind.i64.wrap ((BitVec.ofInt 64 (n:Int)&&&~~~ BitVec.ofInt 64 o).toNat:Int)=_;rw[BitVec.toNat_and,b,c,IntKind.wrap_i64];have:=DK n o;omega
def G2(b g a d h:Int)(S:Nat)(w:World)(hS:S<32):Calls pG 184 #[.agg #[I b,I g,I a],.agg #[I d,I h,I S]] w λe w'=>e=.returned (.bool (((jX S a:Nat):Int)==0))/\Bw w w':=by have c:=((Below.refl w.1.size w).alloc r_ (G #[I b,I g,I a] 66)).alloc sG (G #[I d,I h,I S] 66);go_enter func184,ntmps184;go_wp2_with fail;refine(BF b g a d h S _).mono ?_;rintro e w1 ⟨rfl,f⟩;rw[BM S a hS];have i:=c.trans (f.mono nG);go_wp2;go_ret;exact⟨rfl,i⟩
def oO(oP oS nP:Int)(S:Nat):Bool:=decide (nB (jX S oS)=1/\nP=oP/\(S:Int)=bits .or .i64 oS (jX S oS:Int))
def II(g d a h c:Int)(S:Nat)(w:World)(hS:S<32):Calls pG 185 #[.agg #[I g,I d,I a],.agg #[I h,I c,I S]] w λe w'=>e=.returned (.bool (oO d a c S))/\Bw w w':=by
 have f:=((Below.refl w.1.size w).alloc r_ (G #[I g,I d,I a] 66)).alloc sG (G #[I h,I c,I S] 66);have k:Hid (oO d a c S=decide (nB (jX S a)=1/\c=d/\(S:Int)=bits .or .i64 a (jX S a:Int))):=rfl;go_enter func185,ntmps185;go_wp2_with fail;refine(BF g d a h c S _).mono ?_;rintro e w1 ⟨rfl,b⟩;rw[BM S a hS];have n:=DK S a;have l:=f.trans (b.mono nG);have s:∀i,w1.cell? ⟨w.1.size,i,Z⟩=#[I g,I d,I a][i]?:=λi=>(b.cell (by show w.1.size<_;simp;omega)).trans (by rw[World.cell?_alloc_past _ _ _ sG,World.cell?_alloc_at _ _ _ _ rfl]);have p:∀i,w1.cell? ⟨w.1.size+1,i,Z⟩=#[I h,I c,I S][i]?:=λi=>(b.cell (by show w.1.size+1<_;simp)).trans (World.cell?_alloc_at _ _ _ _ sG);have q:w.1.size<w1.1.size:=by have:=b.size;simp at this;omega
 have r:w.1.size+1<w1.1.size:=by have:=b.size;simp at this;omega
 clear b f;generalize jX S a=M at*;go_wp2_with fail;refine(GS M _ n).mono ?_;rintro e w2 ⟨rfl,rfl⟩;by_cases m:nB M=1
 ·have j:(((nB M:Nat):Int)==1)=true:=nG;go_wp2;all_goals go_ret
  all_goals refine⟨mF ?_,l.alloc oG _⟩
  all_goals rw[k.out]
  all_goals simp[*]
 ·have j:(((nB M:Nat):Int)==1)=false:=nG;have o:Hid (oO d a c S=false):=by unfold Hid;rw[k.out];simp[m]
  go_wp2;go_ret;exact⟨mF o.symm,l.alloc oG _⟩
def lA(oE oP oS nE nP nS:Int):Bool:=lZ oE nE&&(mI nP nS&&((((jX nS.toNat oS:Nat):Int)==0) || oO oP oS nP nS.toNat))
def IJ{b a:Int}(h:mI b a=true):1<=b/\b<=5/\1<=a/\a<=31:=by unfold mI at h;rw[Bool.and_eq_true,decide_eq_true_eq]at h;exact h.1
def AH(b f c d a g:Int)(w:World)(D:-9223372036854775808<=b)(B:b<=9223372036854775807):Calls pG 134 #[.agg #[I b,I f,I c],.agg #[I d,I a,I g]] w λe w'=>e=.returned (.bool (lA b f c d a g))/\Bw w w':=by
 have n:=((Below.refl w.1.size w).alloc r_ (G #[I b,I f,I c] 66)).alloc sG (G #[I d,I a,I g] 66);have r:Hid (lA b f c d a g=(lZ b d&&(mI a g&&((((jX g.toNat c:Nat):Int)==0) || oO f c a g.toNat)))):=rfl;have x:∀i,((w.alloc (G #[I b,I f,I c] 66)).alloc (G #[I d,I a,I g] 66)).cell? ⟨w.1.size,i,Z⟩=#[I b,I f,I c][i]?:=λi=>by rw[World.cell?_alloc_past _ _ _ sG,World.cell?_alloc_at _ _ _ _ rfl]
 have u:∀i,((w.alloc (G #[I b,I f,I c] 66)).alloc (G #[I d,I a,I g] 66)).cell? ⟨w.1.size+1,i,Z⟩=#[I d,I a,I g][i]?:=λi=>World.cell?_alloc_at _ _ _ _ sG;have C:((w.alloc (G #[I b,I f,I c] 66)).alloc (G #[I d,I a,I g] 66)).1.size=w.1.size+2:=sG;go_enter func134,ntmps134;go_wp2_with fail;generalize ((w.alloc (G #[I b,I f,I c] 66)).alloc (G #[I d,I a,I g] 66))=z at*;refine(JU b d z D B).mono ?_;rintro e w1 ⟨rfl,rfl⟩;cases he:lZ b d with
 |false=>
  have H:Hid (lA b f c d a g=false):=by unfold Hid;rw[r.out,he];rfl
  clear he;go_wp2;go_ret;exact⟨mF H.symm,n⟩
 |true=>
  go_wp2_with fail;refine(LL d a g _).mono ?_;rintro e w2 ⟨rfl,h⟩;have m:=n.trans (h.mono oG);cases hp:mI a g with
  |false=>
   have H:Hid (lA b f c d a g=false):=by unfold Hid;rw[r.out,he,hp];rfl
   clear he hp;go_wp2;go_ret;exact⟨mF H.symm,m⟩
  |true=>
   obtain⟨M,Q,L,N⟩:=IJ hp;have v:Hid _:=he;have y:Hid _:=hp;clear he hp;obtain⟨S,rfl⟩:=Int.eq_ofNat_of_zero_le (show 0<=g by omega);have o:∀i,w2.cell? ⟨w.1.size,i,Z⟩=_:=λi=>(h.cell (by show w.1.size<_;omega)).trans (x i);have l:∀i,w2.cell? ⟨w.1.size+1,i,Z⟩=_:=λi=>(h.cell (by show w.1.size+1<_;omega)).trans (u i);have F:=h.size;clear x u h;go_wp2_with fail;refine(G2 b f c d a S w2 oG).mono ?_;rintro e w3 ⟨rfl,j⟩;have k:=m.trans (j.mono oG);cases hn:(((jX S c:Nat):Int)==0) with
   |true=>
    have H:Hid (lA b f c d a S=true):=by unfold Hid;rw[r.out,v.out,y.out,Int.toNat_natCast,hn];rfl
    clear hn;go_wp2;go_ret;exact⟨mF H.symm,k⟩
   |false=>
    have E:Hid _:=hn;clear hn;have t:∀i,w3.cell? ⟨w.1.size,i,Z⟩=_:=λi=>(j.cell (by show w.1.size<_;omega)).trans (o i);have s:∀i,w3.cell? ⟨w.1.size+1,i,Z⟩=_:=λi=>(j.cell (by show w.1.size+1<_;omega)).trans (l i);have A:=j.size;clear o l j;go_wp2_with fail;refine(II b f c d a S w3 oG).mono ?_;rintro e K ⟨rfl,q⟩;have p:=k.trans (q.mono oG);have H:Hid (lA b f c d a S=oO f c a S):=by unfold Hid;rw[r.out,v.out,y.out,Int.toNat_natCast,E.out];rfl
    clear t s q;generalize oO f c a S=O at*;go_wp2;go_ret;exact⟨mF H.symm,p⟩
def vO(f:Nat->Bool):Nat->Nat
 |0=>0
 |k+1=>vO f k+if f k then 1 else 0
def FN(o n:Int)(i:Nat):Bool:=oM n i&&!oM o i
def QX(o n:Int)(i:Nat):Bool:=oM o i&&!oM n i
def small:∀S,S<32->∀r,r<32->((S&&&(31 - r)=0↔vO (FN (r:Nat) (S:Nat)) 5=0)/\(nB (S&&&(31 - r))=1↔vO (FN (r:Nat) (S:Nat)) 5=1)/\((r ||| (S&&&(31 - r))=S)↔vO (QX (r:Nat) (S:Nat)) 5=0)):=by decide +kernel
def AA(a b:List UInt8):dL a++dL b=dL (a++b):=by apply ByteArray.ext;rw[ByteArray.data_append];simp[dL]
def oB(a:List UInt8):(dL a).size=a.length:=by show a.toArray.size=_;simp
def rc(bs:List UInt8):Nat->Int
 |0=>(bs.length:Int)%65521
 |k+1=>(rc bs k+((bs.getD k 0).toNat:Int)*(((bs.length:Int) - k)%65521))%65521
end
def qs{α:Type}:(∀(a:Act) (d:Option Tmp) (v:Value),a.put d v=match d with|some d=>{a with tmps:=a.tmps.setIfInBounds d v}|none=>a)/\(∀(l:List α) (i:Nat) (a:α),l.toArray.setIfInBounds i a=(l.set i a).toArray)/\(∀(x:α) (l:List α) (a:α),(x::l).set 0 a=a::l)/\∀(x:α) (l:List α) (n:Nat) (a:α),(x::l).set (n+1) a=x::l.set n a:=⟨by intro a d v;cases d<;>rfl,sG,sG,sG⟩
section
variable {P:Program} {ops:Array Oper} {Q:Exit->Act->World->Prop} {md:Region.Mode} {S:World->Prop} {fuel:Nat} {listed:Array Bool} {a:Act} {w:World}
def tk(i:Nat){b:Oper}{v:Value}{e:Act}(h:wpAnyH P md ops Q S fuel (listed.setIfInBounds i true) e w)(hi:ops[i]?=some b:=by exact rfl)(hs:Region.noSelect ops=true:=by kernel_rfl)(f:Region.free md ops listed i=true:=by kernel_rfl)(g:(Region.ready md ops listed).contains i=true:=by kernel_rfl)(hy:YieldsIf P ops S b v a:=by refine Or.inl ⟨by rfl,?_⟩;intro w d;(try dsimp only at d);go_simp;(try with_reducible rfl))(j:∀c a w,Q (.panic c) (a.put b.dst v) w->Q (.panic c) a w:=by exact λ_ _ _ h=>h)(hS:S w:=by assumption)(k:a.put b.dst v=e:=by(try simp only[qs]);exact rfl):wpAnyH P md ops Q S (fuel+1) listed a w:=wpAnyH_take hi hs f g j hy hS (k ▸ h)
def dn(h:Q .normal a w)(b:Region.ready md ops listed=[]:=by kernel_rfl):wpAnyH P md ops Q S fuel listed a w:=wpAnyH_done b h _
def jC(rs:List Nat)(h:AllReadyH P md ops Q S fuel listed a w rs)(c:Region.ready md ops listed=rs:=by kernel_rfl)(b:rs≠[]:=by simp):wpAnyH P md ops Q S (fuel+1) listed a w:=wpAnyH_ready c b h
def dT(i:Nat){o:Oper}(h:∀K':Act->World->Prop,Shut (∀a w,S w->(S w->wpAnyH P md ops Q S fuel (listed.setIfInBounds i true) a w)->K' a w)->if Region.wanted o (yielded ops a.tmps)=true then Oper.wp P o a w K' Q else K' (a.put o.dst undef) w)(b:ops[i]?=some o:=by exact rfl)(c:Region.ready md ops listed=[i]:=by kernel_rfl):wpAnyH P md ops Q S (fuel+1) listed a w:=wpAnyH_ready c sG (.cons b h .nil)
def k1{R K:Act->World->Prop}{b:Act}(d:Shut (∀a w,S w->(S w->R a w)->K a w))(h:S w->R b w)(hS:S w:=by(try dsimp only);first|(and_intros<;>with_reducible assumption)|(and_intros<;>assumption)|go_keep)(c:a=b:=by(try simp only[qs]);exact rfl):K a w:=d.out a w hS (c ▸ h)
def kr{K:Act->World->Prop}{b:Act}(e:Shut (∀a w,S w->(S w->wpAnyH P md ops Q S (fuel+1) listed a w)->K a w))(i:Nat){o:Oper}(h:∀K':Act->World->Prop,Shut (∀a w,S w->(S w->wpAnyH P md ops Q S fuel (listed.setIfInBounds i true) a w)->K' a w)->if Region.wanted o (yielded ops b.tmps)=true then Oper.wp P o b w K' Q else K' (b.put o.dst undef) w)(hS:S w:=by(try dsimp only);first|(and_intros<;>with_reducible assumption)|(and_intros<;>assumption)|go_keep)(d:a=b:=by(try simp only[qs]);exact rfl)(c:ops[i]?=some o:=by exact rfl)(f:Region.ready md ops listed=[i]:=by kernel_rfl):K a w:=k1 e (λ_=>dT i h c f) hS d
def kd{K:Act->World->Prop}{b:Act}(e:Shut (∀a w,S w->(S w->wpAnyH P md ops Q S fuel listed a w)->K a w))(h:Q .normal b w)(hS:S w:=by(try dsimp only);first|(and_intros<;>with_reducible assumption)|(and_intros<;>assumption)|go_keep)(c:a=b:=by(try simp only[qs]);exact rfl)(d:Region.ready md ops listed=[]:=by kernel_rfl):K a w:=k1 e (λ_=>dn h d) hS c
def k2{R K:Act->World->Prop}{d:Act}(f:Shut (∀a w,S w->(S w->R a w)->K a w))(h:S w->R d w)(hS:S w:=by(try dsimp only);first|(and_intros<;>with_reducible assumption)|(and_intros<;>(refine(World.cell?_setCell_other _ _ _ _ (by intro c;have b:=congrArg Addr.block c;(try simp at b);omega)).trans ?_;repeat(first|with_reducible assumption|refine(World.cell?_setCell_other _ _ _ _ (by intro c;have b:=congrArg Addr.block c;(try simp at b);omega)).trans ?_)))|(and_intros<;>assumption)|go_keep)(e:a=d:=by(try simp only[qs]);exact rfl):K a w:=f.out a w hS (e ▸ h)
def eZ{id:Nat}(h:S w.drew->wpAnyH P .any ops Q S ops.size (Array.replicate ops.size false) a w.drew)(b:P.follows .mixedOrders=true:=by kernel_rfl)(hS:S w.drew:=by(try dsimp only);first|(and_intros<;>with_reducible assumption)|(and_intros<;>assumption)|go_keep):(Code.region id ops true).wp P Q a w:=wp_region_held_drew b hS h
def l9{id:Nat}(h:S w.drew->wpAnyH P .any ops Q S ops.size (Array.replicate ops.size false) a w.drew)(d:P.follows .mixedOrders=true:=by kernel_rfl)(hS:S w.drew:=by(try dsimp only);first|(and_intros<;>with_reducible assumption)|(and_intros<;>(refine(World.cell?_setCell_other _ _ _ _ (by intro b;have c:=congrArg Addr.block b;(try simp at c);omega)).trans ?_;repeat(first|with_reducible assumption|refine(World.cell?_setCell_other _ _ _ _ (by intro b;have c:=congrArg Addr.block b;(try simp at c);omega)).trans ?_)))|(and_intros<;>assumption)|go_keep):(Code.region id ops true).wp P Q a w:=wp_region_held_drew d hS h
end
open Value (bool)
end Go.Proofs.YtdcainmlcpafbaaGreatDoor
