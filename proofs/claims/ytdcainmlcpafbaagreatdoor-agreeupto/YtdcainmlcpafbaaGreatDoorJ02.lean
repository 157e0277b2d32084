import Derived.Test.YtdcainmlcpafbaaGreatDoorJ01
import Derived.Deep.CutRange
import Derived.Deep.RegionHeld3
set_option linter.all false
set_option maxHeartbeats 40000000
set_option maxRecDepth 20000
namespace Go.Proofs.YtdcainmlcpafbaaGreatDoor
open Go.RowKit
open Value renaming int->I,slice->J,pointer->P0
open Tryz
open Tryz renaming prog->pG
open IntKind renaming i64->T
open Option renaming none->Z,some->Y
open Obj renaming cells->G
section
open Value (bool)
theorem mV(n:Int)(k:Nat):((jB n k).toNat:Int)=n / 2 ^ (8*k)%256:=by unfold jB;rw[UInt8.toNat_ofNat'];have b:0<=n / 2 ^ (8*k)%256:=Int.emod_nonneg _ (by omega);have a:n / 2 ^ (8*k)%256<256:=Int.emod_lt_of_pos _ (by omega);omega
theorem GY(n:Int):(kG (be n 8):Int)=n%18446744073709551616:=by have e:((jB n 0).toNat:Int)=n / 1%256:=mV n 0;have b:((jB n 1).toNat:Int)=n / 256%256:=mV n 1;have a:((jB n 2).toNat:Int)=n / 65536%256:=mV n 2;have g:((jB n 3).toNat:Int)=n / 16777216%256:=mV n 3;have h:((jB n 4).toNat:Int)=n / 4294967296%256:=mV n 4;have f:((jB n 5).toNat:Int)=n / 1099511627776%256:=mV n 5;have c:((jB n 6).toNat:Int)=n / 281474976710656%256:=mV n 6;have d:((jB n 7).toNat:Int)=n / 72057594037927936%256:=mV n 7;simp only[be,kG,List.foldl_cons,List.foldl_nil];omega
theorem F1(n:Int)(a:-9223372036854775808<=n)(b:n<=9223372036854775807):oX (be n 8)=n:=by unfold oX;rw[GY];unfold wrap64;omega
theorem DA(n:Int)(r:List UInt8)(a:-9223372036854775808<=n)(b:n<=9223372036854775807):iF (be n 8++r) 8=n:=by unfold iF;rw[if_neg (by simp[lA]),List.take_left' (lA n 8),F1 n a b]
theorem DB(n:Int)(r:List UInt8):iB (be n 8++r) 8=r:=by unfold iB;rw[if_neg (by simp[lA]),List.drop_left' (lA n 8)]
theorem wY(x:UInt8)(r:List UInt8):iF (x::r) 1=(x.toNat:Int):=by have a:=x.toNat_lt;unfold iF;rw[if_neg (by simp)];simp only[oX,List.take_succ_cons,List.take_zero,kG,List.foldl_cons,List.foldl_nil];rw[IntWalk.wrap64_in _ (by omega)];omega
theorem tU(x:UInt8)(r:List UInt8):iB (x::r) 1=r:=by unfold iB;rw[if_neg (by simp)];rfl
theorem P3(n:Nat)(h:n<256):be (n:Int) 1=[UInt8.ofNat n]:=by
 have e:jB (n:Int) 0=UInt8.ofNat n:=by
  apply UInt8.toNat_inj.1;have a:=mV (n:Int) 0;have:((UInt8.ofNat n).toNat:Int)=n:=by rw[UInt8.toNat_ofNat'];omega
  simp at a;omega
 simp[be,e]
theorem E8(a:List Int)(c:∀z∈a,-9223372036854775808<=z/\z<=9223372036854775807):∀(r:List UInt8) (vs:List Int),jL a.length (a.flatMap (fun v=>be v 8)++r) vs=(r,vs++a):=by
 induction a with
 |nil=>intro r vs;simp[jL]
 |cons z a ih=>intro r vs;have b:=c z (by simp);rw[List.length_cons,jL,List.flatMap_cons,List.append_assoc,DA z _ b.1 b.2,DB,ih (fun y hy=>c y (by simp[hy]))];simp
theorem GZ(r:List UInt8)(b a:List Int)(F:Nat)(n:Int)(e:F≠0)(f:F≠9)(d:-9223372036854775808<=n)(c:n<=9223372036854775807):jO ⟨be n 8++r,b,a⟩ F=⟨r,b.set F n,a⟩:=by unfold jO;rw[if_neg e,if_neg f];simp only[DA n r d c,DB]
theorem F2(a:Gs):jO a 0=a:=rfl
theorem F3(r:List UInt8)(b:List Int)(a:List Int)(d:a.length<=4)(c:∀z∈a,-9223372036854775808<=z/\z<=9223372036854775807):jO ⟨be (a.length:Int) 1++a.flatMap (fun v=>be v 8)++r,b,[]⟩ 9=⟨r,b,a⟩:=by
 have e:((UInt8.ofNat a.length).toNat:Int)=a.length:=by rw[UInt8.toNat_ofNat'];omega
 unfold jO;rw[if_neg (by omega),if_pos rfl,P3 a.length (by omega)];simp only[List.cons_append,wY,tU,e,Int.toNat_natCast,E8 a c,List.nil_append]
theorem DR(a b:List Int):i8 a b 0=[]:=rfl
theorem P4(a b:List Int)(F:Nat)(c:F≠0)(d:F≠9):i8 a b F=be (a.getD F 0) 8:=by unfold i8;rw[if_neg c,if_neg d]
theorem P5(a b:List Int):i8 a b 9=be (a.getD 9 0) 1++b.flatMap (fun v=>be v 8):=by unfold i8;rw[if_neg (by omega),if_pos rfl]
def wB(nums:List Int):List Nat->List Int->List Int
 | [],N=>N
 |F::l,N=>wB nums l (if F=0 then N else N.set F (nums.getD F 0))
theorem mD(a i:List Int)(h:∀F,-9223372036854775808<=a.getD F 0/\a.getD F 0<=9223372036854775807)(b:List UInt8)(V:List Int):∀(l:List Nat) (N:List Int),(∀F∈l,F≠9)->l.foldl jO ⟨l.flatMap (i8 a i)++b,N,V⟩=⟨b,wB a l N,V⟩:=by
 intro l;induction l with
 |nil=>intro N _;rfl
 |cons F l ih=>
  intro N g;have c:=g F (by simp);rw[List.foldl_cons,List.flatMap_cons];by_cases d:F=0;·subst d;rw[DR,List.nil_append,F2,ih N (fun e f=>g e (by simp[f]))];rfl
  ·rw[P4 a i F d c,List.append_assoc,GZ _ _ _ F _ d c (h F).1 (h F).2,ih _ (fun e f=>g e (by simp[f]))];rw[wB,if_neg d]
theorem mF(e b wa p s q bl v n:Int)(h:∀x∈[e,b,wa,p,s,q,bl,v,n],-9223372036854775808<=x/\x<=9223372036854775807)(F:Nat):-9223372036854775808<=[0,e,b,wa,p,s,q,bl,v,n].getD F 0/\[0,e,b,wa,p,s,q,bl,v,n].getD F 0<=9223372036854775807:=by
 simp only[List.forall_mem_cons]at h;match F with
 |0=>exact⟨by simp,by simp⟩
 |1=>exact h.1
 |2=>exact h.2.1
 |3=>exact h.2.2.1
 |4=>exact h.2.2.2.1
 |5=>exact h.2.2.2.2.1
 |6=>exact h.2.2.2.2.2.1
 |7=>exact h.2.2.2.2.2.2.1
 |8=>exact h.2.2.2.2.2.2.2.1
 |9=>exact h.2.2.2.2.2.2.2.2.1
 |F+10=>simp
theorem JG(k:Nat)(b:k<11)(a:List UInt8):iX k 5 a=(eU k).foldl jO ⟨a,List.replicate 10 0,[]⟩:=by unfold iX;rw[List.take_of_length_le (by rw[sQ k b];omega)]
theorem round(k f:Nat)(e b wa p s q bl v:Int)(c:List Int)(m:1<=k)(A:k<=10)(H:f<5)(g:iG k [0,e,b,wa,p,s,q,bl,v,(c.length:Int)]=true)(B:∀z∈c,-9223372036854775808<=z/\z<=9223372036854775807):jC (jM k f [0,e,b,wa,p,s,q,bl,v,(c.length:Int)] c)=k/\kX (jM k f [0,e,b,wa,p,s,q,bl,v,(c.length:Int)] c)=f/\nH (jM k f [0,e,b,wa,p,s,q,bl,v,(c.length:Int)] c)=[0,e,b,wa,p,s,q,bl,v,(c.length:Int)]/\(iM (jM k f [0,e,b,wa,p,s,q,bl,v,(c.length:Int)] c)).vals=c:=by
 have x:((UInt8.ofNat k).toNat:Int)=k:=by rw[UInt8.toNat_ofNat'];omega
 have y:((UInt8.ofNat f).toNat:Int)=f:=by rw[UInt8.toNat_ofNat'];omega
 generalize F:[0,e,b,wa,p,s,q,bl,v,(c.length:Int)]=d at*;obtain⟨a,j⟩:∃a,jM k f d c=UInt8.ofNat k::UInt8.ofNat f::((eU k).flatMap (i8 d c)++a):=⟨be (CH (lU k f d c)) 4,by simp[jM,lU]⟩;have n:jC (jM k f d c)=k:=by rw[j];unfold jC;rw[wY,x]
 have t:kX (jM k f d c)=f:=by rw[j];unfold kX;rw[tU,wY,y]
 have w:iM (jM k f d c)=iX k 5 ((eU k).flatMap (i8 d c)++a):=by unfold iM;rw[n,j,tU,tU];rfl
 refine⟨n,t,?_⟩;unfold nH;rw[w,JG k (by omega)];clear n t w j;subst F;match k,m,A with
 |1,_,_=>rw[mJ]at g;obtain⟨m1,i,rfl,rfl,rfl,rfl,rfl,rfl,h⟩:=g;obtain rfl:c=[]:=List.eq_nil_of_length_eq_zero (by omega);rw[mD _ _ (mF _ _ _ _ _ _ _ _ _ (by simp only[List.forall_mem_cons];exact⟨by omega,by omega,by omega,by omega,by omega,by omega,by omega,by omega,by simp,by simp⟩)) a [] (eU 1) _ (by decide)];exact⟨rfl,rfl⟩
 |2,_,_=>rw[rD]at g;obtain⟨m1,i,E,u,r,rfl,rfl,rfl,h⟩:=g;obtain rfl:c=[]:=List.eq_nil_of_length_eq_zero (by omega);rw[mD _ _ (mF _ _ _ _ _ _ _ _ _ (by simp only[List.forall_mem_cons];exact⟨by omega,by omega,by omega,by omega,by omega,by omega,by omega,by omega,by simp,by simp⟩)) a [] (eU 2) _ (by decide)];exact⟨rfl,rfl⟩
 |3,_,_=>rw[mK]at g;obtain⟨m1,i,u,r,rfl,rfl,rfl,rfl,h⟩:=g;obtain rfl:c=[]:=List.eq_nil_of_length_eq_zero (by omega);rw[mD _ _ (mF _ _ _ _ _ _ _ _ _ (by simp only[List.forall_mem_cons];exact⟨by omega,by omega,by omega,by omega,by omega,by omega,by omega,by omega,by simp,by simp⟩)) a [] (eU 3) _ (by decide)];exact⟨rfl,rfl⟩
 |4,_,_=>rw[rF]at g;obtain⟨m1,i,rfl,rfl,rfl,rfl,rfl,rfl,h⟩:=g;obtain rfl:c=[]:=List.eq_nil_of_length_eq_zero (by omega);rw[mD _ _ (mF _ _ _ _ _ _ _ _ _ (by simp only[List.forall_mem_cons];exact⟨by omega,by omega,by omega,by omega,by omega,by omega,by omega,by omega,by simp,by simp⟩)) a [] (eU 4) _ (by decide)];exact⟨rfl,rfl⟩
 |5,_,_=>rw[rG]at g;obtain⟨m1,i,E,rfl,rfl,rfl,rfl,rfl,h⟩:=g;obtain rfl:c=[]:=List.eq_nil_of_length_eq_zero (by omega);rw[mD _ _ (mF _ _ _ _ _ _ _ _ _ (by simp only[List.forall_mem_cons];exact⟨by omega,by omega,by omega,by omega,by omega,by omega,by omega,by omega,by simp,by simp⟩)) a [] (eU 5) _ (by decide)];exact⟨rfl,rfl⟩
 |6,_,_=>rw[mY]at g;obtain⟨m1,u,r,rfl,rfl,rfl,rfl,rfl,h⟩:=g;obtain rfl:c=[]:=List.eq_nil_of_length_eq_zero (by omega);rw[mD _ _ (mF _ _ _ _ _ _ _ _ _ (by simp only[List.forall_mem_cons];exact⟨by omega,by omega,by omega,by omega,by omega,by omega,by omega,by omega,by simp,by simp⟩)) a [] (eU 6) _ (by decide)];exact⟨rfl,rfl⟩
 |7,_,_=>rw[mZ]at g;obtain⟨m1,l,K,L,rfl,rfl,rfl,rfl,h⟩:=g;obtain rfl:c=[]:=List.eq_nil_of_length_eq_zero (by omega);rw[mD _ _ (mF _ _ _ _ _ _ _ _ _ (by simp only[List.forall_mem_cons];exact⟨by omega,by omega,by omega,by omega,by omega,by omega,by omega,by omega,by simp,by simp⟩)) a [] (eU 7) _ (by decide)];exact⟨rfl,rfl⟩
 |8,_,_=>rw[rH]at g;obtain⟨m1,l,rfl,rfl,rfl,rfl,rfl,rfl,h⟩:=g;obtain rfl:c=[]:=List.eq_nil_of_length_eq_zero (by omega);rw[mD _ _ (mF _ _ _ _ _ _ _ _ _ (by simp only[List.forall_mem_cons];exact⟨by omega,by omega,by omega,by omega,by omega,by omega,by omega,by omega,by simp,by simp⟩)) a [] (eU 8) _ (by decide)];exact⟨rfl,rfl⟩
 |9,_,_=>
  rw[nA]at g;obtain⟨m1,l,h,rfl,rfl,rfl,rfl,rfl,rfl⟩:=g;have D:(eU 9).flatMap (i8 [0,e,0,0,0,0,q,0,0,(c.length:Int)] c)++a=[1,6].flatMap (i8 [0,e,0,0,0,0,q,0,0,(c.length:Int)] c)++(be (c.length:Int) 1++c.flatMap (fun v=>be v 8)++a):=by rw[show eU 9=[1,6]++[9,0,0] from rfl,List.flatMap_append,List.append_assoc];congr 1;simp only[List.flatMap_cons,List.flatMap_nil,DR,P5,List.append_nil];rfl
  have C:∀o:Gs,(eU 9).foldl jO o=jO (([1,6]:List Nat).foldl jO o) 9:=fun o=>rfl;rw[D,C,mD _ _ (mF _ _ _ _ _ _ _ _ _ (by simp only[List.forall_mem_cons];exact⟨by omega,by omega,by omega,by omega,by omega,by omega,by omega,by omega,by omega,by simp⟩)) _ [] [1,6] _ (by decide),F3 _ _ c (by omega) B];exact⟨rfl,rfl⟩
 |10,_,_=>rw[sX]at g;obtain⟨m1,l,rfl,rfl,rfl,rfl,rfl,rfl,h⟩:=g;obtain rfl:c=[]:=List.eq_nil_of_length_eq_zero (by omega);rw[mD _ _ (mF _ _ _ _ _ _ _ _ _ (by simp only[List.forall_mem_cons];exact⟨by omega,by omega,by omega,by omega,by omega,by omega,by omega,by omega,by simp,by simp⟩)) a [] (eU 10) _ (by decide)];exact⟨rfl,rfl⟩
structure uA where
 K:Int
 A:Int
 B:Int
 C:Int
 S:ByteArray
def uA.cells(o:uA):List Value:=[I T o.K,I T o.A,I T o.B,I T o.C,.string o.S]
def uA.ok(o:uA):Prop:=(-9223372036854775808<=o.A/\o.A<=9223372036854775807)/\(-9223372036854775808<=o.B/\o.B<=9223372036854775807)/\o.S.size<=maxLen
structure mN(base R:Nat)(w w':World):Prop where
 os:w'.os=w.os
 tape:w'.tape=w.tape
 output:w'.output=w.output
 size:w.heap.size<=w'.heap.size
 block:∀k,k<base->k≠R->w'.heap[k]?=w.heap[k]?
theorem mN.refl(base R:Nat)(w:World):mN base R w w:=⟨rfl,rfl,rfl,Nat.le_refl _,fun _ _ _=>rfl⟩
theorem mN.trans{base R:Nat}{a b c:World}(h:mN base R a b)(k:mN base R b c):mN base R a c:=⟨k.os.trans h.os,k.tape.trans h.tape,k.output.trans h.output,Nat.le_trans h.size k.size,fun x d hy=>(k.block x d hy).trans (h.block x d hy)⟩
theorem mN.below{base R B:Nat}{w w':World}(h:mN base R w w')(c:B<=base)(a:B<=R):Below B w w':=⟨h.os,h.tape,h.output,h.size,fun k b=>h.block k (by omega) (by omega)⟩
theorem mN.cell{base R:Nat}{w w':World}(h:mN base R w w'){p:Addr}(a:p.block<base)(b:p.block≠R):w'.cell? p=w.cell? p:=World.cell?_of_block (w:=w) (h.block p.block a b)
def MB(gm gr:Value):Array Value:=#[gm,gr,J Z 0 0,J Z 0 0,J Z 0 0,J Z 0 0,J Z 0 0,J Z 0 0,J Z 0 0]
structure wZ(w:World)(R:Nat)(gm gr:Value):Prop where
 lt:R<w.heap.size
 cell:∀i,w.cell? ⟨R,i,Z⟩=(MB gm gr)[i]?
 free:∀i,w.frozen? ⟨R,i,Z⟩=false
theorem wZ.later{w w':World}{R:Nat}{c b:Value}(h:wZ w R c b)(a:Below w.heap.size w w'):wZ w' R c b:=⟨Nat.lt_of_lt_of_le h.lt a.size,fun i=>(a.cell h.lt).trans (h.cell i),fun i=>(a.frozen h.lt).trans (h.free i)⟩
structure eE where
 E:Int
 P:Int
 S:Int
def eE.cells(r:eE):List Value:=[I T r.E,I T r.P,I T r.S]
def jH(n:Nat)(o:Int):Nat:=n&&&(31 - (o%32).toNat)
theorem A9(n:Nat)(o:Int):jH n o<32:=by have:jH n o<2 ^ 5:=Nat.and_lt_two_pow _ (by omega);omega
theorem yY(n:Nat)(o:Int)(e:n<32):bits .andNot .i64 (n:Int) o=(jH n o:Int):=by
 have b:(BitVec.ofInt 64 (n:Int)).toNat=n:=by rw[BitVec.ofInt_natCast,BitVec.toNat_ofNat];exact Nat.mod_eq_of_lt (by omega)
 have c:(~~~ BitVec.ofInt 64 o).toNat=2 ^ 64 - 1 - (o%((2 ^ 64:Nat):Int)).toNat:=by rw[BitVec.toNat_not,BitVec.toNat_ofInt]
 have d:n&&&(~~~ BitVec.ofInt 64 o).toNat=jH n o:=by
  have a:n=n&&&(2 ^ 5 - 1):=by rw[Nat.and_two_pow_sub_one_eq_mod];omega
  conv=>lhs;rw[a]
  rw[Nat.and_assoc,Nat.and_comm (2 ^ 5 - 1) _,Nat.and_two_pow_sub_one_eq_mod,c];unfold jH;congr 1;omega
 show IntKind.i64.wrap ((BitVec.ofInt 64 (n:Int)&&&~~~ BitVec.ofInt 64 o).toNat:Int)=_;rw[BitVec.toNat_and,b,d,IntKind.wrap_i64];have:=A9 n o;omega
theorem EJ(f b a h c:Int)(S:Nat)(w:World)(hS:S<32):Calls pG 184 #[.agg #[I T f,I T b,I T a],.agg #[I T h,I T c,I T S]] w fun e w'=>e=.returned (.bool (((jH S a:Nat):Int)==0))/\Below w.heap.size w w':=by have d:=(a_ w (G #[I T f,I T b,I T a] 66)).alloc (by simp) (G #[I T h,I T c,I T S] 66);go_enter func184,ntmps184;go_wp2_with fail;refine(yU f b a h c S _).mono ?_;rintro e w1 ⟨rfl,g⟩;rw[yY S a hS];have i:=d.trans (g.mono (by simp;omega));go_wp2;go_ret;exact⟨rfl,i⟩
def nL(oP oS nP:Int)(S:Nat):Bool:=decide (l9 (jH S oS)=1/\nP=oP/\(S:Int)=bits .or .i64 oS (jH S oS:Int))
theorem E9(g d a h c:Int)(S:Nat)(w:World)(hS:S<32):Calls pG 185 #[.agg #[I T g,I T d,I T a],.agg #[I T h,I T c,I T S]] w fun e w'=>e=.returned (.bool (nL d a c S))/\Below w.heap.size w w':=by
 have f:=(a_ w (G #[I T g,I T d,I T a] 66)).alloc (by simp) (G #[I T h,I T c,I T S] 66);have k:Hid (nL d a c S=decide (l9 (jH S a)=1/\c=d/\(S:Int)=bits .or .i64 a (jH S a:Int))):=rfl;go_enter func185,ntmps185;go_wp2_with fail;refine(yU g d a h c S _).mono ?_;rintro e w1 ⟨rfl,b⟩;rw[yY S a hS];have m:=A9 S a;have l:=f.trans (b.mono (by simp;omega));have q:∀i,w1.cell? ⟨w.heap.size,i,Z⟩=#[I T g,I T d,I T a][i]?:=fun i=>(b.cell (by show w.heap.size<_;simp;omega)).trans (by rw[World.cell?_alloc_past _ _ _ (by simp),World.cell?_alloc_at _ _ _ _ rfl]);have r:∀i,w1.cell? ⟨w.heap.size+1,i,Z⟩=#[I T h,I T c,I T S][i]?:=fun i=>(b.cell (by show w.heap.size+1<_;simp)).trans (World.cell?_alloc_at _ _ _ _ (by simp));have p:w.heap.size<w1.heap.size:=by have:=b.size;simp at this;omega
 have s:w.heap.size+1<w1.heap.size:=by have:=b.size;simp at this;omega
 clear b f;generalize jH S a=M at*;go_wp2_with fail;refine(D9 M _ m).mono ?_;rintro e w2 ⟨rfl,rfl⟩;by_cases o:l9 M=1
 ·have j:(((l9 M:Nat):Int)==1)=true:=by simp;omega
  go_wp2;all_goals go_ret
  all_goals refine⟨lH ?_,l.alloc (by omega) _⟩
  all_goals rw[k.out]
  all_goals simp[*]
 ·have j:(((l9 M:Nat):Int)==1)=false:=by simp;omega
  have n:Hid (nL d a c S=false):=by unfold Hid;rw[k.out];simp[o]
  go_wp2;go_ret;exact⟨lH n.out.symm,l.alloc (by omega) _⟩
def kH(oE oP oS nE nP nS:Int):Bool:=lB oE nE&&(lJ nP nS&&((((jH nS.toNat oS:Nat):Int)==0) || nL oP oS nP nS.toNat))
theorem FA{a b:Int}(h:lJ a b=true):1<=a/\a<=5/\1<=b/\b<=31:=by unfold lJ at h;rw[Bool.and_eq_true,decide_eq_true_eq]at h;exact h.1
theorem xY(c f b d a g:Int)(w:World)(F:-9223372036854775808<=c)(C:c<=9223372036854775807):Calls pG 134 #[.agg #[I T c,I T f,I T b],.agg #[I T d,I T a,I T g]] w fun e w'=>e=.returned (.bool (kH c f b d a g))/\Below w.heap.size w w':=by
 have n:=(a_ w (G #[I T c,I T f,I T b] 66)).alloc (by simp) (G #[I T d,I T a,I T g] 66);have r:Hid (kH c f b d a g=(lB c d&&(lJ a g&&((((jH g.toNat b:Nat):Int)==0) || nL f b a g.toNat)))):=rfl;have v:∀i,((w.alloc (G #[I T c,I T f,I T b] 66)).alloc (G #[I T d,I T a,I T g] 66)).cell? ⟨w.heap.size,i,Z⟩=#[I T c,I T f,I T b][i]?:=fun i=>by rw[World.cell?_alloc_past _ _ _ (by simp),World.cell?_alloc_at _ _ _ _ rfl]
 have x:∀i,((w.alloc (G #[I T c,I T f,I T b] 66)).alloc (G #[I T d,I T a,I T g] 66)).cell? ⟨w.heap.size+1,i,Z⟩=#[I T d,I T a,I T g][i]?:=fun i=>World.cell?_alloc_at _ _ _ _ (by simp);have z:((w.alloc (G #[I T c,I T f,I T b] 66)).alloc (G #[I T d,I T a,I T g] 66)).heap.size=w.heap.size+2:=by simp
 go_enter func134,ntmps134;go_wp2_with fail;generalize ((w.alloc (G #[I T c,I T f,I T b] 66)).alloc (G #[I T d,I T a,I T g] 66))=B at*;refine(GR c d B F C).mono ?_;rintro e w1 ⟨rfl,rfl⟩;cases he:lB c d with
 |false=>
  have H:Hid (kH c f b d a g=false):=by unfold Hid;rw[r.out,he];rfl
  clear he;go_wp2;go_ret;exact⟨lH H.out.symm,n⟩
 |true=>
  go_wp2_with fail;refine(I6 d a g _).mono ?_;rintro e w2 ⟨rfl,j⟩;have p:=n.trans (j.mono (by omega));cases hp:lJ a g with
  |false=>
   have H:Hid (kH c f b d a g=false):=by unfold Hid;rw[r.out,he,hp];rfl
   clear he hp;go_wp2;go_ret;exact⟨lH H.out.symm,p⟩
  |true=>
   obtain⟨M,K,N,L⟩:=FA hp;have u:Hid _:=he;have y:Hid _:=hp;clear he hp;obtain⟨S,rfl⟩:=Int.eq_ofNat_of_zero_le (show 0<=g by omega);have o:∀i,w2.cell? ⟨w.heap.size,i,Z⟩=_:=fun i=>(j.cell (by show w.heap.size<_;omega)).trans (v i);have m:∀i,w2.cell? ⟨w.heap.size+1,i,Z⟩=_:=fun i=>(j.cell (by show w.heap.size+1<_;omega)).trans (x i);have D:=j.size;clear v x j;go_wp2_with fail;refine(EJ c f b d a S w2 (by omega)).mono ?_;rintro e w3 ⟨rfl,h⟩;have k:=p.trans (h.mono (by omega));cases hn:(((jH S b:Nat):Int)==0) with
   |true=>
    have H:Hid (kH c f b d a S=true):=by unfold Hid;rw[r.out,u.out,y.out,Int.toNat_natCast,hn];rfl
    clear hn;go_wp2;go_ret;exact⟨lH H.out.symm,k⟩
   |false=>
    have A:Hid _:=hn;clear hn;have s:∀i,w3.cell? ⟨w.heap.size,i,Z⟩=_:=fun i=>(h.cell (by show w.heap.size<_;omega)).trans (o i);have t:∀i,w3.cell? ⟨w.heap.size+1,i,Z⟩=_:=fun i=>(h.cell (by show w.heap.size+1<_;omega)).trans (m i);have E:=h.size;clear o m h;go_wp2_with fail;refine(E9 c f b d a S w3 (by omega)).mono ?_;rintro e Q ⟨rfl,q⟩;have l:=k.trans (q.mono (by omega));have H:Hid (kH c f b d a S=nL f b a S):=by unfold Hid;rw[r.out,u.out,y.out,Int.toNat_natCast,A.out];rfl
    clear s t q;generalize nL f b a S=O at*;go_wp2;go_ret;exact⟨lH H.out.symm,l⟩
def tX(f:Nat->Bool):Nat->Nat
 |0=>0
 |k+1=>tX f k+if f k then 1 else 0
def DC(o n:Int)(i:Nat):Bool:=nJ n i&&!nJ o i
def NT(o n:Int)(i:Nat):Bool:=nJ o i&&!nJ n i
theorem small:∀S,S<32->∀r,r<32->((S&&&(31 - r)=0↔tX (DC (r:Nat) (S:Nat)) 5=0)/\(l9 (S&&&(31 - r))=1↔tX (DC (r:Nat) (S:Nat)) 5=1)/\((r ||| (S&&&(31 - r))=S)↔tX (NT (r:Nat) (S:Nat)) 5=0)):=by decide +kernel
theorem xS(a b:List UInt8):dF a++dF b=dF (a++b):=by apply ByteArray.ext;rw[ByteArray.data_append];simp[dF]
theorem mU(a:List UInt8):(dF a).size=a.length:=by show a.toArray.size=_;simp
end
theorem qs{α:Type}:(∀(a:Act) (d:Option Tmp) (v:Value),a.put d v=match d with|some d=>{a with tmps:=a.tmps.setIfInBounds d v}|none=>a)/\(∀(l:List α) (i:Nat) (a:α),l.toArray.setIfInBounds i a=(l.set i a).toArray)/\(∀(x:α) (l:List α) (a:α),(x::l).set 0 a=a::l)/\∀(x:α) (l:List α) (n:Nat) (a:α),(x::l).set (n+1) a=x::l.set n a:=⟨by intro a d v;cases d<;>rfl,by simp,by simp,by simp⟩
section
variable {P:Program} {ops:Array Oper} {Q:Exit->Act->World->Prop} {md:Region.Mode} {S:World->Prop} {fuel:Nat} {listed:Array Bool} {a:Act} {w:World}
theorem tk(i:Nat){b:Oper}{v:Value}{e:Act}(h:wpAnyH P md ops Q S fuel (listed.setIfInBounds i true) e w)(hi:ops[i]?=some b:=by exact rfl)(hs:Region.noSelect ops=true:=by kernel_rfl)(f:Region.free md ops listed i=true:=by kernel_rfl)(g:(Region.ready md ops listed).contains i=true:=by kernel_rfl)(hy:YieldsIf P ops S b v a:=by refine Or.inl ⟨by rfl,?_⟩;intro w d;(try dsimp only at d);go_simp;(try with_reducible rfl))(j:∀c a w,Q (.panic c) (a.put b.dst v) w->Q (.panic c) a w:=by exact fun _ _ _ h=>h)(hS:S w:=by assumption)(k:a.put b.dst v=e:=by(try simp only[qs]);exact rfl):wpAnyH P md ops Q S (fuel+1) listed a w:=wpAnyH_take hi hs f g j hy hS (k ▸ h)
theorem dn(h:Q .normal a w)(b:Region.ready md ops listed=[]:=by kernel_rfl):wpAnyH P md ops Q S fuel listed a w:=wpAnyH_done b h _
theorem iY(rs:List Nat)(h:AllReadyH P md ops Q S fuel listed a w rs)(b:Region.ready md ops listed=rs:=by kernel_rfl)(c:rs≠[]:=by simp):wpAnyH P md ops Q S (fuel+1) listed a w:=wpAnyH_ready b c h
theorem dE(i:Nat){o:Oper}(h:∀b:Act->World->Prop,Shut (∀a w,S w->(S w->wpAnyH P md ops Q S fuel (listed.setIfInBounds i true) a w)->b a w)->if Region.wanted o (yielded ops a.tmps)=true then Oper.wp P o a w b Q else b (a.put o.dst undef) w)(c:ops[i]?=some o:=by exact rfl)(d:Region.ready md ops listed=[i]:=by kernel_rfl):wpAnyH P md ops Q S (fuel+1) listed a w:=wpAnyH_ready d (by simp) (.cons c h .nil)
theorem k1{R K:Act->World->Prop}{b:Act}(c:Shut (∀a w,S w->(S w->R a w)->K a w))(h:S w->R b w)(hS:S w:=by(try dsimp only);first|(and_intros<;>with_reducible assumption)|(and_intros<;>assumption)|go_keep)(d:a=b:=by(try simp only[qs]);exact rfl):K a w:=c.out a w hS (d ▸ h)
theorem k2{R K:Act->World->Prop}{d:Act}(e:Shut (∀a w,S w->(S w->R a w)->K a w))(h:S w->R d w)(hS:S w:=by(try dsimp only);first|(and_intros<;>with_reducible assumption)|(and_intros<;>(refine(World.cell?_setCell_other _ _ _ _ (by intro b;have c:=congrArg Addr.block b;(try simp at c);omega)).trans ?_;repeat(first|with_reducible assumption|refine(World.cell?_setCell_other _ _ _ _ (by intro b;have c:=congrArg Addr.block b;(try simp at c);omega)).trans ?_)))|(and_intros<;>assumption)|go_keep)(f:a=d:=by(try simp only[qs]);exact rfl):K a w:=e.out a w hS (f ▸ h)
theorem eR{id:Nat}(h:S w.drew->wpAnyH P .any ops Q S ops.size (Array.replicate ops.size false) a w.drew)(b:P.follows .mixedOrders=true:=by kernel_rfl)(hS:S w.drew:=by(try dsimp only);first|(and_intros<;>with_reducible assumption)|(and_intros<;>assumption)|go_keep):(Code.region id ops true).wp P Q a w:=wp_region_held_drew b hS h
theorem lE{id:Nat}(h:S w.drew->wpAnyH P .any ops Q S ops.size (Array.replicate ops.size false) a w.drew)(d:P.follows .mixedOrders=true:=by kernel_rfl)(hS:S w.drew:=by(try dsimp only);first|(and_intros<;>with_reducible assumption)|(and_intros<;>(refine(World.cell?_setCell_other _ _ _ _ (by intro b;have c:=congrArg Addr.block b;(try simp at c);omega)).trans ?_;repeat(first|with_reducible assumption|refine(World.cell?_setCell_other _ _ _ _ (by intro b;have c:=congrArg Addr.block b;(try simp at c);omega)).trans ?_)))|(and_intros<;>assumption)|go_keep):(Code.region id ops true).wp P Q a w:=wp_region_held_drew d hS h
end
open Value (bool)
end Go.Proofs.YtdcainmlcpafbaaGreatDoor
