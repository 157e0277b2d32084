import Derived.Test.YtdcainmlcpafbaaGreatDoorProg
import Derived.WalkKit
import Derived.WalkSpells
import Derived.WalkLawsBesides
import Derived.Deep.QuietTactic
import Derived.BigQuiet
set_option linter.all false
set_option maxHeartbeats 8000000
namespace Go.Proofs.YtdcainmlcpafbaaGreatDoor
open Go.RowKit
open Value renaming int->I,slice->J,pointer->P0
open Tryz renaming prog->pG
open IntKind renaming i64->T
open Option renaming none->Z,some->Y
open Obj renaming cells->G
open Value (bool)
theorem iP{k:IntKind}{a b:Int}(h:a=b):Ending.returned (.int k a)=.returned (.int k b):=by rw[h]
theorem dW{a b:Bool}(h:a=b):Ending.returned (.bool a)=.returned (.bool b):=by rw[h]
def fI(c:Int):Int:=if c<0 then -(c+1) else c
theorem CO{c n:Int}(h:c<0):-(c+1).tmod n=fI c%n:=by
 have e:fI c = -(c+1):=by unfold fI;rw[if_pos h]
 rw[e,←Int.neg_tmod,Int.tmod_eq_emod_of_nonneg (by omega)]
theorem kS(c n:Int)(w:World)(hn:0<n)(h1:-9223372036854775808<=c)(h2:c<=9223372036854775807):
  Calls pG 14 #[I T c,I T n] w fun e w'=>e=.returned (I T (fI c%n))/\w'=w:=by
 by_cases h:c<0
 ·have H:Hid (-(c+1).tmod n=fI c%n):=CO h;go_enter Tryz.func14,Tryz.ntmps14;go_wp2;go_ret;exact⟨iP H.out,rfl⟩
 ·have H:Hid (fI c=c):=by unfold Hid fI;rw[if_neg h]
  go_enter Tryz.func14,Tryz.ntmps14;go_wp2;go_ret;exact⟨iP (by rw[H.out]),rfl⟩
def eJ(x:Int)(i:Nat):Bool:=decide (x / 2 ^ i%2≠0)
theorem I1(x:Int):(x.tmod 2 != 0)=decide (x%2≠0):=by
 rw[Bool.eq_iff_iff];simp only[bne_iff_ne,ne_eq,decide_eq_true_eq];rw[←Int.dvd_iff_tmod_eq_zero,←Int.dvd_iff_emod_eq_zero]
theorem oR(x:Int)(n:Nat)(w:World)(hn:n<=63):
  Calls pG 160 #[I T x,I T n] w fun e w'=>e=.returned (.bool (eJ x n))/\w'=w:=by
 go_enter Tryz.func160,Tryz.ntmps160;go_wp2
 go_loop [0,5] (fun s i=>∃k:Nat,k<=n/\i=I T k/\s=I T (x / 2 ^ k)) (fun _ i=>n - (intOf i).toNat)
 case atStart=>exact⟨0,Nat.zero_le _,rfl,by simp⟩
 case round=>
  obtain⟨k,hk,rfl,rfl⟩:=hrel
  by_cases hlt:k<n
  ·have H:Hid (x / 2 ^ (k+1)=x / 2 ^ k / 2):=by unfold Hid;rw[Int.pow_succ,Int.ediv_ediv_of_nonneg (Int.pow_nonneg (by omega))]
   go_wp2
   go_round
   case rel=>exact⟨k+1,by omega,by go_num,by rw[H.out]⟩
   case measure=>simp[intOf];omega
  ·have hkn:k=n:=by omega
   subst hkn;have H:Hid (((x / 2 ^ k).tmod 2 != 0)=eJ x k):=I1 _;go_wp2;go_ret;exact⟨dW H.out,rfl⟩
def KW(m:Int):Int:=IntKind.u64.wrap (bits .and .u64 (m / 2) 6148914691236517205+bits .and .u64 m 6148914691236517205)
def KX(m:Int):Int:=IntKind.u64.wrap (bits .and .u64 (m / 4) 3689348814741910323+bits .and .u64 m 3689348814741910323)
def KY(m:Int):Int:=bits .and .u64 (IntKind.u64.wrap (m / 16+m)) 1085102592571150095
def KZ(m:Int):Int:=IntKind.u64.wrap (m+m / 256)
def K0(m:Int):Int:=IntKind.u64.wrap (m+m / 65536)
def K1(m:Int):Int:=IntKind.u64.wrap (m+m / 4294967296)
def J7(m:Int):Int:=bits .and .i64 (wrap64 (K1 (K0 (KZ (KY (KX (KW m))))))) 127
def jD(m:Nat):Nat:=m%2+m / 2%2+m / 4%2+m / 8%2+m / 16%2
theorem E4:∀m,m<32->J7 ((m:Nat):Int)=((jD m:Nat):Int):=by decide +kernel
theorem CP(m:Nat)(w:World)(hm:m<32):
  Calls pG 254 #[.int .u64 m] w fun e w'=>e=.returned (I T (jD m))/\w'=w:=by
 go_enter Tryz.func254,Tryz.ntmps254;go_wp2;go_ret;refine⟨iP ?_,rfl⟩;exact E4 m hm
theorem uZ(m:Nat)(w:World)(hm:m<32):
  Calls pG 234 #[.int .u64 m] w fun e w'=>e=.returned (I T (jD m))/\w'=w:=by
 go_enter Tryz.func234,Tryz.ntmps234
 go_wp2_with fail
 refine(CP m _ hm).mono ?_;rintro e w1 ⟨rfl,rfl⟩;go_wp2;go_ret;exact⟨rfl,rfl⟩
theorem rF(oE oP oS nE nP nS:Int)(w:World):
  Calls pG 233 #[.agg #[I T oE,I T oP,I T oS],.agg #[I T nE,I T nP,I T nS]] w fun e w'=>e=.returned (I T (bits .andNot .i64 nS oS))/\Below w.heap.size w w':=by
 go_enter Tryz.func233,Tryz.ntmps233;go_wp2;go_ret;exact⟨rfl,((Below.refl _ _).alloc (Nat.le_refl _) _).alloc (by simp) _⟩
def gY(oE nE:Int):Bool:=decide (0<=oE/\oE<1000000000000/\nE=oE+1)
theorem AV(oE nE:Int)(w:World)(h1:-9223372036854775808<=oE)(h2:oE<=9223372036854775807):
  Calls pG 182 #[I T oE,I T nE] w fun e w'=>e=.returned (.bool (gY oE nE))/\w'=w:=by
 by_cases c1:0<=oE
 ·by_cases c2:oE<1000000000000
  ·have H:Hid ((nE==oE+1)=gY oE nE):=by
    unfold Hid gY;rw[Bool.eq_iff_iff];simp[c1,c2]
   go_enter Tryz.func182,Tryz.ntmps182;go_wp2;go_ret;exact⟨dW H.out,rfl⟩
  ·have H:Hid (gY oE nE=false):=by unfold Hid gY;simp;omega
   go_enter Tryz.func182,Tryz.ntmps182;go_wp2;go_ret;exact⟨dW H.out.symm,rfl⟩
 ·have H:Hid (gY oE nE=false):=by unfold Hid gY;simp;omega
  go_enter Tryz.func182,Tryz.ntmps182;go_wp2;go_ret;exact⟨dW H.out.symm,rfl⟩
theorem CQ(n:Int):bits .and .i64 n 1=n%2:=by
 have h1:(BitVec.ofInt 64 1).toNat=2 ^ 1 - 1:=by decide
 have key:(BitVec.ofInt 64 n&&&BitVec.ofInt 64 1).toNat=(n%((2 ^ 64:Nat):Int)).toNat%2 ^ 1:=by
  rw[BitVec.toNat_and,BitVec.toNat_ofInt,h1,Nat.and_two_pow_sub_one_eq_mod]
 show IntKind.i64.wrap ((BitVec.ofInt 64 n&&&BitVec.ofInt 64 1).toNat:Nat)=n%2
 rw[key,IntKind.wrap_i64];omega
theorem J8(n:Int):(bits .and .i64 n 1==1)=decide (n%2≠0):=by
 rw[CQ,Bool.eq_iff_iff];simp only[beq_iff_eq,ne_eq,decide_eq_true_eq];omega
def iA(nP nS:Int):Bool:=decide (1<=nP/\nP<=5/\1<=nS/\nS<=31)&&eJ nS (nP - 1).toNat
theorem E5(nE nP nS:Int)(w:World)(h:nP<1∨5<nP∨nS<1∨31<nS):
  Calls pG 183 #[.agg #[I T nE,I T nP,I T nS]] w fun e w'=>e=.returned (.bool false)/\Below w.heap.size w w':=by
 by_cases c1:nP<1
 ·go_enter Tryz.func183,Tryz.ntmps183;go_wp2;go_ret;exact⟨rfl,(Below.refl _ _).alloc (Nat.le_refl _) _⟩
 by_cases c2:5<nP
 ·go_enter Tryz.func183,Tryz.ntmps183;go_wp2;go_ret;exact⟨rfl,(Below.refl _ _).alloc (Nat.le_refl _) _⟩
 by_cases c3:nS<1
 ·go_enter Tryz.func183,Tryz.ntmps183;go_wp2;go_ret;exact⟨rfl,(Below.refl _ _).alloc (Nat.le_refl _) _⟩
 have c4:31<nS:=by omega
 go_enter Tryz.func183,Tryz.ntmps183;go_wp2;go_ret;exact⟨rfl,(Below.refl _ _).alloc (Nat.le_refl _) _⟩
theorem CR(nE:Int)(P S:Nat)(w:World)(h1:1<=P)(h2:P<=5)(h3:1<=S)(h4:S<=31):
  Calls pG 183 #[.agg #[I T nE,I T P,I T S]] w fun e w'=>e=.returned (.bool (eJ S (P - 1)))/\Below w.heap.size w w':=by
 go_enter Tryz.func183,Tryz.ntmps183;go_wp2;go_ret;exact⟨dW (J8 _),(Below.refl _ _).alloc (Nat.le_refl _) _⟩
theorem CS(nE nP nS:Int)(w:World):
  Calls pG 183 #[.agg #[I T nE,I T nP,I T nS]] w fun e w'=>e=.returned (.bool (iA nP nS))/\Below w.heap.size w w':=by
 by_cases h:nP<1∨5<nP∨nS<1∨31<nS
 ·have e:iA nP nS=false:=by unfold iA;rw[decide_eq_false (by omega)];rfl
  rw[e];exact E5 nE nP nS w h
 ·have e:iA nP nS=eJ nS (nP - 1).toNat:=by unfold iA;rw[decide_eq_true (by omega)];rfl
  rw[e];obtain⟨P,rfl⟩:=Int.eq_ofNat_of_zero_le (show 0<=nP by omega);obtain⟨S,rfl⟩:=Int.eq_ofNat_of_zero_le (show 0<=nS by omega);have e2:((P:Int) - 1).toNat=P - 1:=by omega
  rw[e2];exact CR nE P S w (by omega) (by omega) (by omega) (by omega)
theorem aA{p:Prop}(h:p):Hid p:=h
theorem pT(k f e b wa p s q bl v:Int)(a:Option Addr)(n c:Nat)(w:World):
  Calls pG 212 #[.agg #[I T k,I T f,I T e,I T b,I T wa,I T p,I T s,I T q,I T bl,I T v,J a n c]] w fun r w'=>
   r=.returned (.agg #[I T 0,I T e,I T b,I T wa,I T p,I T s,I T q,I T bl,I T v,I T n])/\Below w.heap.size w w':=by
 go_enter Tryz.func212,Tryz.ntmps212;go_wp2;exact bodyPost_ret (v:=.agg #[I T 0,I T e,I T b,I T wa,I T p,I T s,I T q,I T bl,I T v,I T n]) (by simp[results,Tryz.results212,go_sem]) rfl ⟨rfl,((Below.refl _ _).alloc (Nat.le_refl _) _).alloc (by simp) _⟩
theorem wY(k f n0 n1 n2 n3 n4 n5 n6 n7 n8 n9:Int)(a:Option Addr)(n c:Nat)(w:World):
  Calls pG 251 #[I T k,I T f,.agg #[I T n0,I T n1,I T n2,I T n3,I T n4,I T n5,I T n6,I T n7,I T n8,I T n9],J a n c] w fun r w'=>
   r=.returned (.agg #[I T k,I T f,I T n1,I T n2,I T n3,I T n4,I T n5,I T n6,I T n7,I T n8,J a n c])/\Below w.heap.size w w':=by
 go_enter Tryz.func251,Tryz.ntmps251;go_wp2;exact bodyPost_ret (v:=.agg #[I T k,I T f,I T n1,I T n2,I T n3,I T n4,I T n5,I T n6,I T n7,I T n8,J a n c]) (by simp[results,Tryz.results251,go_sem]) rfl ⟨rfl,((Below.refl _ _).alloc (Nat.le_refl _) _).alloc (by simp) _⟩
def iQ(s:Int×Int)(x:UInt8):Int×Int:=((s.1+(x.toNat:Int))%65521,(s.2+(s.1+(x.toNat:Int))%65521)%65521)
def dG(bs:List UInt8):Int×Int:=bs.foldl iQ (1,0)
theorem yX(s:Int×Int)(x:UInt8):0<=(iQ s x).1/\(iQ s x).1<65521/\0<=(iQ s x).2/\(iQ s x).2<65521:=by
 unfold iQ;simp only;omega
theorem nV(bs:List UInt8)(x:UInt8):dG (bs++[x])=iQ (dG bs) x:=by simp[dG]
theorem oI(bs:List UInt8):0<=(dG bs).1/\(dG bs).1<65521/\0<=(dG bs).2/\(dG bs).2<65521:=by
 rcases List.eq_nil_or_concat bs with rfl|⟨l,x,rfl⟩
 ·simp[dG]
 ·rw[List.concat_eq_append,nV];exact yX _ _
theorem nZ(bs:List UInt8)(k:Nat)(h:k<bs.length):bs.take (k+1)=bs.take k++[bs[k]]:=by
 rw[List.take_succ_eq_append_getElem h]
theorem CT(c a:Int)(h1:0<=c)(h2:c<65536)(h3:0<=a)(h4:a<65536):bits .or .i64 (c*65536) a=65536*c+a:=by
 obtain⟨C,rfl⟩:=Int.eq_ofNat_of_zero_le h1;obtain⟨A,rfl⟩:=Int.eq_ofNat_of_zero_le h3
 have e1:(BitVec.ofInt 64 ((C:Int)*65536)).toNat=C*65536:=by
  rw[show(C:Int)*65536=((C*65536:Nat):Int) by omega,BitVec.ofInt_natCast,BitVec.toNat_ofNat];exact Nat.mod_eq_of_lt (by omega)
 have e2:(BitVec.ofInt 64 (A:Int)).toNat=A:=by
  rw[BitVec.ofInt_natCast,BitVec.toNat_ofNat];exact Nat.mod_eq_of_lt (by omega)
 have e3:C*65536 ||| A=C*65536+A:=by
  have:=Nat.shiftLeft_add_eq_or_of_lt (i:=16) (b:=A) (by omega) C;rw[Nat.shiftLeft_eq]at this;exact this.symm
 show IntKind.i64.wrap ((BitVec.ofInt 64 ((C:Int)*65536) ||| BitVec.ofInt 64 (A:Int)).toNat:Int)=_
 rw[BitVec.toNat_or,e1,e2,e3,IntKind.wrap_i64];omega
def bytesAt(w:World)(v:Value)(bs:List UInt8):Prop:=
 ∃ao cap,v=J ao bs.length cap/\bs.length<=cap/\cap<=maxLen/\(bs=[]∨∃g off,ao=Y ⟨g,off,Z⟩/\∀j (h:j<bs.length),w.cell? ⟨g,off+j,Z⟩=Y (.int .u8 (bs[j].toNat:Int)))
theorem CU(bs:List UInt8)(g off cap:Nat)(w:World)(hlen:bs.length<=140737488355328)(hc:∀j (h:j<bs.length),w.cell? ⟨g,off+j,Z⟩=Y (.int .u8 (bs[j].toNat:Int))):
  Calls pG 214 #[J (Y ⟨g,off,Z⟩) bs.length cap] w fun e w'=>e=.returned (I T (65536*(dG bs).2+(dG bs).1))/\w'=w:=by
 go_enter Tryz.func214,Tryz.ntmps214;go_wp2
 go_loop [3,4,9] (fun a c i=>∃k:Nat,k<=bs.length/\i=I T k/\a=I T (dG (bs.take k)).1/\c=I T (dG (bs.take k)).2) (fun _ _ i=>bs.length - (intOf i).toNat)
 case atStart=>exact⟨0,Nat.zero_le _,rfl,rfl,rfl⟩
 case round=>
  obtain⟨k,hk,rfl,rfl,rfl⟩:=hrel;have hb:=oI (bs.take k)
  by_cases hlt:k<bs.length
  ·have H:Hid (dG (bs.take (k+1))=iQ (dG (bs.take k)) bs[k]):=by rw[nZ bs k hlt];exact nV _ _
   have hx:(bs[k].toNat:Int)<256:=by have:=bs[k].toNat_lt;omega
   have hck:=hc k hlt;go_wp2
   go_round
   case rel=>exact⟨k+1,by omega,by go_num,by rw[H.out];rfl,by rw[H.out];rfl⟩
   case measure=>simp[intOf];omega
  ·go_wp2;go_ret
   exact⟨iP (by rw[List.take_of_length_le (by omega)]at hb⊢;exact CT _ _ hb.2.2.1 (by omega) hb.1 (by omega)),rfl⟩
theorem CV(ao:Option Addr)(cap:Nat)(w:World):
  Calls pG 214 #[J ao 0 cap] w fun e w'=>e=.returned (I T 1)/\w'=w:=by
 go_enter Tryz.func214,Tryz.ntmps214;go_wp2;refine wp_loop_rounds 1 ?_;rw[rounds_succ];go_wp2;go_ret;exact⟨iP (by kernel_rfl),rfl⟩
theorem E6(bs:List UInt8)(v:Value)(w:World)(hlen:bs.length<=140737488355328)(hv:bytesAt w v bs):
  Calls pG 214 #[v] w fun e w'=>e=.returned (I T (65536*(dG bs).2+(dG bs).1))/\w'=w:=by
 obtain⟨ao,cap,rfl,_,_,rfl|⟨g,off,rfl,hc⟩⟩:=hv
 ·exact CV ao cap w
 ·exact CU bs g off cap w hlen hc
def dH(n:Int)(i:Nat):UInt8:=UInt8.ofNat (n / 2 ^ (8*i)%256).toNat
def be(n:Int):Nat->List UInt8
 |0=>[]
 |k+1=>dH n k::be n k
theorem cQ(n:Int)(k:Nat):(be n k).length=k:=by induction k with
 |zero=>rfl
 |succ k ih=>simp[be,ih]
theorem pI:(Tryz.prog.info? 5).map (fun i=>(i.zero,i.size,i.bytes))=Y (Y (.int .u8 0),1,1):=by kernel_rfl
def dL(l:List UInt8):List Value:=l.map fun x=>Value.int .u8 (x.toNat:Int)
theorem wZ(n:Int)(k:Nat)(hk:k<8):IntKind.u64.wrap n / 2 ^ (8*k)%256=((dH n k).toNat:Int):=by
 have e:((dH n k).toNat:Int)=n / 2 ^ (8*k)%256:=by
  unfold dH;rw[UInt8.toNat_ofNat'];have h0:0<=n / 2 ^ (8*k)%256:=Int.emod_nonneg _ (by omega);have h1:n / 2 ^ (8*k)%256<256:=Int.emod_lt_of_pos _ (by omega);omega
 rw[e,IntKind.wrap_u64]
 match k,hk with
 |0,_=>simp only[Nat.mul_zero,Int.pow_zero];omega
 |1,_=>show n%18446744073709551616 / 256%256=n / 256%256;omega
 |2,_=>show n%18446744073709551616 / 65536%256=n / 65536%256;omega
 |3,_=>show n%18446744073709551616 / 16777216%256=n / 16777216%256;omega
 |4,_=>show n%18446744073709551616 / 4294967296%256=n / 4294967296%256;omega
 |5,_=>show n%18446744073709551616 / 1099511627776%256=n / 1099511627776%256;omega
 |6,_=>show n%18446744073709551616 / 281474976710656%256=n / 281474976710656%256;omega
 |7,_=>show n%18446744073709551616 / 72057594037927936%256=n / 72057594037927936%256;omega
def bJ(w:World)(base:Nat)(v:Value)(bs:List UInt8):Prop:=w.ownsRow base 5 1 v bs.length (dL bs)
theorem yY(a b:List UInt8):dL (a++b)=dL a++dL b:=by simp[dL]
theorem nL(n:Int)(width:Nat)(hw8:width<=8)(base:Nat)(v:Value)(xs:List UInt8)(w:World)(hlen:xs.length<=1000000)(hown:bJ w base v xs)(hbase:base<=w.heap.size):
  Calls pG 213 #[v,I T n,I T width] w fun e w'=>∃v',e=.returned v'/\bJ w' base v' (xs++be n width)/\Below base w w':=by
 obtain⟨i0,hi,hz0,hz1,hz2⟩:=info_parts pI;go_enter Tryz.func213,Tryz.ntmps213;go_wp2
 go_loopw [0,7] (fun s i wr=>∃(k:Nat) (dn:List UInt8),k<=width/\i=I T ((k:Int) - 1)/\dn++be n k=be n width/\bJ wr base s (xs++dn)/\Below base w wr/\base<=wr.heap.size)
  (fun _ i _=>(intOf i+1).toNat)
 case atStart=>exact⟨width,[],Nat.le_refl _,rfl,rfl,by simpa using hown,Below.refl _ _,hbase⟩
 case round=>
  obtain⟨k,dn,hk,rfl,hd,ho,hb,hs⟩:=hrel;have HD:=aA hd;clear hd
  cases k with
  |zero=>
   have aA:dn=be n width:=by simpa[be] using HD.out
   subst aA;clear HD
   have hx:∃a l c,u0=J a l c:=by
    rcases ho.2 with⟨h,_⟩|⟨g,cap,_,h,_⟩
    ·exact⟨_,_,_,h⟩
    ·exact⟨_,_,_,h⟩
   obtain⟨a,l,c,rfl⟩:=hx;go_wp2;go_ret;exact⟨_,rfl,ho,hb⟩
  |succ k=>
   have HB:=wZ n k (by omega);have HB':=aA HB;clear HB;have hdl:dn.length+(k+1)=width:=by have:=congrArg List.length HD.out;simpa[cQ] using this
   go_wp2_with(at_builtin;refine wpList_append_own _ rfl _ _ 148 rfl base 5 i0 (.int .u8 0) 1 1 Tryz.underlying148 hi hz0 hz1 hz2 rfl (by decide) _ _ _ rfl (World.ownsRow.alloc ho _) ⟨wr.heap.size,0,Z⟩ 1 1 [.int .u8 (IntKind.u64.wrap n / 2 ^ (8*k)%256)] rfl rfl (cell_one_new _ _ _) ?c2 ?c3 ?c4 ?c5 ?_)
   case c2=>intro u hu;simp at hu;subst hu;rfl
   case c3=>unfold maxLen;simp;omega
   case c4=>simp;omega
   case c5=>simp;omega
   ·intro v' w1 ho' hg _;rw[HB'.out]at ho'
    have ho2:bJ w1 base v' (xs++(dn++[dH n k])):=by
     unfold bJ;have e1:(xs++(dn++[dH n k])).length=xs.length+dn.length+1:=by simp;omega
     have e2:dL (xs++(dn++[dH n k]))=dL (xs++dn)++[Value.int .u8 ((dH n k).toNat:Int)]:=by simp[dL]
     rw[e1,e2];exact ho'
    have hb2:=(hb.alloc hs _).grown hg (by simp;omega) (fun g hg=>(World.ownsRow.lt ho g hg).1);have hs2:base<=w1.heap.size:=by have:=hg.size;simp at this;omega
    have HD2:Hid ((dn++[dH n k])++be n k=be n width):=by have:=HD.out;simpa[be,Hid] using this
    clear ho' hg ho hb hs HD HB';go_wp2
    go_roundw
    case rel=>exact⟨k,dn++[dH n k],by omega,by go_num,HD2.out,ho2,hb2,hs2⟩
    case measure=>simp[intOf]
def cT:List (List Nat):=[[0,0,0,0,0],[1,2,0,0,0],[1,2,3,4,5],[1,2,4,5,0],[1,2,0,0,0],[1,2,3,0,0],[1,4,5,0,0],[1,6,7,8,0],[1,6,0,0,0],[1,6,9,0,0],[1,6,0,0,0]]
def bY(k j:Nat):Nat:=(cT.getD k []).getD j 0
def iB:List Int:=[0,0,0,0,0,0,0,0,-9223372036854775808,0]
def iC:List Int:=[0,1000000000000,1000000000000,1000000000000,5,31,1000000000000,3,9223372036854775807,4]
def fQ(f:Nat):Int:=iB.getD f 0
def fR(f:Nat):Int:=iC.getD f 0
structure aJ(w:World):Prop where
  fld:∀k j,k<11->j<5->w.cell? ⟨0,k*5+j,Z⟩=Y (I T (bY k j))
  lim:∀f,f<10->w.cell? ⟨1,f*2,Z⟩=Y (I T (fQ f))/\w.cell? ⟨1,f*2+1,Z⟩=Y (I T (fR f))
  two:2<=w.heap.size
theorem nW(k j:Nat)(hk:k<11)(hj:j<5):bY k j<10:=by
  have:∀k<11,∀j<5,bY k j<10:=by decide
  exact this k hk j hj
theorem aJ.below{w w':World}(h:aJ w){B:Nat}(hb:Below B w w')(hB:2<=B):aJ w':=
  ⟨fun k j hk hj=>(hb.cell (p:=⟨0,k*5+j,Z⟩) (by show 0<B;omega)).trans (h.fld k j hk hj),
   fun f hf=>⟨(hb.cell (p:=⟨1,f*2,Z⟩) (by show 1<B;omega)).trans (h.lim f hf).1,(hb.cell (p:=⟨1,f*2+1,Z⟩) (by show 1<B;omega)).trans (h.lim f hf).2⟩,
   Nat.le_trans h.two hb.size⟩
theorem pJ{B:Nat}{W w1:World}(hb:Below B W w1):(∀b o,b<B->w1.cell? ⟨b,o,Z⟩=W.cell? ⟨b,o,Z⟩)/\(∀b o,b<B->w1.frozen? ⟨b,o,Z⟩=W.frozen? ⟨b,o,Z⟩):=
  ⟨fun b o h=>hb.cell (p:=⟨b,o,Z⟩) h,fun b o h=>hb.frozen (p:=⟨b,o,Z⟩) h⟩
def eU(k f:Int):Bool:=decide (k<1∨10<k∨f<0∨5<=f)
theorem vA(k f e b wa p s q bl v:Int)(a:Option Addr)(n c:Nat)(w:World)(h:k<1∨10<k∨f<0∨5<=f):
    Calls pG 211 #[.agg #[I T k,I T f,I T e,I T b,I T wa,I T p,I T s,I T q,I T bl,I T v,J a n c]] w fun r w'=>
      r=.returned (.bool false)/\Below w.heap.size w w':=by
  by_cases h1:k<1
  · go_enter Tryz.func211,Tryz.ntmps211
    go_wp2;go_ret
    exact⟨rfl,(Below.refl _ _).alloc (Nat.le_refl _) _⟩
  by_cases h2:10<k
  · go_enter Tryz.func211,Tryz.ntmps211
    go_wp2;go_ret
    exact⟨rfl,(Below.refl _ _).alloc (Nat.le_refl _) _⟩
  by_cases h3:f<0
  · go_enter Tryz.func211,Tryz.ntmps211
    go_wp2;go_ret
    exact⟨rfl,(Below.refl _ _).alloc (Nat.le_refl _) _⟩
  have h4:5<=f:=by omega
  go_enter Tryz.func211,Tryz.ntmps211;go_wp2;go_ret;exact⟨rfl,(Below.refl _ _).alloc (Nat.le_refl _) _⟩
theorem rG{P:Program}{w:World}(f:Nat->Bool)(body:Nat->Option Bool×Unit->Sem (ForInStep (Option Bool×Unit))):∀(l:List Nat),
    (∀i∈l,(body i (none,())).run P w=.ok (if f i then .yield (none,()) else .done (Y false,())) w)->
    (forIn l ((none,()):Option Bool×Unit) body).run P w=.ok (if l.all f then(none,()) else(Y false,())) w
  | [],_=>by simp
  |i::l,h=>by
    rw[List.forIn_cons,Sem.run_bind,h i (by simp),Result.andThen_ok];cases hf:f i
    · simp[hf]
    · simp only[if_true,List.all_cons,hf,Bool.true_and]
      exact rG f body l fun j hj=>h j (by simp[hj])
theorem I2(w:World):(sizeOf 3).run pG w=.ok 1 w:=by kernel_rfl
theorem gE(xs:Array Value)(i:Nat)(v:Value)(h:xs[i]?=Y v)(w:World):(part 3 xs i).run pG w=.ok v w:=by
  simp[part,h,go_sem]
def jZ(l:List Int):Bool:=l==List.replicate 10 0
theorem J9(x0 x1 x2 x3 x4 x5 x6 x7 x8 x9:Int)(w:World):
   (Op.equalIn 10000 298 (.agg #[I T x0,I T x1,I T x2,I T x3,I T x4,I T x5,I T x6,I T x7,I T x8,I T x9])
     (.agg #[I T 0,I T 0,I T 0,I T 0,I T 0,I T 0,I T 0,I T 0,I T 0,I T 0])).run pG w =
   .ok (jZ [x0,x1,x2,x3,x4,x5,x6,x7,x8,x9]) w:=by
  unfold jZ;rw[show(10000:Nat)=9998+1+1 from rfl];unfold Op.equalIn;simp only[Sem.run_bind,run_underlying Tryz.underlying298,Result.andThen_ok,I2];simp only[Std.Legacy.Range.forIn_eq_forIn_range',Std.Legacy.Range.size];rw[rG (fun i=>[x0,x1,x2,x3,x4,x5,x6,x7,x8,x9].getD i 0==0)]
  · simp only[Result.andThen_ok]
    by_cases h:[x0,x1,x2,x3,x4,x5,x6,x7,x8,x9]=List.replicate 10 0
    · simp[List.replicate]at h
      simp[List.range',List.replicate,h]
    · rw[if_neg]
      · rw[beq_eq_false_iff_ne.2 h];simp
      · intro h2
        apply h
        simpa[List.range',List.replicate] using h2
  · intro i hi
    have hi:i<10:=by simp[List.mem_range']at hi;omega
    have e1:#[I T x0,I T x1,I T x2,I T x3,I T x4,I T x5,I T x6,I T x7,I T x8,I T x9][i*1]?=Y (I T ([x0,x1,x2,x3,x4,x5,x6,x7,x8,x9].getD i 0)):=by
      match i,hi with
      |0,_|1,_|2,_|3,_|4,_|5,_|6,_|7,_|8,_|9,_=>rfl
    have e2:#[I T 0,I T 0,I T 0,I T 0,I T 0,I T 0,I T 0,I T 0,I T 0,I T 0][i*1]?=Y (I T 0):=by
      match i,hi with
      |0,_|1,_|2,_|3,_|4,_|5,_|6,_|7,_|8,_|9,_=>rfl
    simp only[Sem.run_bind,gE _ _ _ e1,gE _ _ _ e2,Result.andThen_ok,run_equalIn_int w 9998 3 .i64 .i64 _ _ Tryz.underlying3];cases([x0,x1,x2,x3,x4,x5,x6,x7,x8,x9].getD i 0==0)<;>simp
def eI:List Nat->List Int->Option (List Int)
  | [],arr=>some arr
  |f::r,arr=>if arr.getD f 0<fQ f∨fR f<arr.getD f 0 then none else eI r (arr.set f 0)
def bI(k:Nat):List Nat:=cT.getD k []
def dX(k:Nat)(nums:List Int):Bool:=match eI (bI k) nums with
  |none=>false
  |some arr=>jZ arr
theorem rH{w wr:World}{B:Nat}{arr:List Int}(hal:arr.length=10)(F:Nat)(hF:F<10)(x:Int)(hw:∀a,w.cell? a=wr.cell? a)(hc:∀t,t<10->wr.cell? ⟨B,t,Z⟩=Y (I T (arr.getD t 0))):
    ∀t,t<10->(w.setCell ⟨B,F,Z⟩ (I T x)).cell? ⟨B,t,Z⟩=Y (I T ((arr.set F x).getD t 0)):=by
  intro t ht
  by_cases e:t=F
  · subst e
    rw[World.cell?_setCell_same _ _ _ ((hw _).trans (hc t ht))];simp[List.getD_eq_getElem?_getD,hal,ht]
  · rw[World.cell?_setCell_other _ _ _ _ (by intro h;cases h;exact e rfl),hw,hc t ht]
    simp[List.getD_eq_getElem?_getD,Ne.symm e]
theorem yZ(k j:Nat)(hk:k<11)(hj:j<5):(bI k).drop j=bY k j::(bI k).drop (j+1):=by
  have:∀k<11,∀j<5,(bI k).drop j=bY k j::(bI k).drop (j+1):=by decide
  exact this k hk j hj
theorem I3(x0 x1 x2 x3 x4:Value)(w:World):∀j:Nat,j<5->(Instr.index 301 (.agg #[x0,x1,x2,x3,x4]) (I T (j:Int))).run pG w=.ok ([x0,x1,x2,x3,x4].getD j undef) w
  |0,_=>by kernel_rfl
  |1,_=>by kernel_rfl
  |2,_=>by kernel_rfl
  |3,_=>by kernel_rfl
  |4,_=>by kernel_rfl
theorem oJ(k j:Nat)(hj:j<5)(w:World):(Instr.index 301 (.agg #[I T (bY k 0),I T (bY k 1),I T (bY k 2),I T (bY k 3),I T (bY k 4)]) (I T (j:Int))).run pG w=.ok (I T (bY k j)) w:=by
  rw[I3 _ _ _ _ _ w j hj]
  match j,hj with
  |0,_|1,_|2,_|3,_|4,_=>rfl
theorem pW(k:Nat)(f e b wa p s q bl v:Int)(a:Option Addr)(n c:Nat)(w:World)(h1:1<=k)(h2:k<=10)(h3:0<=f)(h4:f<5)(ht:aJ w):
    Calls pG 211 #[.agg #[I T k,I T f,I T e,I T b,I T wa,I T p,I T s,I T q,I T bl,I T v,J a n c]] w fun r w'=>
      r=.returned (.bool (dX k [0,e,b,wa,p,s,q,bl,v,n]))/\Below w.heap.size w w':=by
  have d1:decide ((k:Int)<1)=false:=by simp;omega
  have d2:decide ((10:Int)<(k:Int))=false:=by simp;omega
  have d3:decide (f<0)=false:=by simp;omega
  have d4:decide (5<=f)=false:=by simp;omega
  have tw:=ht.two;have t0:0<w.heap.size:=by omega
  have t1:1<w.heap.size:=by omega
  have r0:w.cell? ⟨0,k*5,Z⟩=_:=ht.fld k 0 (by omega) (by omega);have r1:=ht.fld k 1 (by omega) (by omega);have r2:=ht.fld k 2 (by omega) (by omega);have r3:=ht.fld k 3 (by omega) (by omega);have r4:=ht.fld k 4 (by omega) (by omega);go_enter Tryz.func211,Tryz.ntmps211
  go_wp2_with fail
  refine(pT _ _ _ _ _ _ _ _ _ _ _ _ _ _).mono ?_;rintro r w1 ⟨rfl,hb1⟩;obtain⟨hc1,hf1⟩:=pJ hb1;have hz1:w.heap.size<w1.heap.size:=by have:=hb1.size;simp at this;omega
  have g0:0<w1.heap.size:=by omega
  have g1:1<w1.heap.size:=by omega
  go_wp2_with fail
  have ht1:aJ w1:=(ht.below ((Below.refl w.heap.size w).alloc (Nat.le_refl _) _) (by omega)).below hb1 (by simp;omega);have hbb:Below w.heap.size w w1:=((Below.refl w.heap.size w).alloc (Nat.le_refl _) _).trans (hb1.mono (by simp));clear hc1 hf1 hb1 r0 r1 r2 r3 r4 ht tw t0 t1
  go_loopw [30] (fun i wr=>∃(j:Nat) (arr:List Int),j<=5/\i=I T j/\arr.length=10/\eI (bI k) [0,e,b,wa,p,s,q,bl,v,(n:Int)]=eI ((bI k).drop j) arr/\
      (∀t,t<10->wr.cell? ⟨w1.heap.size,t,Z⟩=Y (I T (arr.getD t 0)))/\(∀t,t<10->wr.frozen? ⟨w1.heap.size,t,Z⟩=false)/\Below w1.heap.size w1 wr)
    (fun i _=>5 - (intOf i).toNat)
  case atStart=>
    refine⟨0,[0,e,b,wa,p,s,q,bl,v,n],by omega,rfl,rfl,rfl,?_,?_,(Below.refl _ _).alloc (Nat.le_refl _) _⟩
    · intro t ht
      match t,ht with
      |0,_=>simp[go_sem]
      |1,_=>simp[go_sem]
      |2,_=>simp[go_sem]
      |3,_=>simp[go_sem]
      |4,_=>simp[go_sem]
      |5,_=>simp[go_sem]
      |6,_=>simp[go_sem]
      |7,_=>simp[go_sem]
      |8,_=>simp[go_sem]
      |9,_=>simp[go_sem]
    · intro t ht
      simp[go_sem]
  case round=>
    obtain⟨j,arr,hj,rfl,hal,hrun,hcell,hfroz,hbw⟩:=hrel
    by_cases hlt:j<5
    · have hdrop:=yZ k j (by omega) hlt
      have hF:=nW k j (by omega) hlt;have hidx:∀w,(Instr.index 301 (.agg #[I T (bY k 0),I T (bY k 1),I T (bY k 2),I T (bY k 3),I T (bY k 4)]) (I T (j:Int))).run pG w=.ok (I T (bY k j)) w:=oJ k j hlt;have htr:=ht1.below hbw (by omega);have cl:=(htr.lim (bY k j) hF).1;have cu:=(htr.lim (bY k j) hF).2;have cF:=hcell (bY k j) hF;have fF:=hfroz (bY k j) hF;rw[hdrop]at hrun;generalize bY k j=F at*;generalize hA:arr.getD F 0=A at*;generalize hL:fQ F=L at*;generalize hU:fR F=U1 at*;have HA:=aA hA;have HL:=aA hL;have HU:=aA hU;have HR:Hid _:=hrun;have HC:Hid _:=hcell;have HZ:Hid _:=hfroz;clear hA hL hU hrun hcell hfroz hdrop htr
      by_cases hlo:A<L
      · have hfin:Hid (dX k [0,e,b,wa,p,s,q,bl,v,n]=false):=by
          unfold Hid dX;rw[HR.out];rw[←HA.out,←HL.out]at hlo;unfold eI;rw[if_pos (Or.inl hlo)]
        go_wp2
        go_quiet (fail)
        go_wp2;go_ret
        exact⟨by rw[hfin.out];rfl,hbb.trans ((below_drewN hbw _).mono (by omega))⟩
      · have dlo:decide (A<L)=false:=by simpa using hlo
        by_cases hhi:U1<A
        · have hfin:Hid (dX k [0,e,b,wa,p,s,q,bl,v,n]=false):=by
            unfold Hid dX;rw[HR.out];rw[←HU.out,←HA.out]at hhi;unfold eI;rw[if_pos (Or.inr hhi)]
          go_wp2
          go_quiet (fail)
          go_wp2;go_ret
          exact⟨by rw[hfin.out];rfl,hbb.trans ((below_drewN hbw _).mono (by omega))⟩
        · have dhi:decide (U1<A)=false:=by simpa using hhi
          go_wp2
          have hR2:Hid (eI (bI k) [0,e,b,wa,p,s,q,bl,v,(n:Int)]=eI ((bI k).drop (j+1)) (arr.set F 0)):=by
            unfold Hid;rw[HR.out];rw[←HU.out,←HA.out]at hhi;rw[←HA.out,←HL.out]at hlo
            conv=>lhs;unfold eI
            rw[if_neg (by omega)]
          go_quiet (fail)
          go_wp2
          go_roundw
          case rel=>exact⟨j+1,arr.set F 0,by omega,by go_num,by simpa using hal,hR2.out,rH hal F hF 0 (fun _=>rfl) HC.out,fun t ht=>by simpa using HZ.out t ht,(below_drewN hbw _).setCell (Nat.le_refl _) _⟩
          case measure=>simp[intOf];omega
    · have hc0:=hcell 0 (by omega)
      have hc1:=hcell 1 (by omega);have hc2:=hcell 2 (by omega);have hc3:=hcell 3 (by omega);have hc4:=hcell 4 (by omega);have hc5:=hcell 5 (by omega);have hc6:=hcell 6 (by omega);have hc7:=hcell 7 (by omega);have hc8:=hcell 8 (by omega);have hc9:=hcell 9 (by omega)
      match arr,hal with
      | [x0,x1,x2,x3,x4,x5,x6,x7,x8,x9],_=>
        have heq:=fun w=>J9 x0 x1 x2 x3 x4 x5 x6 x7 x8 x9 w;simp only[List.getD_eq_getElem?_getD,List.getElem?_cons_zero,List.getElem?_cons_succ,Option.getD_some]at hc0 hc1 hc2 hc3 hc4 hc5 hc6 hc7 hc8 hc9
        have hfin:Hid (dX k [0,e,b,wa,p,s,q,bl,v,n]=jZ [x0,x1,x2,x3,x4,x5,x6,x7,x8,x9]):=by
          have hj5:j=5:=by omega
          subst hj5
          have hd5:(bI k).drop 5=[]:=by
            have:∀k<11,(bI k).drop 5=[]:=by decide
            exact this k (by omega)
          unfold dX;rw[hrun,hd5];rfl
        clear hrun hcell hfroz;go_wp2;go_ret;exact⟨by rw[hfin.out];rfl,hbb.trans (hbw.mono (by omega))⟩
def cE(nums vals:List Int)(f:Nat):List UInt8:=
 if f=0 then[] else if f=9 then be (nums.getD 9 0) 1++vals.flatMap (fun v=>be v 8) else be (nums.getD f 0) 8
def bZ(k f:Nat)(nums vals:List Int):List UInt8:=[UInt8.ofNat k,UInt8.ofNat f]++(bI k).flatMap (cE nums vals)
def aV(b:List UInt8):Int:=65536*(dG b).2+(dG b).1
def cH(k f:Nat)(nums vals:List Int):List UInt8:=bZ k f nums vals++be (aV (bZ k f nums vals)) 4
def bG(w:World)(ao:Option Addr)(zs:List Int):Prop:=
 zs=[]∨∃g off,ao=Y ⟨g,off,Z⟩/\g<w.heap.size/\∀j (h:j<zs.length),w.cell? ⟨g,off+j,Z⟩=Y (I T zs[j])
theorem vC(n:Int)(base:Nat)(v:Value)(xs:List UInt8)(w:World)(hlen:xs.length<=1000000)(hown:bJ w base v xs)(hbase:base<=w.heap.size):
  Calls pG 213 #[v,I T n,I T 1] w fun e w'=>∃v',e=.returned v'/\bJ w' base v' (xs++be n 1)/\Below base w w':=nL n 1 (by omega) base v xs w hlen hown hbase
theorem vD(n:Int)(base:Nat)(v:Value)(xs:List UInt8)(w:World)(hlen:xs.length<=1000000)(hown:bJ w base v xs)(hbase:base<=w.heap.size):
  Calls pG 213 #[v,I T n,I T 4] w fun e w'=>∃v',e=.returned v'/\bJ w' base v' (xs++be n 4)/\Below base w w':=nL n 4 (by omega) base v xs w hlen hown hbase
theorem pU(n:Int)(base:Nat)(v:Value)(xs:List UInt8)(w:World)(hlen:xs.length<=1000000)(hown:bJ w base v xs)(hbase:base<=w.heap.size):
  Calls pG 213 #[v,I T n,I T 8] w fun e w'=>∃v',e=.returned v'/\bJ w' base v' (xs++be n 8)/\Below base w w':=nL n 8 (by omega) base v xs w hlen hown hbase
theorem nQ(zs:List Int):(zs.flatMap (fun v=>be v 8)).length=8*zs.length:=by
 induction zs with
 |nil=>rfl
 |cons z zs ih=>simp[cQ,ih];omega
theorem uU(nums vals:List Int)(f:Nat)(h:vals.length<=4):(cE nums vals f).length<=33:=by
 unfold cE
 split
 ·simp
 split
 ·rw[List.length_append,nQ,cQ];omega
 ·rw[cQ];omega
theorem CW(nums vals:List Int)(h:vals.length<=4)(l:List Nat):(l.flatMap (cE nums vals)).length<=33*l.length:=by
 induction l with
 |nil=>simp
 |cons f l ih=>have:=uU nums vals f h;rw[List.flatMap_cons,List.length_append,List.length_cons];omega
theorem oA(k:Nat)(hk:k<11):(bI k).length=5:=by
 have:∀k<11,(bI k).length=5:=by decide
 exact this k hk
theorem qS(k j:Nat)(hk:k<11)(hj:j<5):(bI k).take (j+1)=(bI k).take j++[bY k j]:=by
 have:∀k<11,∀j<5,(bI k).take (j+1)=(bI k).take j++[bY k j]:=by decide
 exact this k hk j hj
def gD(k f:Nat)(nums vals:List Int)(j:Nat):List UInt8:=[UInt8.ofNat k,UInt8.ofNat f]++((bI k).take j).flatMap (cE nums vals)
theorem qT(k f:Nat)(nums vals:List Int)(j:Nat)(hk:k<11)(h:vals.length<=4):(gD k f nums vals j).length<=200:=by
 have h1:=CW nums vals h ((bI k).take j);have h2:((bI k).take j).length<=5:=by rw[List.length_take,oA k hk];omega
 unfold gD;simp;simp at h1 h2;omega
theorem xA(k f:Nat)(nums vals:List Int)(j:Nat)(hk:k<11)(hj:j<5):gD k f nums vals (j+1)=gD k f nums vals j++cE nums vals (bY k j):=by
 unfold gD;rw[qS k j hk hj];simp
theorem qU(k f:Nat)(nums vals:List Int)(hk:k<11):gD k f nums vals 5=bZ k f nums vals:=by
 unfold gD bZ;rw[List.take_of_length_le (by rw[oA k hk];omega)]
theorem sW{w:World}(x0 x1 x2 x3 x4 x5 x6 x7 x8 x9:Int)(t:Nat)(ht:t<10):
  (w.alloc (.cells #[I T x0,I T x1,I T x2,I T x3,I T x4,I T x5,I T x6,I T x7,I T x8,I T x9] 298)).cell? ⟨w.heap.size,t,Z⟩=Y (I T ([x0,x1,x2,x3,x4,x5,x6,x7,x8,x9].getD t 0)):=by
 rw[World.cell?_alloc_at _ _ _ _ rfl]
 match t,ht with
 |0,_|1,_|2,_|3,_|4,_|5,_|6,_|7,_|8,_|9,_=>rfl
theorem bJ.bytesAt{w:World}{base:Nat}{v:Value}{bs:List UInt8}(h:bJ w base v bs):bytesAt w v bs:=by
 obtain⟨h1,h2⟩:=h;rcases h2 with⟨rfl,h0⟩|⟨g,cap,cur,rfl,hb,hg,hn,hm,hs,hx⟩
 ·exact⟨none,0,by simp[h0],by omega,by simp[maxLen],.inl (List.eq_nil_of_length_eq_zero h0)⟩
 ·refine⟨_,cap,rfl,hn,hm,.inr ⟨g,0,rfl,fun j hj=>?_⟩⟩;have hc:=World.ownsRow.cells (w:=w) (base:=base) (e:=5) (size:=1) (v:=J (Y ⟨g,0,Z⟩) bs.length cap) (n:=bs.length) (xs:=dL bs) ⟨h1,.inr ⟨g,cap,cur,rfl,hb,hg,hn,hm,hs,hx⟩⟩ (g:=g) rfl j (.int .u8 (bs[j].toNat:Int)) (by simp[dL,hj]);have hadd:(⟨g,0,Z⟩:Addr).add j=⟨g,j,Z⟩:=by unfold Addr.add;split<;>simp_all
  rw[hadd]at hc;rw[Nat.zero_add];exact hc
theorem rI(zs:List Int)(t:Nat)(h:t<zs.length):(zs.take (t+1)).flatMap (fun v=>be v 8)=(zs.take t).flatMap (fun v=>be v 8)++be zs[t] 8:=by
 rw[List.take_succ_eq_append_getElem h,List.flatMap_append];simp only[List.flatMap_cons,List.flatMap_nil,List.append_nil]
theorem bJ.low{w:World}{base base':Nat}{v:Value}{bs:List UInt8}(h:bJ w base v bs)(hb:base'<=base):bJ w base' v bs:=by
 obtain⟨h1,h2⟩:=h;rcases h2 with h2|⟨g,cap,cur,hv,hg,r⟩
 ·exact⟨h1,.inl h2⟩
 ·exact⟨h1,.inr ⟨g,cap,cur,hv,by omega,r⟩⟩
theorem AX(k f:Nat)(e b wa p s q bl v:Int)(a:Option Addr)(zs:List Int)(c:Nat)(w:World)(h1:1<=k)(h2:k<=10)(h4:f<5)(ht:aJ w)(hl:zs.length<=4)(hz:bG w a zs)(hm:dX k [0,e,b,wa,p,s,q,bl,v,(zs.length:Int)]=true):
  Calls pG 157 #[.agg #[I T k,I T f,I T e,I T b,I T wa,I T p,I T s,I T q,I T bl,I T v,J a zs.length c]] w fun r w'=>
   ∃x,r=.returned (.tuple #[x,I T 0])/\bJ w' w.heap.size x (cH k f [0,e,b,wa,p,s,q,bl,v,(zs.length:Int)] zs)/\Below w.heap.size w w':=by
 have tw:=ht.two;have t0:0<w.heap.size:=by omega
 have t1:1<w.heap.size:=by omega
 have r0:w.cell? ⟨0,k*5,Z⟩=_:=ht.fld k 0 (by omega) (by omega);have r1:=ht.fld k 1 (by omega) (by omega);have r2:=ht.fld k 2 (by omega) (by omega);have r3:=ht.fld k 3 (by omega) (by omega);have r4:=ht.fld k 4 (by omega) (by omega);have HM:Hid _:=hm;clear hm;go_enter Tryz.func157,Tryz.ntmps157
 go_wp2_with fail
 refine(pW k f e b wa p s q bl v a zs.length c _ h1 h2 (by omega) (by omega) (ht.below ((Below.refl w.heap.size w).alloc (Nat.le_refl _) _) (by omega))).mono ?_;rintro r w1 ⟨rfl,hb1⟩;rw[HM.out];obtain⟨hc1,hf1⟩:=pJ hb1;have hz1:w.heap.size<w1.heap.size:=by have:=hb1.size;simp at this;omega
 have g0:0<w1.heap.size:=by omega
 have g1:1<w1.heap.size:=by omega
 go_wp2_with fail
 refine(pT _ _ _ _ _ _ _ _ _ _ _ _ _ _).mono ?_;rintro r w2 ⟨rfl,hb2⟩;obtain⟨hc2,hf2⟩:=pJ hb2;have hz2:w.heap.size<w2.heap.size:=by have:=hb2.size;omega
 have g02:0<w2.heap.size:=by omega
 have g12:1<w2.heap.size:=by omega
 go_wp2_with fail
 have hb12:Below w.heap.size w w2:=((Below.refl w.heap.size w).alloc (Nat.le_refl _) _).trans ((hb1.mono (by simp)).trans (hb2.mono (by omega)))
 have hbox:w2.cell? ⟨w.heap.size,10,Z⟩=Y (J a zs.length c):=by
  rw[hc2 _ _ hz1,hc1 _ _ (by simp),World.cell?_alloc_at _ _ _ _ rfl];rfl
 have hnum:=fun t ht=>sW (w:=w2) 0 e b wa p s q bl v (zs.length:Int) t ht;have htab:aJ w2:=ht.below hb12 (by omega);generalize hN:[0,e,b,wa,p,s,q,bl,v,(zs.length:Int)]=nums at*;generalize hX:w2.alloc (G #[I T 0,I T e,I T b,I T wa,I T p,I T s,I T q,I T bl,I T v,I T (zs.length:Int)] 298)=W3 at*;have hsz3:W3.heap.size=w2.heap.size+1:=by rw[←hX];simp
 have hbx3:Below w2.heap.size w2 W3:=by rw[←hX];exact(Below.refl _ _).alloc (Nat.le_refl _) _
 have hown:bJ (W3.alloc (G #[Value.int IntKind.u8 ↑k,Value.int IntKind.u8 ↑f] 5)) (w2.heap.size+1) (J (some {block:=w2.heap.size+1,off:=0}) 2 2) (gD k f nums zs 0):=by
  refine⟨by simp[gD,dL],.inr ⟨_,2,_,rfl,Nat.le_refl _,by rw[←hsz3];exact heap_alloc_new W3 _,by simp[gD],by simp[maxLen],by simp,?_⟩⟩;have e1:((UInt8.ofNat k).toNat:Int)=k:=by rw[UInt8.toNat_ofNat'];omega
  have e2:((UInt8.ofNat f).toNat:Int)=f:=by rw[UInt8.toNat_ofNat'];omega
  simp only[gD,dL,List.take_zero,List.flatMap_nil,List.append_nil,List.map_cons,List.map_nil,e1,e2];rfl
 have hbW:Below (w2.heap.size+1) W3 (W3.alloc (G #[Value.int IntKind.u8 ↑k,Value.int IntKind.u8 ↑f] 5)):=(Below.refl _ _).alloc (by omega) _;have hsW:(W3.alloc (G #[Value.int IntKind.u8 ↑k,Value.int IntKind.u8 ↑f] 5)).heap.size=w2.heap.size+2:=by simp[hsz3]
 generalize W3.alloc (G #[Value.int IntKind.u8 ↑k,Value.int IntKind.u8 ↑f] 5)=W0 at*;have htab0:aJ W0:=(htab.below hbx3 (by omega)).below hbW (by omega);have hnum0:∀t,t<10->W0.cell? ⟨w2.heap.size,t,Z⟩=Y (I T (nums.getD t 0)):=fun t ht=>(hbW.cell (by show w2.heap.size<_;omega)).trans (hnum t ht);have hbox0:W0.cell? ⟨w.heap.size,10,Z⟩=Y (J a zs.length c):=(hbW.cell (by show w.heap.size<_;omega)).trans ((hbx3.cell (by exact hz2)).trans hbox)
 have hints0:zs=[]∨∃g off,a=Y ⟨g,off,Z⟩/\g<w2.heap.size/\∀j (h:j<zs.length),W0.cell? ⟨g,off+j,Z⟩=Y (I T zs[j]):=by
  rcases hz with h|⟨g,off,h1,h2,h3⟩
  ·exact .inl h
  ·exact .inr ⟨g,off,h1,by omega,fun j hj=>(hbW.cell (by show g<_;omega)).trans ((hbx3.cell (by show g<_;omega)).trans ((hb12.cell (by exact h2)).trans (h3 j hj)))⟩
 have hbfin:Below w.heap.size w W0:=hb12.trans ((hbx3.mono (by omega)).trans (hbW.mono (by omega)));clear hc1 hf1 hc2 hf2 hb1 hb2 r0 r1 r2 r3 r4 ht tw t0 t1 hX hnum htab hbx3 hbW hbox hb12 hz hsz3;generalize hB:w2.heap.size=B at*;have HN:Hid _:=hN;clear hN hB HM
 go_loopw [5,26] (fun o i wr=>∃(j:Nat),j<=5/\i=I T j/\bJ wr (B+1) o (gD k f nums zs j)/\Below (B+1) W0 wr) (fun _ i _=>5 - (intOf i).toNat)
 case atStart=>exact⟨0,by omega,rfl,hown,Below.refl _ _⟩
 case round=>
  obtain⟨j,hj,rfl,ho,hbw⟩:=hrel;have hlen:=qT k f nums zs j (by omega) hl;have hsr:=hbw.size
  by_cases hlt:j<5
  ·have hidx:∀w,(Instr.index 301 (.agg #[I T (bY k 0),I T (bY k 1),I T (bY k 2),I T (bY k 3),I T (bY k 4)]) (I T (j:Int))).run pG w=.ok (I T (bY k j)) w:=oJ k j hlt;have hF:=nW k j (by omega) hlt;have HS:Hid _:=xA k f nums zs j (by omega) hlt;have hcF:wr.cell? ⟨B,bY k j,Z⟩=Y (I T (nums.getD (bY k j) 0)):=(hbw.cell (by show B<_;omega)).trans (hnum0 _ hF);have hcB:wr.cell? ⟨w.heap.size,10,Z⟩=Y (J a zs.length c):=(hbw.cell (by show w.heap.size<_;omega)).trans hbox0;generalize bY k j=F at*;generalize gD k f nums zs j=cur at*
   by_cases hF0:F=0
   ·subst hF0;go_wp2
    go_roundw
    case rel=>exact⟨j+1,by omega,by go_num,by rw[HS.out];simpa[cE] using ho,hbw⟩
    case measure=>simp[intOf];omega
   by_cases hF9:F=9
   ·subst hF9
    have HS2:Hid (gD k f nums zs (j+1)=cur++be (nums.getD 9 0) 1++zs.flatMap (fun v=>be v 8)):=by
     unfold Hid;rw[HS.out];simp[cE]
    clear HS hF hF0;generalize nums.getD 9 0=N at*
    go_wp2_with fail
    refine(vC N (B+1) _ cur _ (by omega) ho (by omega)).mono ?_;rintro r w5 ⟨v5,rfl,ho5,hb5⟩;have hcB5:w5.cell? ⟨w.heap.size,10,Z⟩=Y (J a zs.length c):=(hb5.cell (by show w.heap.size<_;omega)).trans hcB;have hbw5:Below (B+1) W0 w5:=hbw.trans hb5;have hs5:=hbw5.size;have hl5:(cur++be N 1).length<=201:=by rw[List.length_append,cQ];omega
    generalize cur++be N 1=cur5 at*;clear hcB hb5 ho hbw hcF hlen hsr
    go_wp2_with fail
    go_loopw [5,47] (fun o i wr=>∃(t:Nat),t<=zs.length/\i=I T t/\bJ wr (B+1) o (cur5++(zs.take t).flatMap (fun v=>be v 8))/\Below (B+1) W0 wr) (fun _ i _=>zs.length - (intOf i).toNat)
    case atStart=>exact⟨0,Nat.zero_le _,rfl,by simpa using ho5,hbw5⟩
    case round=>
     obtain⟨t,ht,rfl,ho6,hbw6⟩:=hrel;have hs6:=hbw6.size
     by_cases htl:t<zs.length
     ·obtain⟨g,off,rfl,hg,hcz⟩:∃g off,a=Y ⟨g,off,Z⟩/\g<B/\∀j (h:j<zs.length),W0.cell? ⟨g,off+j,Z⟩=Y (I T zs[j]):=by
       rcases hints0 with h|h
       ·subst h;simp at htl
       ·exact h
      have hct:wr.cell? ⟨g,off+t,Z⟩=Y (I T zs[t]):=(hbw6.cell (by show g<_;omega)).trans (hcz t htl)
      have HT:Hid (cur5++(zs.take (t+1)).flatMap (fun v=>be v 8)=(cur5++(zs.take t).flatMap (fun v=>be v 8))++be zs[t] 8):=by
       unfold Hid;rw[rI zs t htl,List.append_assoc]
      have hl6:(cur5++(zs.take t).flatMap (fun v=>be v 8)).length<=1000000:=by
       rw[List.length_append,nQ,List.length_take];omega
      generalize cur5++(zs.take t).flatMap (fun v=>be v 8)=cur6 at*;clear hcz ho5 hbw5 hints0;generalize zs[t]=Z1 at*
      go_wp2_with fail
      refine(pU Z1 (B+1) _ cur6 _ hl6 ho6 (by omega)).mono ?_;rintro r w7 ⟨v7,rfl,ho7,hb7⟩;have hbw7:=hbw6.trans hb7;clear ho6 hbw6 hb7;go_wp2
      go_roundw
      case rel=>exact⟨t+1,by omega,by go_num,by rw[HT.out];exact ho7,hbw7⟩
      case measure=>simp[intOf];omega
     ·have htz:zs.take t=zs:=List.take_of_length_le (by omega);rw[htz]at ho6;rw[←HS2.out]at ho6;clear htz ho5 hbw5 HS2;go_wp2
      go_roundw
      case rel=>exact⟨j+1,by omega,by go_num,ho6,hbw6⟩
      case measure=>simp[intOf];omega
   ·have n0:((F:Int)==0)=false:=by simp;omega
    have n9:((F:Int)==9)=false:=by simp;omega
    have HS2:Hid (gD k f nums zs (j+1)=cur++be (nums.getD F 0) 8):=by
     unfold Hid;rw[HS.out];simp[cE,hF0,hF9]
    clear HS;generalize nums.getD F 0=N at*
    go_wp2_with fail
    refine(pU N (B+1) _ cur _ (by omega) ho (by omega)).mono ?_;rintro r w5 ⟨v5,rfl,ho5,hb5⟩;have hbw5:Below (B+1) W0 w5:=hbw.trans hb5;clear ho hbw hb5;go_wp2
    go_roundw
    case rel=>exact⟨j+1,by omega,by go_num,by rw[HS2.out];exact ho5,hbw5⟩
    case measure=>simp[intOf];omega
  ·have hj5:j=5:=by omega
   subst hj5;rw[qU k f nums zs (by omega)]at ho hlen;have HE:Hid (cH k f nums zs=bZ k f nums zs++be (65536*(dG (bZ k f nums zs)).2+(dG (bZ k f nums zs)).1) 4):=rfl;generalize bZ k f nums zs=body at*
   go_wp2_with fail
   refine(E6 body _ _ (by omega) ho.bytesAt).mono ?_;rintro r w8 ⟨rfl,rfl⟩;generalize 65536*(dG body).2+(dG body).1=S at*
   go_wp2_with fail
   refine(vD S (B+1) _ body _ (by omega) ho (by omega)).mono ?_;rintro r w9 ⟨v9,rfl,ho9,hb9⟩;go_wp2
   go_ret2
   refine⟨v9,rfl,?_,hbfin.trans ((hbw.trans hb9).mono (by omega))⟩;rw[HN.out,HE.out];exact ho9.low (by omega)
def aN(k f:Int)(nums:List Int):Bool:=!eU k f&&dX k.toNat nums
theorem vE(k f e b wa p s q bl v:Int)(a:Option Addr)(n c:Nat)(w:World)(ht:aJ w):
  Calls pG 211 #[.agg #[I T k,I T f,I T e,I T b,I T wa,I T p,I T s,I T q,I T bl,I T v,J a n c]] w fun r w'=>
   r=.returned (.bool (aN k f [0,e,b,wa,p,s,q,bl,v,n]))/\Below w.heap.size w w':=by
 by_cases h:k<1∨10<k∨f<0∨5<=f
 ·have e1:aN k f [0,e,b,wa,p,s,q,bl,v,n]=false:=by simp only[aN,eU,h,decide_true,Bool.not_true,Bool.false_and]
  rw[e1];exact vA k f e b wa p s q bl v a n c w h
 ·have e1:aN k f [0,e,b,wa,p,s,q,bl,v,n]=dX k.toNat [0,e,b,wa,p,s,q,bl,v,n]:=by simp only[aN,eU,h,decide_false,Bool.not_false,Bool.true_and]
  rw[e1];obtain⟨K,rfl⟩:=Int.eq_ofNat_of_zero_le (show 0<=k by omega);exact pW K f e b wa p s q bl v a n c w (by omega) (by omega) (by omega) (by omega) ht
theorem oB(k f e b wa p s q bl v:Int)(a:Option Addr)(n c:Nat)(w:World)(ht:aJ w)(hm:aN k f [0,e,b,wa,p,s,q,bl,v,(n:Int)]=false):
  Calls pG 157 #[.agg #[I T k,I T f,I T e,I T b,I T wa,I T p,I T s,I T q,I T bl,I T v,J a n c]] w fun r w'=>
   r=.returned (.tuple #[J Z 0 0,I T 1])/\Below w.heap.size w w':=by
 have tw:=ht.two;have HM:Hid _:=hm;clear hm;go_enter Tryz.func157,Tryz.ntmps157
 go_wp2_with fail
 refine(vE k f e b wa p s q bl v a n c _ (ht.below ((Below.refl w.heap.size w).alloc (Nat.le_refl _) _) (by omega))).mono ?_;rintro r w1 ⟨rfl,hb1⟩;rw[HM.out];have hb:=((Below.refl w.heap.size w).alloc (Nat.le_refl _) _).trans (hb1.mono (by simp));go_wp2
 go_ret2
 exact⟨rfl,hb⟩
def fO(bs:List UInt8):Nat:=bs.foldl (fun n x=>n*256+x.toNat) 0
theorem nX(bs:List UInt8)(x:UInt8):fO (bs++[x])=fO bs*256+x.toNat:=by simp[fO]
theorem CX:∀(bs:List UInt8),fO bs<256 ^ bs.length:=by
 intro bs
 have key:∀(n:Nat) (bs:List UInt8),bs.length=n->fO bs<256 ^ n:=by
  intro n
  induction n with
  |zero=>intro bs h;rw[List.eq_nil_of_length_eq_zero h];decide
  |succ n ih=>
   intro bs h;rcases List.eq_nil_or_concat bs with rfl|⟨l,x,rfl⟩
   ·simp at h
   ·rw[List.concat_eq_append]at h⊢;have h2:l.length=n:=by simpa using h
    have:=ih l h2;have hx:=x.toNat_lt;rw[nX,Nat.pow_succ];omega
 exact key _ bs rfl
theorem AY(bs:List UInt8)(h:bs.length<=7):fO bs<72057594037927936:=by
 have h1:=CX bs;have h2:256 ^ bs.length<=256 ^ 7:=Nat.pow_le_pow_right (by omega) h;have h3:(256:Nat) ^ 7=72057594037927936:=by decide
 omega
def gU(bs:List UInt8):Int:=wrap64 (fO bs:Int)
structure aD(B:Nat)(w w':World):Prop where
 os:w'.os=w.os
 tape:w'.tape=w.tape
 output:w'.output=w.output
 size:w'.heap.size=w.heap.size
 block:∀k,k≠B->w'.heap[k]?=w.heap[k]?
theorem aD.setCell(w:World)(a:Addr)(u:Value):aD a.block w (w.setCell a u):=
 ⟨rfl,rfl,rfl,by simp[World.setCell],fun k hk=>Below.heap_setCell _ _ _ _ hk⟩
theorem aD.cell{B:Nat}{w w':World}(h:aD B w w'){p:Addr}(hp:p.block≠B):w'.cell? p=w.cell? p:=World.cell?_of_block (w:=w) (h.block p.block hp)
theorem aD.frozen{B:Nat}{w w':World}(h:aD B w w'){p:Addr}(hp:p.block≠B):w'.frozen? p=w.frozen? p:=World.frozen?_of_block (w:=w) (h.block p.block hp)
theorem aD.below{B C:Nat}{w w':World}(h:aD B w w')(hC:C<=B):Below C w w':=⟨h.os,h.tape,h.output,by rw[h.size];exact Nat.le_refl _,fun k hk=>h.block k (by omega)⟩
theorem CY(n:Nat)(x:UInt8)(h2:n<72057594037927936):bits .or .u64 ((n:Int)*256) (x.toNat:Int)=((n*256+x.toNat:Nat):Int):=by
 have hx:=x.toNat_lt;have e:=u64_or_nat (n*256) x.toNat (by omega) (by omega)
 have e3:n*256 ||| x.toNat=n*256+x.toNat:=by
  have:=Nat.shiftLeft_add_eq_or_of_lt (i:=8) (b:=x.toNat) (by omega) n;rw[Nat.shiftLeft_eq]at this;exact this.symm
 rw[e3]at e;rw[←e];rfl
theorem vQ(B:Nat)(ao:Option Addr)(n cap width:Nat)(w:World)(hlt:n<width)(_hw8:width<=8)(hc:w.cell? ⟨B,0,Z⟩=Y (J ao n cap))(hf:w.frozen? ⟨B,0,Z⟩=false):
  Calls pG 250 #[P0 (Y ⟨B,0,Z⟩),I T width] w fun e w'=>e=.returned (I T 0)/\w'=w.setCell ⟨B,0,Z⟩ (J Z 0 0):=by
 go_enter Tryz.func250,Tryz.ntmps250;go_wp2;go_ret;exact⟨rfl,rfl⟩
theorem xB(B g off cap:Nat)(bs:List UInt8)(width:Nat)(w:World)(hw1:1<=width)(hw8:width<=8)(hle:width<=bs.length)(hcap:bs.length<=cap)(hm:cap<=maxLen)(hc:w.cell? ⟨B,0,Z⟩=Y (J (Y ⟨g,off,Z⟩) bs.length cap))(hf:w.frozen? ⟨B,0,Z⟩=false)(hb:∀j (h:j<bs.length),w.cell? ⟨g,off+j,Z⟩=Y (.int .u8 (bs[j].toNat:Int))):
  Calls pG 250 #[P0 (Y ⟨B,0,Z⟩),I T width] w fun e w'=>e=.returned (I T (gU (bs.take width)))/\∃ao,w'=w.setCell ⟨B,0,Z⟩ (J ao (bs.length - width) (cap - width))/\(bs.length≠width->ao=Y ⟨g,off+width,Z⟩):=by
 unfold maxLen at hm;have dn:decide (bs.length<width)=false:=by simp;omega
 go_enter Tryz.func250,Tryz.ntmps250;go_wp2
 go_loop [5,25] (fun n i=>∃t:Nat,t<=width/\i=I T t/\n=.int .u64 (fO (bs.take t):Int)) (fun _ i=>width - (intOf i).toNat)
 case atStart=>exact⟨0,Nat.zero_le _,rfl,rfl⟩
 case round=>
  obtain⟨t,htw,rfl,rfl⟩:=hrel
  by_cases htl:t<width
  ·have hnb:=AY (bs.take t) (by rw[List.length_take];omega);have hct:=hb t (by omega)
   have HT:Hid (fO (bs.take (t+1))=fO (bs.take t)*256+bs[t].toNat):=by
    unfold Hid;rw[nZ bs t (by omega),nX]
   have HJ:Hid _:=CY (fO (bs.take t)) bs[t] hnb;have hx:(bs[t].toNat:Int)<256:=by have:=bs[t].toNat_lt;omega
   have htb:t<bs.length:=by omega
   generalize hX:bs[t]=X at*;generalize fO (bs.take t)=N at*;clear hX hb;go_wp2
   go_round
   case rel=>exact⟨t+1,by omega,by go_num,by rw[HT.out];exact congrArg (Value.int .u64) HJ.out⟩
   case measure=>simp[intOf];omega
  ·have htw2:t=width:=by omega
   subst htw2;clear hb;go_wp2
   ·go_ret;exact⟨rfl,_,rfl,fun h=>by omega⟩
   ·go_ret;exact⟨rfl,_,rfl,fun _=>rfl⟩
def aR(w:World)(lim:Nat)(v:Value)(bs:List UInt8):Prop:=
 ∃ao cap,v=J ao bs.length cap/\bs.length<=cap/\cap<=maxLen/\(bs=[]∨∃g off,ao=Y ⟨g,off,Z⟩/\g<lim/\∀j (h:j<bs.length),w.cell? ⟨g,off+j,Z⟩=Y (.int .u8 (bs[j].toNat:Int)))
def dO(bs:List UInt8)(width:Nat):Int:=if bs.length<width then 0 else gU (bs.take width)
def dF(bs:List UInt8)(width:Nat):List UInt8:=if bs.length<width then[] else bs.drop width
theorem qV(B lim:Nat)(v:Value)(bs:List UInt8)(width:Nat)(w:World)(hw1:1<=width)(hw8:width<=8)(hlim:lim<=B)(hc:w.cell? ⟨B,0,Z⟩=Y v)(hf:w.frozen? ⟨B,0,Z⟩=false)(hr:aR w lim v bs):
  Calls pG 250 #[P0 (Y ⟨B,0,Z⟩),I T width] w fun e w'=>e=.returned (I T (dO bs width))/\∃v',w'.cell? ⟨B,0,Z⟩=Y v'/\w'.frozen? ⟨B,0,Z⟩=false/\aR w' lim v' (dF bs width)/\aD B w w':=by
 obtain⟨ao,cap,rfl,h1,h2,h3⟩:=hr;unfold dO dF
 by_cases hlt:bs.length<width
 ·rw[if_pos hlt,if_pos hlt];refine(vQ B ao bs.length cap width w hlt hw8 hc hf).mono ?_;rintro e w' ⟨rfl,rfl⟩;exact⟨rfl,_,World.cell?_setCell_same _ _ _ hc,by simpa using hf,⟨none,0,rfl,Nat.le_refl _,by simp[maxLen],.inl rfl⟩,aD.setCell w ⟨B,0,Z⟩ _⟩
 ·rw[if_neg hlt,if_neg hlt];rcases h3 with rfl|⟨g,off,rfl,hg,hb⟩
  ·simp at hlt;omega
  refine(xB B g off cap bs width w hw1 hw8 (by omega) h1 h2 hc hf hb).mono ?_;rintro e w' ⟨rfl,ao,rfl,hao⟩;refine⟨rfl,_,World.cell?_setCell_same _ _ _ hc,by simpa using hf,⟨ao,cap - width,by simp,by simp;omega,by omega,?_⟩,aD.setCell w ⟨B,0,Z⟩ _⟩
  by_cases he:bs.length=width
  ·exact .inl (by simp[he])
  ·refine .inr ⟨g,off+width,hao he,hg,fun j hj=>?_⟩;rw[World.cell?_setCell_other _ _ _ _ (by intro h;have:=congrArg Addr.block h;simp at this;omega)];have hj2:width+j<bs.length:=by rw[List.length_drop]at hj;omega
   have:=hb (width+j) hj2;rw[Nat.add_assoc,this,List.getElem_drop]
section
set_option maxRecDepth 20000
def fG:Nat->List UInt8->List Int->List UInt8×List Int
 |0,r,zs=>(r,zs)
 |n+1,r,zs=>fG n (dF r 8) (zs++[dO r 8])
structure Gs where
 rest:List UInt8
 nums:List Int
 vals:List Int
def eY(st:Gs)(F:Nat):Gs:=
 if F=0 then st
 else if F=9 then⟨(fG (dO st.rest 1).toNat (dF st.rest 1) st.vals).1,st.nums,(fG (dO st.rest 1).toNat (dF st.rest 1) st.vals).2⟩
 else⟨dF st.rest 8,st.nums.set F (dO st.rest 8),st.vals⟩
def eS(k j:Nat)(rest:List UInt8):Gs:=((bI k).take j).foldl eY ⟨rest,List.replicate 10 0,[]⟩
theorem CZ(k j:Nat)(rest:List UInt8)(hk:k<11)(hj:j<5):eS k (j+1) rest=eY (eS k j rest) (bY k j):=by
 unfold eS;rw[qS k j hk hj,List.foldl_append];rfl
theorem AZ(st:Gs)(F:Nat):(eY st F).nums.length=st.nums.length:=by
 unfold eY
 split
 ·rfl
 split
 ·rfl
 ·simp
theorem sX(k j:Nat)(rest:List UInt8):(eS k j rest).nums.length=10:=by
 unfold eS
 have:∀(l:List Nat) (st:Gs),(l.foldl eY st).nums.length=st.nums.length:=by
  intro l
  induction l with
  |nil=>intro st;rfl
  |cons f l ih=>intro st;rw[List.foldl_cons,ih,AZ]
 rw[this];rfl
theorem qB(bs:List UInt8):∃K:Nat,dO bs 1=(K:Int)/\K<256:=by
 unfold dO
 split
 ·exact⟨0,rfl,by omega⟩
 ·rename_i h
  match bs,h with
  |x::r,_=>
   refine⟨x.toNat,?_,x.toNat_lt⟩;have hx:=x.toNat_lt;simp only[gU,List.take_succ_cons,List.take_zero,fO,List.foldl_cons,List.foldl_nil];rw[IntWalk.wrap64_in _ (by omega)];omega
theorem lU(B lim:Nat)(v:Value)(bs:List UInt8)(w:World)(hlim:lim<=B)(hc:w.cell? ⟨B,0,Z⟩=Y v)(hf:w.frozen? ⟨B,0,Z⟩=false)(hr:aR w lim v bs):
  Calls pG 250 #[P0 (Y ⟨B,0,Z⟩),I T 1] w fun e w'=>e=.returned (I T (dO bs 1))/\∃v',w'.cell? ⟨B,0,Z⟩=Y v'/\w'.frozen? ⟨B,0,Z⟩=false/\aR w' lim v' (dF bs 1)/\aD B w w':=
 qV B lim v bs 1 w (by omega) (by omega) hlim hc hf hr
theorem sY(B lim:Nat)(v:Value)(bs:List UInt8)(w:World)(hlim:lim<=B)(hc:w.cell? ⟨B,0,Z⟩=Y v)(hf:w.frozen? ⟨B,0,Z⟩=false)(hr:aR w lim v bs):
  Calls pG 250 #[P0 (Y ⟨B,0,Z⟩),I T 8] w fun e w'=>e=.returned (I T (dO bs 8))/\∃v',w'.cell? ⟨B,0,Z⟩=Y v'/\w'.frozen? ⟨B,0,Z⟩=false/\aR w' lim v' (dF bs 8)/\aD B w w':=
 qV B lim v bs 8 w (by omega) (by omega) hlim hc hf hr
theorem aD.trans{B:Nat}{a b c:World}(h:aD B a b)(k:aD B b c):aD B a c:=
 ⟨k.os.trans h.os,k.tape.trans h.tape,k.output.trans h.output,k.size.trans h.size,fun i hi=>(k.block i hi).trans (h.block i hi)⟩
theorem aR.keep{w w':World}{lim:Nat}{v:Value}{bs:List UInt8}(h:aR w lim v bs)(hb:∀b o,b<lim->w'.cell? ⟨b,o,Z⟩=w.cell? ⟨b,o,Z⟩):aR w' lim v bs:=by
 obtain⟨ao,cap,h1,h2,h3,h4⟩:=h;refine⟨ao,cap,h1,h2,h3,?_⟩;rcases h4 with h4|⟨g,off,e,hg,hc⟩
 ·exact .inl h4
 ·exact .inr ⟨g,off,e,hg,fun j hj=>(hb g _ hg).trans (hc j hj)⟩
structure GI(w wr:World)(rest:List UInt8):Prop where
 rd:∃v,wr.cell? ⟨w.heap.size+1,0,Z⟩=Y v/\aR wr w.heap.size v rest
 rf:wr.frozen? ⟨w.heap.size+1,0,Z⟩=false
 res:wr.heap[w.heap.size]?=Y (.cells #[I T 0,I T 0,I T 0,I T 0,I T 0,I T 0,I T 0,I T 0,I T 0,I T 0,J Z 0 0] 136 (0,0))
 bel:Below w.heap.size w wr
 siz:w.heap.size+2<=wr.heap.size
theorem GI.read{w wr w':World}{rest rest':List UInt8}{v':Value}(h:GI w wr rest)(hc:w'.cell? ⟨w.heap.size+1,0,Z⟩=Y v')(hf:w'.frozen? ⟨w.heap.size+1,0,Z⟩=false)(hr:aR w' w.heap.size v' rest')(hb:aD (w.heap.size+1) wr w'):GI w w' rest':=
 ⟨⟨v',hc,hr⟩,hf,(hb.block _ (by omega)).trans h.res,h.bel.trans (hb.below (by omega)),by rw[hb.size];exact h.siz⟩
theorem GI.later{w wr w':World}{rest:List UInt8}(h:GI w wr rest)(hb:Below (w.heap.size+2) wr w'):GI w w' rest:=by
 obtain⟨v,hc,hr⟩:=h.rd;refine⟨⟨v,(hb.cell (by show w.heap.size+1<_;omega)).trans hc,hr.keep fun b o hlt=>hb.cell (p:=⟨b,o,Z⟩) (by show b<_;omega)⟩,(hb.frozen (by show w.heap.size+1<_;omega)).trans h.rf,(hb.block _ (by omega)).trans h.res,h.bel.trans (hb.mono (by omega)),Nat.le_trans h.siz hb.size⟩
def bH(w:World)(base:Nat)(v:Value)(zs:List Int):Prop:=w.ownsRow base 3 1 v zs.length (zs.map (Value.int .i64))
theorem aD.grown{B:Nat}{w w':World}(h:aD B w w'):w.grownBy w' (Y B):=⟨h.os,h.tape,h.output,by rw[h.size];exact Nat.le_refl _,fun k _ hk=>h.block k (fun e=>hk (by rw[e]))⟩
theorem bH.but{w w':World}{base B:Nat}{v:Value}{zs:List Int}(h:bH w base v zs)(hb:aD B w w')(hB:B<base):bH w' base v zs:=
 World.ownsRow.kept h hb.grown (by
  right;intro e
  have:=(World.ownsRow.lt h B e).1
  omega)
theorem bH.shape{w:World}{base:Nat}{v:Value}{zs:List Int}(h:bH w base v zs):∃a c,v=J a zs.length c:=by
 rcases h.2 with⟨rfl,h0⟩|⟨g,cap,cur,rfl,_⟩
 ·exact⟨none,0,by rw[h0]⟩
 ·exact⟨_,_,rfl⟩
theorem bH.low{w:World}{base base':Nat}{v:Value}{zs:List Int}(h:bH w base v zs)(hb:base'<=base):bH w base' v zs:=by
 obtain⟨h1,h2⟩:=h;rcases h2 with h2|⟨g,cap,cur,hv,hg,r⟩
 ·exact⟨h1,.inl h2⟩
 ·exact⟨h1,.inr ⟨g,cap,cur,hv,by omega,r⟩⟩
theorem nB:(Tryz.prog.info? 3).map (fun i=>(i.zero,i.size,i.bytes))=Y (Y (I T 0),1,8):=by kernel_rfl
theorem eZ(w:World)(R:Nat)(x0 x1 x2 x3 x4 x5 x6 x7 x8 x9 x10:Value)(hs:∀i,i<11->(w.cell? ⟨R,i,Z⟩).isSome=true):
  ∃W,(((((((((((w.setCell ⟨R,0,Z⟩ x0).setCell ⟨R,1,Z⟩ x1).setCell ⟨R,2,Z⟩ x2).setCell ⟨R,3,Z⟩ x3).setCell ⟨R,4,Z⟩ x4).setCell ⟨R,5,Z⟩ x5).setCell ⟨R,6,Z⟩ x6).setCell ⟨R,7,Z⟩ x7).setCell ⟨R,8,Z⟩ x8).setCell ⟨R,9,Z⟩ x9).setCell ⟨R,10,Z⟩ x10)=W/\(W.cell? ⟨R,0,Z⟩=Y x0/\W.cell? ⟨R,1,Z⟩=Y x1/\W.cell? ⟨R,2,Z⟩=Y x2/\W.cell? ⟨R,3,Z⟩=Y x3/\W.cell? ⟨R,4,Z⟩=Y x4/\W.cell? ⟨R,5,Z⟩=Y x5/\W.cell? ⟨R,6,Z⟩=Y x6/\W.cell? ⟨R,7,Z⟩=Y x7/\W.cell? ⟨R,8,Z⟩=Y x8/\W.cell? ⟨R,9,Z⟩=Y x9/\W.cell? ⟨R,10,Z⟩=Y x10)/\aD R w W/\∀B w0,B<=R->Below B w0 w->Below B w0 W:=by
 refine⟨_,rfl,?_,?_,?_⟩
 ·have hin:=World.cell?_setCells_in R [x0,x1,x2,x3,x4,x5,x6,x7,x8,x9,x10] 0 w (fun j hj=>by rw[Nat.zero_add];exact hs j hj);exact⟨hin 0 (by simp),hin 1 (by simp),hin 2 (by simp),hin 3 (by simp),hin 4 (by simp),hin 5 (by simp),hin 6 (by simp),hin 7 (by simp),hin 8 (by simp),hin 9 (by simp),hin 10 (by simp)⟩
 ·exact(((((((((((aD.setCell w ⟨R,0,Z⟩ x0).trans (aD.setCell _ ⟨R,1,Z⟩ x1)).trans (aD.setCell _ ⟨R,2,Z⟩ x2)).trans (aD.setCell _ ⟨R,3,Z⟩ x3)).trans (aD.setCell _ ⟨R,4,Z⟩ x4)).trans (aD.setCell _ ⟨R,5,Z⟩ x5)).trans (aD.setCell _ ⟨R,6,Z⟩ x6)).trans (aD.setCell _ ⟨R,7,Z⟩ x7)).trans (aD.setCell _ ⟨R,8,Z⟩ x8)).trans (aD.setCell _ ⟨R,9,Z⟩ x9)).trans (aD.setCell _ ⟨R,10,Z⟩ x10))
 ·intro B w0 hB hb
  repeat(refine Below.setCell ?_ (show B<=R from hB) _)
  exact hb
theorem vF(t:Nat):∀(r:List UInt8) (zs:List Int),fG (t+1) r zs=(dF (fG t r zs).1 8,(fG t r zs).2++[dO (fG t r zs).1 8]):=by
 induction t with
 |zero=>intro r zs;rfl
 |succ t ih=>intro r zs;exact ih (dF r 8) (zs++[dO r 8])
theorem pX(t:Nat):∀(r:List UInt8) (zs:List Int),(fG t r zs).2.length=zs.length+t:=by
 induction t with
 |zero=>intro r zs;rfl
 |succ t ih=>intro r zs;show(fG t _ _).2.length=_;rw[ih];simp;omega
def dP(bs:List UInt8):Int:=dO bs 1
def fA(bs:List UInt8):Int:=dO (dF bs 1) 1
def dA(bs:List UInt8):Gs:=eS (dP bs).toNat 5 (dF (dF bs 1) 1)
theorem A0(bs:List UInt8)(v:Value)(w:World)(hr:aR w w.heap.size v bs)(hK:11<=dP bs):
  Calls pG 215 #[v] w fun e w'=>e=.returned (.agg #[I T 0,I T 0,I T 0,I T 0,I T 0,I T 0,I T 0,I T 0,I T 0,I T 0,J Z 0 0])/\Below w.heap.size w w':=by
 have hv:=hr;obtain⟨ao,cap,rfl,_,_,_⟩:=hv
 have hb0:Below w.heap.size w ((w.alloc (G #[I T 0,I T 0,I T 0,I T 0,I T 0,I T 0,I T 0,I T 0,I T 0,I T 0,J Z 0 0] 136)).alloc (G #[J ao bs.length cap] 334)):=
  ((Below.refl _ _).alloc (Nat.le_refl _) _).alloc (by simp) _
 have hr0:=hr.keep fun b o hlt=>hb0.cell (p:=⟨b,o,Z⟩) hlt;go_enter Tryz.func215,Tryz.ntmps215
 go_wp2_with fail
 refine(lU (w.heap.size+1) w.heap.size _ bs _ (by omega) (World.cell?_alloc_at _ _ _ _ (by simp)) (World.frozen?_alloc_at _ _ _ _ (by simp)) hr0).mono ?_;rintro e w1 ⟨rfl,v1,hc1,hf1,hr1,hb1⟩
 go_wp2_with fail
 refine(lU (w.heap.size+1) w.heap.size v1 _ _ (by omega) hc1 hf1 hr1).mono ?_;rintro e w2 ⟨rfl,v2,hc2,hf2,hr2,hb2⟩;have hK':11<=dO bs 1:=hK;have hbt:=hb1.trans hb2
 have hcR:∀i,w2.cell? ⟨w.heap.size,i,Z⟩=#[I T 0,I T 0,I T 0,I T 0,I T 0,I T 0,I T 0,I T 0,I T 0,I T 0,J Z 0 0][i]?:=fun i=>by
  rw[hbt.cell (by show w.heap.size≠_;omega),World.cell?_alloc_past _ _ _ (by simp),World.cell?_alloc_at _ _ _ _ rfl]
 have hfR:∀i,w2.frozen? ⟨w.heap.size,i,Z⟩=false:=fun i=>by
  rw[hbt.frozen (by show w.heap.size≠_;omega),World.frozen?_alloc_past _ _ _ (by simp),World.frozen?_alloc_at _ _ _ _ rfl]
 have hbel:=hb0.trans (hbt.below (by omega));clear hb0 hr0 hr1 hr2 hb1 hb2 hbt hc1 hf1;go_wp2;obtain⟨W,hW,⟨c0,c1,c2,c3,c4,c5,c6,c7,c8,c9,c10⟩,hbut,hbl⟩:=eZ w2 w.heap.size (I T 0) (I T 0) (I T 0) (I T 0) (I T 0) (I T 0) (I T 0) (I T 0) (I T 0) (I T 0) (J Z 0 0) (fun i hi=>by rw[hcR];simp;omega);rw[hW];clear hW hcR hfR hbut;exact bodyPost_ret (v:=.agg #[I T 0,I T 0,I T 0,I T 0,I T 0,I T 0,I T 0,I T 0,I T 0,I T 0,J Z 0 0]) (by simp[results,Tryz.results215,go_sem,c0,c1,c2,c3,c4,c5,c6,c7,c8,c9,c10]) rfl ⟨rfl,hbl _ _ (Nat.le_refl _) hbel⟩
theorem zA(bs:List UInt8)(v:Value)(w:World)(ht:aJ w)(hr:aR w w.heap.size v bs)(hK:dP bs<11):
  Calls pG 215 #[v] w fun e w'=>∃n1 n2 n3 n4 n5 n6 n7 n8 n0 n9 l,e=.returned (.agg #[I T (dP bs),I T (fA bs),I T n1,I T n2,I T n3,I T n4,I T n5,I T n6,I T n7,I T n8,l])/\
   (dA bs).nums=[n0,n1,n2,n3,n4,n5,n6,n7,n8,n9]/\bH w' w.heap.size l (dA bs).vals/\Below w.heap.size w w':=by
 have tw:=ht.two;have hv:=hr;obtain⟨ao,cap,rfl,_,_,_⟩:=hv
 have hb0:Below w.heap.size w ((w.alloc (G #[I T 0,I T 0,I T 0,I T 0,I T 0,I T 0,I T 0,I T 0,I T 0,I T 0,J Z 0 0] 136)).alloc (G #[J ao bs.length cap] 334)):=
  ((Below.refl _ _).alloc (Nat.le_refl _) _).alloc (by simp) _
 have hr0:=hr.keep fun b o hlt=>hb0.cell (p:=⟨b,o,Z⟩) hlt
 have hg0:GI w ((w.alloc (G #[I T 0,I T 0,I T 0,I T 0,I T 0,I T 0,I T 0,I T 0,I T 0,I T 0,J Z 0 0] 136)).alloc (G #[J ao bs.length cap] 334)) bs:=
  ⟨⟨_,World.cell?_alloc_at _ _ _ _ (by simp),hr0⟩,World.frozen?_alloc_at _ _ _ _ (by simp),by rw[Below.heap_alloc _ _ _ (by simp)];exact heap_alloc_new w _,hb0,by simp⟩
 have HE:Hid (dA bs=eS (dP bs).toNat 5 (dF (dF bs 1) 1)):=rfl;obtain⟨K,hKe,_⟩:=qB bs;have HK:Hid (dP bs=(K:Int)):=hKe;have HKT:Hid (dO bs 1=(K:Int)):=hKe;have hK11:K<11:=by have:=HK.out;omega
 have HF:Hid (fA bs=dO (dF bs 1) 1):=rfl;clear hKe hK;go_enter Tryz.func215,Tryz.ntmps215
 go_wp2_with fail
 refine(lU (w.heap.size+1) w.heap.size _ bs _ (by omega) (World.cell?_alloc_at _ _ _ _ (by simp)) (World.frozen?_alloc_at _ _ _ _ (by simp)) hr0).mono ?_;rintro e w1 ⟨rfl,v1,hc1,hf1,hr1,hb1⟩;have hg1:=hg0.read hc1 hf1 hr1 hb1;rw[HKT.out]
 go_wp2_with fail
 refine(lU (w.heap.size+1) w.heap.size v1 _ _ (by omega) hc1 hf1 hr1).mono ?_;rintro e w2 ⟨rfl,v2,hc2,hf2,hr2,hb2⟩;have hg2:=hg1.read hc2 hf2 hr2 hb2;clear hb0 hr0 hr1 hr2 hb1 hb2 hc1 hf1 hg0 hg1 hr hc2 hf2;generalize dO (dF bs 1) 1=FR at*;generalize dF (dF bs 1) 1=rest2 at*;have tab2:aJ w2:=ht.below hg2.bel (by omega);have s2:=hg2.siz;have t0:0<w2.heap.size:=by omega
 have t1:1<w2.heap.size:=by omega
 have r0:w2.cell? ⟨0,K*5,Z⟩=_:=tab2.fld K 0 (by omega) (by omega);have r1:=tab2.fld K 1 (by omega) (by omega);have r2:=tab2.fld K 2 (by omega) (by omega);have r3:=tab2.fld K 3 (by omega) (by omega);have r4:=tab2.fld K 4 (by omega) (by omega);have dk:decide ((11:Int)<=(K:Int))=false:=by simp;omega
 go_wp2_with fail
 have hgi0:GI w (w2.alloc (G #[I T 0,I T 0,I T 0,I T 0,I T 0,I T 0,I T 0,I T 0,I T 0,I T 0] 298)) rest2:=hg2.later ((Below.refl _ _).alloc s2 _);have hnum0:=fun t ht=>sW (w:=w2) 0 0 0 0 0 0 0 0 0 0 t ht;have hfrz0:∀t,t<10->(w2.alloc (G #[I T 0,I T 0,I T 0,I T 0,I T 0,I T 0,I T 0,I T 0,I T 0,I T 0] 298)).frozen? ⟨w2.heap.size,t,Z⟩=false:=fun t _=>World.frozen?_alloc_at _ _ _ _ rfl;have hsz0:w2.heap.size+1<=(w2.alloc (G #[I T 0,I T 0,I T 0,I T 0,I T 0,I T 0,I T 0,I T 0,I T 0,I T 0] 298)).heap.size:=by simp
 generalize w2.alloc (G #[I T 0,I T 0,I T 0,I T 0,I T 0,I T 0,I T 0,I T 0,I T 0,I T 0] 298)=W0 at*;generalize w2.heap.size=N at*;have HE2:Hid (dA bs=eS K 5 rest2):=by unfold Hid;rw[HE.out,HK.out];rfl
 clear r0 r1 r2 r3 r4 tab2 hg2 HE HKT t0 t1;obtain⟨i3,hi3,hz0,hz1,hz2⟩:=info_parts nB
 go_loopw [7,20] (fun l i wr=>∃(j:Nat),j<=5/\i=I T j/\GI w wr (eS K j rest2).rest/\(∀t,t<10->wr.cell? ⟨N,t,Z⟩=Y (I T ((eS K j rest2).nums.getD t 0)))/\(∀t,t<10->wr.frozen? ⟨N,t,Z⟩=false)/\
   bH wr (N+1) l (eS K j rest2).vals/\N+1<=wr.heap.size/\(eS K j rest2).vals.length<=256*j) (fun _ i _=>5 - (intOf i).toNat)
 case atStart=>exact⟨0,by omega,rfl,hgi0,hnum0,hfrz0,World.ownsRow_nil _ _ _ _,hsz0,by simp[eS]⟩
 case round=>
  obtain⟨j,hj,rfl,hgi,hnum,hfrz,hown,hsz,hvl⟩:=hrel;have hal:=sX K j rest2
  by_cases hlt:j<5
  ·have hidx:∀w,(Instr.index 301 (.agg #[I T (bY K 0),I T (bY K 1),I T (bY K 2),I T (bY K 3),I T (bY K 4)]) (I T (j:Int))).run pG w=.ok (I T (bY K j)) w:=oJ K j hlt;have hF:=nW K j hK11 hlt;have HS:Hid (eS K (j+1) rest2=eY (eS K j rest2) (bY K j)):=CZ K j rest2 hK11 hlt;have hfF:=hfrz (bY K j) hF;have hcF:=hnum (bY K j) hF;have HC:Hid _:=hnum;have HZ:Hid _:=hfrz;clear hnum hfrz;generalize bY K j=F at*;generalize eS K j rest2=st at*;obtain⟨rv,hrc,hrr⟩:=hgi.rd;have hrf:=hgi.rf
   by_cases hF0:F=0
   ·subst hF0;go_wp2
    go_roundw
    case rel=>
     have e:eS K (j+1) rest2=st:=HS.out;exact⟨j+1,by omega,by go_num,by rw[e];exact hgi,by rw[e];exact HC.out,HZ.out,by rw[e];exact hown,hsz,by rw[e];omega⟩
    case measure=>simp[intOf];omega
   by_cases hF9:F=9
   ·subst hF9;obtain⟨C,hC,hC256⟩:=qB st.rest;have HCN:Hid (dO st.rest 1=(C:Int)):=hC;clear hC
    go_wp2_with fail
    refine(lU (w.heap.size+1) w.heap.size rv st.rest _ (by omega) hrc hrf hrr).mono ?_;rintro r w5 ⟨rfl,v5,hc5,hf5,hr5,hb5⟩;have hgi5:=hgi.read hc5 hf5 hr5 hb5;have hown5:=hown.but hb5 (by omega);have hnN:N≠w.heap.size+1:=by omega
    have HC5:Hid (∀t,t<10->w5.cell? ⟨N,t,Z⟩=Y (I T (st.nums.getD t 0))):=fun t ht=>(hb5.cell (by exact hnN)).trans (HC.out t ht);have HZ5:Hid (∀t,t<10->w5.frozen? ⟨N,t,Z⟩=false):=fun t ht=>(hb5.frozen (by exact hnN)).trans (HZ.out t ht);have hs5:N+1<=w5.heap.size:=by rw[hb5.size];exact hsz
    rw[HCN.out]
    have HS2:Hid (eS K (j+1) rest2=⟨(fG C (dF st.rest 1) st.vals).1,st.nums,(fG C (dF st.rest 1) st.vals).2⟩):=by
     unfold Hid;rw[HS.out];unfold eY;rw[if_neg (by omega),if_pos rfl,HCN.out];rfl
    clear hcF hfF hrc hrf hrr hc5 hf5 hr5 hb5 HC HZ hgi hown HS HCN hgi0 hnum0 hfrz0 hsz0;generalize dF st.rest 1=rest5 at*
    go_wp2_with fail
    go_loopw [7,32] (fun l i wr=>∃(t:Nat),t<=C/\i=I T t/\GI w wr (fG t rest5 st.vals).1/\(∀t,t<10->wr.cell? ⟨N,t,Z⟩=Y (I T (st.nums.getD t 0)))/\(∀t,t<10->wr.frozen? ⟨N,t,Z⟩=false)/\
     bH wr (N+1) l (fG t rest5 st.vals).2/\N+1<=wr.heap.size) (fun _ i _=>C - (intOf i).toNat)
    case atStart=>exact⟨0,by omega,rfl,hgi5,HC5.out,HZ5.out,hown5,hs5⟩
    case round=>
     clear hgi5 HC5 HZ5 hown5 hs5;obtain⟨t,htC,rfl,hgi6,hnum6,hfrz6,hown6,hs6⟩:=hrel;have hvl6:=pX t rest5 st.vals
     by_cases htl:t<C
     ·have HR:Hid _:=vF t rest5 st.vals;generalize fG t rest5 st.vals=pr at*;obtain⟨rv6,hrc6,hrr6⟩:=hgi6.rd;have hrf6:=hgi6.rf;have HC6:Hid _:=hnum6;have HZ6:Hid _:=hfrz6;clear hnum6 hfrz6
      go_wp2_with fail
      refine(sY (w.heap.size+1) w.heap.size rv6 pr.1 _ (by omega) hrc6 hrf6 hrr6).mono ?_;rintro r w7 ⟨rfl,v7,hc7,hf7,hr7,hb7⟩;have hgi7:=hgi6.read hc7 hf7 hr7 hb7;have hown7:=hown6.but hb7 (by omega);have HC7:Hid (∀t,t<10->w7.cell? ⟨N,t,Z⟩=Y (I T (st.nums.getD t 0))):=fun t ht=>(hb7.cell (by exact hnN)).trans (HC6.out t ht);have HZ7:Hid (∀t,t<10->w7.frozen? ⟨N,t,Z⟩=false):=fun t ht=>(hb7.frozen (by exact hnN)).trans (HZ6.out t ht);have hs7:N+1<=w7.heap.size:=by rw[hb7.size];exact hs6
      clear hrc6 hrf6 hrr6 hc7 hf7 hr7 hb7 HC6 HZ6 hgi6 hown6;generalize dO pr.1 8=TN at*;generalize dF pr.1 8=R7 at*;obtain⟨pr1,pr2⟩:=pr;dsimp only at hown7 HR hvl6
      go_wp2_with(at_builtin;refine wpList_append_own _ rfl _ _ 59 rfl (N+1) 3 i3 (I T 0) 1 8 Tryz.underlying59 hi3 hz0 hz1 hz2 rfl (by decide) _ _ _ rfl (World.ownsRow.alloc hown7 _) ⟨w7.heap.size,0,Z⟩ 1 1 [I T TN] rfl rfl (cell_one_new _ _ _) ?c2 ?c3 ?c4 ?c5 ?_)
      case c2=>intro u hu;simp at hu;subst hu;rfl
      case c3=>unfold maxLen;omega
      case c4=>omega
      case c5=>simp;omega
      ·intro v' w9 ho' hg _
       have ho2:bH w9 (N+1) v' (pr2++[TN]):=by
        unfold bH;rw[List.length_append,List.map_append,hvl6];exact ho'
       have hbb:Below (N+1) w7 w9:=((Below.refl _ _).alloc hs7 _).grown hg (by simp;omega) (fun g hg=>(World.ownsRow.lt hown7 g hg).1);have hgi9:=hgi7.later (hbb.mono (by omega));have hs9:N+1<=w9.heap.size:=Nat.le_trans hs7 hbb.size;have HC9:Hid (∀t,t<10->w9.cell? ⟨N,t,Z⟩=Y (I T (st.nums.getD t 0))):=fun t ht=>(hbb.cell (by show N<N+1;omega)).trans (HC7.out t ht);have HZ9:Hid (∀t,t<10->w9.frozen? ⟨N,t,Z⟩=false):=fun t ht=>(hbb.frozen (by show N<N+1;omega)).trans (HZ7.out t ht);clear ho' hg hown7 hgi7 HC7 HZ7 hs7 hbb;go_wp2
       go_roundw
       case rel=>exact⟨t+1,by omega,by go_num,by rw[HR.out];exact hgi9,HC9.out,HZ9.out,by rw[HR.out];exact ho2,hs9⟩
       case measure=>simp[intOf];omega
     ·have htC2:t=C:=by omega
      subst htC2;clear hvl6;have hvl7:=pX t rest5 st.vals;have HV:Hid _:=hvl7;clear hvl7;go_wp2
      go_roundw
      case rel=>
       refine⟨j+1,by omega,by go_num,by rw[HS2.out];exact hgi6,by rw[HS2.out];exact hnum6,hfrz6,by rw[HS2.out];exact hown6,hs6,by rw[HS2.out];show(fG t rest5 st.vals).2.length<=_;rw[HV.out];omega⟩
      case measure=>simp[intOf];omega
   ·have n0:((F:Int)==0)=false:=by simp;omega
    have n9:((F:Int)==9)=false:=by simp;omega
    go_wp2_with fail
    refine(sY (w.heap.size+1) w.heap.size rv st.rest _ (by omega) hrc hrf hrr).mono ?_;rintro r w5 ⟨rfl,v5,hc5,hf5,hr5,hb5⟩;have hgi5:=hgi.read hc5 hf5 hr5 hb5;have hown5:=hown.but hb5 (by omega);have hnN:N≠w.heap.size+1:=by omega
    have HC5:Hid (∀t,t<10->w5.cell? ⟨N,t,Z⟩=Y (I T (st.nums.getD t 0))):=fun t ht=>(hb5.cell (by exact hnN)).trans (HC.out t ht);have HZ5:Hid (∀t,t<10->w5.frozen? ⟨N,t,Z⟩=false):=fun t ht=>(hb5.frozen (by exact hnN)).trans (HZ.out t ht);have hcF5:=HC5.out F hF;have hfF5:=HZ5.out F hF;have hs5:w5.heap.size=wr.heap.size:=hb5.size;clear hcF hfF hrc hrf hrr hc5 hf5 hr5 hb5 HC HZ hgi hown;generalize hTN:dO st.rest 8=TN at*;have HTN:Hid (dO st.rest 8=TN):=hTN;clear hTN;go_wp2
    go_roundw
    case rel=>
     have e:eS K (j+1) rest2=⟨dF st.rest 8,st.nums.set F TN,st.vals⟩:=by
      rw[HS.out,←HTN.out];unfold eY;rw[if_neg hF0,if_neg hF9]
     refine⟨j+1,by omega,by go_num,by rw[e];exact hgi5.later ((Below.refl _ _).setCell (by show w.heap.size+2<=N;omega) _),by rw[e];exact rH hal F hF TN (fun _=>rfl) HC5.out,fun t ht=>by simpa using HZ5.out t ht,by rw[e];exact ownsRow_setCell_below hown5 (by show N<N+1;omega) _,by simp[World.setCell];omega,by rw[e];show st.vals.length<=_;omega⟩
    case measure=>simp[intOf];omega
  ·have hj5:j=5:=by omega
   subst hj5;rw[←HE2.out]at hgi hnum hown hal;generalize hEq:dA bs=st at*;obtain⟨sr,sn,sv⟩:=st;have HEq:Hid (dA bs=⟨sr,sn,sv⟩):=hEq;clear hEq;dsimp only at hgi hnum hown hal;obtain⟨la,lc,rfl⟩:=hown.shape
   match sn,hal with
   | [n0,n1,n2,n3,n4,n5,n6,n7,n8,n9],_=>
    have c0:wr.cell? ⟨N,0,Z⟩=Y (I T n0):=hnum 0 (by omega);have c1:wr.cell? ⟨N,1,Z⟩=Y (I T n1):=hnum 1 (by omega);have c2:wr.cell? ⟨N,2,Z⟩=Y (I T n2):=hnum 2 (by omega);have c3:wr.cell? ⟨N,3,Z⟩=Y (I T n3):=hnum 3 (by omega);have c4:wr.cell? ⟨N,4,Z⟩=Y (I T n4):=hnum 4 (by omega);have c5:wr.cell? ⟨N,5,Z⟩=Y (I T n5):=hnum 5 (by omega);have c6:wr.cell? ⟨N,6,Z⟩=Y (I T n6):=hnum 6 (by omega);have c7:wr.cell? ⟨N,7,Z⟩=Y (I T n7):=hnum 7 (by omega);have c8:wr.cell? ⟨N,8,Z⟩=Y (I T n8):=hnum 8 (by omega);have c9:wr.cell? ⟨N,9,Z⟩=Y (I T n9):=hnum 9 (by omega);clear hnum hfrz HE2 hgi0 hnum0 hfrz0 hsz0
    go_wp2_with fail
    refine(wY _ _ _ _ _ _ _ _ _ _ _ _ _ _ _ _).mono ?_;rintro r w8 ⟨rfl,hb8⟩;have hg8:GI w w8 sr:=hgi.later (hb8.mono (by have:=hgi.siz;omega))
    have hcR:∀i,w8.cell? ⟨w.heap.size,i,Z⟩=#[I T 0,I T 0,I T 0,I T 0,I T 0,I T 0,I T 0,I T 0,I T 0,I T 0,J Z 0 0][i]?:=fun i=>by
     simp[World.cell?,hg8.res]
    have hfR:∀i,w8.frozen? ⟨w.heap.size,i,Z⟩=false:=fun i=>by
     simp[World.frozen?,hg8.res]
    clear c0 c1 c2 c3 c4 c5 c6 c7 c8 c9;go_wp2;obtain⟨W,hW,⟨c0,c1,c2,c3,c4,c5,c6,c7,c8,c9,c10⟩,hbut,hbl⟩:=eZ w8 w.heap.size (I T K) (I T FR) (I T n1) (I T n2) (I T n3) (I T n4) (I T n5) (I T n6) (I T n7) (I T n8) (J la sv.length lc) (fun i hi=>by rw[hcR];simp;omega);have hown8:bH w8 (N+1) (J la sv.length lc) sv:=World.ownsRow.kept hown ⟨hb8.os,hb8.tape,hb8.output,hb8.size,fun k hk _=>hb8.block k hk⟩ (row:=none) (by simp[Value.ownBlock];cases la<;>simp);have hownW:=(hown8.but hbut (by omega)).low (show w.heap.size<=N+1 by omega);have hbelW:=hbl _ _ (Nat.le_refl _) hg8.bel;rw[hW];clear hW hcR hfR hbut hown8 hown hb8 hg8 hgi
    exact bodyPost_ret (v:=.agg #[I T K,I T FR,I T n1,I T n2,I T n3,I T n4,I T n5,I T n6,I T n7,I T n8,J la sv.length lc]) (by simp[results,Tryz.results215,go_sem,c0,c1,c2,c3,c4,c5,c6,c7,c8,c9,c10]) rfl
     ⟨n1,n2,n3,n4,n5,n6,n7,n8,n0,n9,J la sv.length lc,by rw[HK.out,HF.out],by rw[HEq.out],by rw[HEq.out];exact hownW,hbelW⟩
end
end Go.Proofs.YtdcainmlcpafbaaGreatDoor
