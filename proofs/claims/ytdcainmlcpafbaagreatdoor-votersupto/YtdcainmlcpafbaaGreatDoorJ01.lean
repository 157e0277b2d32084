import Derived.Test.YtdcainmlcpafbaaGreatDoorJ00
import Derived.Laws.IdiomStrings
import Derived.Laws.BytesArg
import Derived.Deep.RegionHeld3
import Derived.Deep.CutRange
set_option linter.all false
set_option maxHeartbeats 8000000
namespace Go.Proofs.YtdcainmlcpafbaaGreatDoor
open Value renaming int->I,slice->J,pointer->P0
open Tryz renaming prog->pG
open IntKind renaming i64->T
open Option renaming none->Z,some->Y
open Obj renaming cells->G
theorem iH(a0 a1 a2 a3 a4 a5 a6 a7 a8 a9:Int):jZ [a0,a1,a2,a3,a4,a5,a6,a7,a8,a9]=true↔a0=0/\a1=0/\a2=0/\a3=0/\a4=0/\a5=0/\a6=0/\a7=0/\a8=0/\a9=0:=by
 simp[jZ,List.replicate]
def gK:Option (List Int)->Bool
 |none=>false
 |some a=>jZ a
theorem iK(k:Nat)(nums:List Int):dX k nums=gK (eI (bI k) nums):=by
 unfold dX;cases eI (bI k) nums<;>rfl
theorem bW(f:Nat)(r:List Nat)(arr:List Int):gK (eI (f::r) arr)=true↔(fQ f<=arr.getD f 0/\arr.getD f 0<=fR f)/\gK (eI r (arr.set f 0))=true:=by
 rw[eI]
 by_cases h:arr.getD f 0<fQ f∨fR f<arr.getD f 0
 ·rw[if_pos h];constructor
  ·intro h2;simp[gK]at h2
  ·rintro⟨h2,_⟩;omega
 ·rw[if_neg h];constructor
  ·intro h2;exact⟨by omega,h2⟩
  ·rintro⟨_,h2⟩;exact h2
theorem jH(e b wa p s q bl v n:Int):dX 1 [0,e,b,wa,p,s,q,bl,v,n]=true↔(0<=e/\e<=1000000000000)/\(0<=b/\b<=1000000000000)/\wa=0/\p=0/\s=0/\q=0/\bl=0/\v=0/\n=0:=by
 rw[iK];rw[show bI 1=[1,2,0,0,0] from rfl];rw[bW,bW,bW,bW,bW];simp only[fQ,fR,iB,iC,List.getD_eq_getElem?_getD,List.set_cons_zero,List.set_cons_succ,List.getElem?_cons_zero,List.getElem?_cons_succ,Option.getD_some,eI,gK,iH,true_and]
 all_goals omega
theorem lB(e b wa p s q bl v n:Int):dX 2 [0,e,b,wa,p,s,q,bl,v,n]=true↔(0<=e/\e<=1000000000000)/\(0<=b/\b<=1000000000000)/\(0<=wa/\wa<=1000000000000)/\(0<=p/\p<=5)/\(0<=s/\s<=31)/\q=0/\bl=0/\v=0/\n=0:=by
 rw[iK];rw[show bI 2=[1,2,3,4,5] from rfl];rw[bW,bW,bW,bW,bW];simp only[fQ,fR,iB,iC,List.getD_eq_getElem?_getD,List.set_cons_zero,List.set_cons_succ,List.getElem?_cons_zero,List.getElem?_cons_succ,Option.getD_some,eI,gK,iH,true_and]
 all_goals omega
theorem jI(e b wa p s q bl v n:Int):dX 3 [0,e,b,wa,p,s,q,bl,v,n]=true↔(0<=e/\e<=1000000000000)/\(0<=b/\b<=1000000000000)/\(0<=p/\p<=5)/\(0<=s/\s<=31)/\wa=0/\q=0/\bl=0/\v=0/\n=0:=by
 rw[iK];rw[show bI 3=[1,2,4,5,0] from rfl];rw[bW,bW,bW,bW,bW];simp only[fQ,fR,iB,iC,List.getD_eq_getElem?_getD,List.set_cons_zero,List.set_cons_succ,List.getElem?_cons_zero,List.getElem?_cons_succ,Option.getD_some,eI,gK,iH,true_and]
 all_goals omega
theorem lC(e b wa p s q bl v n:Int):dX 4 [0,e,b,wa,p,s,q,bl,v,n]=true↔(0<=e/\e<=1000000000000)/\(0<=b/\b<=1000000000000)/\wa=0/\p=0/\s=0/\q=0/\bl=0/\v=0/\n=0:=by
 rw[iK];rw[show bI 4=[1,2,0,0,0] from rfl];rw[bW,bW,bW,bW,bW];simp only[fQ,fR,iB,iC,List.getD_eq_getElem?_getD,List.set_cons_zero,List.set_cons_succ,List.getElem?_cons_zero,List.getElem?_cons_succ,Option.getD_some,eI,gK,iH,true_and]
 all_goals omega
theorem lE(e b wa p s q bl v n:Int):dX 5 [0,e,b,wa,p,s,q,bl,v,n]=true↔(0<=e/\e<=1000000000000)/\(0<=b/\b<=1000000000000)/\(0<=wa/\wa<=1000000000000)/\p=0/\s=0/\q=0/\bl=0/\v=0/\n=0:=by
 rw[iK];rw[show bI 5=[1,2,3,0,0] from rfl];rw[bW,bW,bW,bW,bW];simp only[fQ,fR,iB,iC,List.getD_eq_getElem?_getD,List.set_cons_zero,List.set_cons_succ,List.getElem?_cons_zero,List.getElem?_cons_succ,Option.getD_some,eI,gK,iH,true_and]
 all_goals omega
theorem jJ(e b wa p s q bl v n:Int):dX 6 [0,e,b,wa,p,s,q,bl,v,n]=true↔(0<=e/\e<=1000000000000)/\(0<=p/\p<=5)/\(0<=s/\s<=31)/\b=0/\wa=0/\q=0/\bl=0/\v=0/\n=0:=by
 rw[iK];rw[show bI 6=[1,4,5,0,0] from rfl];rw[bW,bW,bW,bW,bW];simp only[fQ,fR,iB,iC,List.getD_eq_getElem?_getD,List.set_cons_zero,List.set_cons_succ,List.getElem?_cons_zero,List.getElem?_cons_succ,Option.getD_some,eI,gK,iH,true_and]
 all_goals omega
theorem kA(e b wa p s q bl v n:Int):dX 7 [0,e,b,wa,p,s,q,bl,v,n]=true↔(0<=e/\e<=1000000000000)/\(0<=q/\q<=1000000000000)/\(0<=bl/\bl<=3)/\(-9223372036854775808<=v/\v<=9223372036854775807)/\b=0/\wa=0/\p=0/\s=0/\n=0:=by
 rw[iK];rw[show bI 7=[1,6,7,8,0] from rfl];rw[bW,bW,bW,bW,bW];simp only[fQ,fR,iB,iC,List.getD_eq_getElem?_getD,List.set_cons_zero,List.set_cons_succ,List.getElem?_cons_zero,List.getElem?_cons_succ,Option.getD_some,eI,gK,iH,true_and]
 all_goals omega
theorem lF(e b wa p s q bl v n:Int):dX 8 [0,e,b,wa,p,s,q,bl,v,n]=true↔(0<=e/\e<=1000000000000)/\(0<=q/\q<=1000000000000)/\b=0/\wa=0/\p=0/\s=0/\bl=0/\v=0/\n=0:=by
 rw[iK];rw[show bI 8=[1,6,0,0,0] from rfl];rw[bW,bW,bW,bW,bW];simp only[fQ,fR,iB,iC,List.getD_eq_getElem?_getD,List.set_cons_zero,List.set_cons_succ,List.getElem?_cons_zero,List.getElem?_cons_succ,Option.getD_some,eI,gK,iH,true_and]
 all_goals omega
theorem kB(e b wa p s q bl v n:Int):dX 9 [0,e,b,wa,p,s,q,bl,v,n]=true↔(0<=e/\e<=1000000000000)/\(0<=q/\q<=1000000000000)/\(0<=n/\n<=4)/\b=0/\wa=0/\p=0/\s=0/\bl=0/\v=0:=by
 rw[iK];rw[show bI 9=[1,6,9,0,0] from rfl];rw[bW,bW,bW,bW,bW];simp only[fQ,fR,iB,iC,List.getD_eq_getElem?_getD,List.set_cons_zero,List.set_cons_succ,List.getElem?_cons_zero,List.getElem?_cons_succ,Option.getD_some,eI,gK,iH,true_and,and_true]
 all_goals omega
theorem kT(e b wa p s q bl v n:Int):dX 10 [0,e,b,wa,p,s,q,bl,v,n]=true↔(0<=e/\e<=1000000000000)/\(0<=q/\q<=1000000000000)/\b=0/\wa=0/\p=0/\s=0/\bl=0/\v=0/\n=0:=by
 rw[iK];rw[show bI 10=[1,6,0,0,0] from rfl];rw[bW,bW,bW,bW,bW];simp only[fQ,fR,iB,iC,List.getD_eq_getElem?_getD,List.set_cons_zero,List.set_cons_succ,List.getElem?_cons_zero,List.getElem?_cons_succ,Option.getD_some,eI,gK,iH,true_and]
 all_goals omega
section
open Go.RowKit
open Value (bool)
set_option maxRecDepth 20000
def aC(bs:List UInt8):ByteArray:=⟨bs.toArray⟩
theorem kO{w:World}{v:Value}{bs:List UInt8}(h:bytesAt w v bs):(convert 148 9 v).run pG w=.ok (.string (aC bs)) w:=by
 obtain⟨ao,cap,rfl,_,_,h4⟩:=h;rcases h4 with rfl|⟨g,off,rfl,hc⟩
 ·cases ao with
  |none=>exact run_convert_bytes_nil w 148 5 Tryz.underlying148 Tryz.underlying5 0 cap 9 Tryz.underlying9
  |some a=>exact run_convert_bytes_back w 148 9 5 a cap [] Tryz.underlying148 Tryz.underlying5 Tryz.underlying9 (fun j hj=>by simp at hj)
 ·exact run_convert_bytes_back w 148 9 5 ⟨g,off,Z⟩ cap bs Tryz.underlying148 Tryz.underlying5 Tryz.underlying9 (fun j hj=>by
   have hadd:(⟨g,off,Z⟩:Addr).add j=⟨g,off+j,Z⟩:=by unfold Addr.add;split<;>simp_all
   rw[hadd];exact hc j hj)
theorem A1(v1 v2:Value)(b1 b2:List UInt8)(w:World)(h1:bytesAt w v1 b1)(h2:bytesAt w v2 b2):
  Calls pG 216 #[v1,v2] w fun e w'=>e=.returned (.bool (b1==b2))/\w'=w:=by
 have c1:=kO h1;have c2:=kO h2
 have H:Hid (((aC b1).toList==(aC b2).toList)=(b1==b2)):=by
  unfold Hid;rw[←beq_toListBytes];show((⟨b1⟩:Array UInt8)==⟨b2⟩)=(b1==b2)
  simp
 go_enter Tryz.func216,Tryz.ntmps216;go_wp2;go_ret;exact⟨congrArg (fun b=>Ending.returned (.bool b)) H.out,rfl⟩
theorem lQ{k f e b wa p s q bl v:Int}{n:Nat}(h:aN k f [0,e,b,wa,p,s,q,bl,v,(n:Int)]=true):1<=k/\k<=10/\0<=f/\f<5/\n<=4:=by
 unfold aN at h;rw[Bool.and_eq_true]at h;obtain⟨h1,h2⟩:=h;have h3:¬(k<1∨10<k∨f<0∨5<=f):=by simpa[eU] using h1
 refine⟨by omega,by omega,by omega,by omega,?_⟩;obtain⟨K,rfl⟩:=Int.eq_ofNat_of_zero_le (show 0<=k by omega);rw[show(K:Int).toNat=K by simp]at h2;have hK:1<=K/\K<=10:=by omega
 match K,hK with
 |1,_=>rw[jH]at h2;omega
 |2,_=>rw[lB]at h2;omega
 |3,_=>rw[jI]at h2;omega
 |4,_=>rw[lC]at h2;omega
 |5,_=>rw[lE]at h2;omega
 |6,_=>rw[jJ]at h2;omega
 |7,_=>rw[kA]at h2;omega
 |8,_=>rw[lF]at h2;omega
 |9,_=>rw[kB]at h2;omega
 |10,_=>rw[kT]at h2;omega
theorem bH.ints{w:World}{base:Nat}{a:Option Addr}{n c:Nat}{zs:List Int}(h:bH w base (J a n c) zs):n=zs.length/\bG w a zs:=by
 have h0:=h;obtain⟨h1,h2⟩:=h;rcases h2 with⟨he,hn0⟩|⟨g,cap,cur,he,hb,hg,hn,hm,hs,hx⟩
 ·cases he;exact⟨hn0.symm,.inl (List.eq_nil_of_length_eq_zero hn0)⟩
 ·cases he;refine⟨rfl,.inr ⟨g,0,rfl,(Array.getElem?_eq_some_iff.1 hg).1,fun j hj=>?_⟩⟩;have hc:=World.ownsRow.cells h0 (g:=g) rfl j (I T zs[j]) (by simp[hj]);have hadd:(⟨g,0,Z⟩:Addr).add j=⟨g,j,Z⟩:=by unfold Addr.add;split<;>simp_all
  rw[hadd]at hc;rw[Nat.zero_add];exact hc
theorem jW(k f e b wa p s q bl v:Int)(a:Option Addr)(zs:List Int)(c:Nat)(w:World)(ht:aJ w)(hz:bG w a zs)(hm:aN k f [0,e,b,wa,p,s,q,bl,v,(zs.length:Int)]=true):
  Calls pG 157 #[.agg #[I T k,I T f,I T e,I T b,I T wa,I T p,I T s,I T q,I T bl,I T v,J a zs.length c]] w fun r w'=>
   ∃x,r=.returned (.tuple #[x,I T 0])/\bJ w' w.heap.size x (cH k.toNat f.toNat [0,e,b,wa,p,s,q,bl,v,(zs.length:Int)] zs)/\Below w.heap.size w w':=by
 obtain⟨h1,h2,h3,h4,h5⟩:=lQ hm;unfold aN at hm;rw[Bool.and_eq_true]at hm;obtain⟨K,rfl⟩:=Int.eq_ofNat_of_zero_le (show 0<=k by omega);obtain⟨F,rfl⟩:=Int.eq_ofNat_of_zero_le h3;exact AX K F e b wa p s q bl v a zs c w (by omega) (by omega) (by omega) ht h5 hz hm.2
def gL(bs:List UInt8):List Int:=((dA bs).nums.set 0 0).set 9 ((dA bs).vals.length:Int)
def iT(bs:List UInt8):List UInt8:=cH (dP bs).toNat (fA bs).toNat (gL bs) (dA bs).vals
def iX(bs:List UInt8):Bool:=aN (dP bs) (fA bs) (gL bs)
def eL(bs:List UInt8):Bool:=iX bs&&(iT bs==bs)
theorem aR.wide{w:World}{lim lim':Nat}{v:Value}{bs:List UInt8}(h:aR w lim v bs)(hl:lim<=lim'):aR w lim' v bs:=by
 obtain⟨ao,cap,h1,h2,h3,h4⟩:=h;refine⟨ao,cap,h1,h2,h3,?_⟩;rcases h4 with h4|⟨g,off,e,hg,hc⟩
 ·exact .inl h4
 ·exact .inr ⟨g,off,e,by omega,hc⟩
theorem bG.later{w w':World}{a:Option Addr}{zs:List Int}(h:bG w a zs)(hb:Below w.heap.size w w'):bG w' a zs:=by
 rcases h with h|⟨g,off,e,hg,hc⟩
 ·exact .inl h
 ·exact .inr ⟨g,off,e,Nat.lt_of_lt_of_le hg hb.size,fun j hj=>(hb.cell (by exact hg)).trans (hc j hj)⟩
theorem aR.bytes{w:World}{lim:Nat}{v:Value}{bs:List UInt8}(h:aR w lim v bs):bytesAt w v bs:=by
 obtain⟨ao,cap,h1,h2,h3,h4⟩:=h;refine⟨ao,cap,h1,h2,h3,?_⟩;rcases h4 with h4|⟨g,off,e,_,hc⟩
 ·exact .inl h4
 ·exact .inr ⟨g,off,e,hc⟩
theorem mY(w:World):(∀i,(w.alloc (G #[I T 0,I T 0,I T 0,I T 0,I T 0,I T 0,I T 0,I T 0,I T 0,I T 0,J Z 0 0] 136)).cell? ⟨w.heap.size,i,Z⟩=#[I T 0,I T 0,I T 0,I T 0,I T 0,I T 0,I T 0,I T 0,I T 0,I T 0,J Z 0 0][i]?)/\(∀i,(w.alloc (G #[I T 0,I T 0,I T 0,I T 0,I T 0,I T 0,I T 0,I T 0,I T 0,I T 0,J Z 0 0] 136)).frozen? ⟨w.heap.size,i,Z⟩=false):=
 ⟨fun _=>World.cell?_alloc_at _ _ _ _ rfl,fun _=>World.frozen?_alloc_at _ _ _ _ rfl⟩
theorem xC(bs:List UInt8)(v:Value)(w:World)(ht:aJ w)(hr:aR w w.heap.size v bs)(hK:dP bs<11):
  Calls pG 158 #[v] w fun e w'=>Below w.heap.size w w'/\((eL bs=true/\∃n1 n2 n3 n4 n5 n6 n7 n8 l,e=.returned (.tuple #[.agg #[I T (dP bs),I T (fA bs),I T n1,I T n2,I T n3,I T n4,I T n5,I T n6,I T n7,I T n8,l],I T 0])/\
   gL bs=[0,n1,n2,n3,n4,n5,n6,n7,n8,((dA bs).vals.length:Int)]/\bH w' w.heap.size l (dA bs).vals)∨
   (eL bs=false/\e=.returned (.tuple #[.agg #[I T 0,I T 0,I T 0,I T 0,I T 0,I T 0,I T 0,I T 0,I T 0,I T 0,J Z 0 0],I T 2]))):=by
 have tw:=ht.two;have hb0:Below w.heap.size w (w.alloc (G #[I T 0,I T 0,I T 0,I T 0,I T 0,I T 0,I T 0,I T 0,I T 0,I T 0,J Z 0 0] 136)):=(Below.refl _ _).alloc (Nat.le_refl _) _;have hr0:aR (w.alloc (G #[I T 0,I T 0,I T 0,I T 0,I T 0,I T 0,I T 0,I T 0,I T 0,I T 0,J Z 0 0] 136)) (w.alloc (G #[I T 0,I T 0,I T 0,I T 0,I T 0,I T 0,I T 0,I T 0,I T 0,I T 0,J Z 0 0] 136)).heap.size v bs:=(hr.keep fun b o hlt=>hb0.cell (p:=⟨b,o,Z⟩) hlt).wide (by simp);obtain⟨zc,zf⟩:=mY w;have ht0:aJ (w.alloc (G #[I T 0,I T 0,I T 0,I T 0,I T 0,I T 0,I T 0,I T 0,I T 0,I T 0,J Z 0 0] 136)):=ht.below hb0 (by omega);have hs0:(w.alloc (G #[I T 0,I T 0,I T 0,I T 0,I T 0,I T 0,I T 0,I T 0,I T 0,I T 0,J Z 0 0] 136)).heap.size=w.heap.size+1:=by simp
 go_enter Tryz.func158,Tryz.ntmps158
 go_wp2_with fail
 generalize w.alloc (G #[I T 0,I T 0,I T 0,I T 0,I T 0,I T 0,I T 0,I T 0,I T 0,I T 0,J Z 0 0] 136)=W0 at*;refine(zA bs v W0 ht0 hr0 hK).mono ?_;rintro e w1 ⟨n1,n2,n3,n4,n5,n6,n7,n8,n0,n9,l,rfl,hnums,hown,hb1⟩
 have HG:Hid (gL bs=[0,n1,n2,n3,n4,n5,n6,n7,n8,((dA bs).vals.length:Int)]):=by
  unfold Hid gL;rw[hnums];rfl
 clear hnums;obtain⟨la,lc,rfl⟩:=hown.shape;have hi1:=(hown.ints).2;have zc1:∀i,w1.cell? ⟨w.heap.size,i,Z⟩=#[I T 0,I T 0,I T 0,I T 0,I T 0,I T 0,I T 0,I T 0,I T 0,I T 0,J Z 0 0][i]?:=fun i=>(hb1.cell (by show w.heap.size<_;omega)).trans (zc i);have zf1:∀i,w1.frozen? ⟨w.heap.size,i,Z⟩=false:=fun i=>(hb1.frozen (by show w.heap.size<_;omega)).trans (zf i);have hs1:=hb1.size;have HD:Hid (eL bs=(iX bs&&(iT bs==bs))):=rfl
 have HI:Hid (iX bs=aN (dP bs) (fA bs) [0,n1,n2,n3,n4,n5,n6,n7,n8,((dA bs).vals.length:Int)]):=by
  unfold Hid iX;rw[HG.out]
 have HC:Hid (iT bs=cH (dP bs).toNat (fA bs).toNat [0,n1,n2,n3,n4,n5,n6,n7,n8,((dA bs).vals.length:Int)] (dA bs).vals):=by
  unfold Hid iT;rw[HG.out]
 have hr1:aR w1 W0.heap.size v bs:=hr0.keep fun b o hlt=>hb1.cell (p:=⟨b,o,Z⟩) hlt;have ht1:aJ w1:=ht0.below hb1 (by omega);have hbw1:Below w.heap.size w w1:=hb0.trans (hb1.mono (by omega));clear zc zf hb0 hr0 ht0 hb1 hr ht;generalize hGK:dP bs=GK at*;generalize hGF:fA bs=GF at*;generalize hVS:(dA bs).vals=VS at*;have HGK:Hid _:=hGK;have HGF:Hid _:=hGF;have HVS:Hid _:=hVS;clear hGK hGF hVS
 go_wp2_with fail
 have hb2:Below w1.heap.size w1 (w1.alloc (G #[I T GK,I T GF,I T n1,I T n2,I T n3,I T n4,I T n5,I T n6,I T n7,I T n8,J la VS.length lc] 136)):=(Below.refl _ _).alloc (Nat.le_refl _) _;have mc:∀i,(w1.alloc (G #[I T GK,I T GF,I T n1,I T n2,I T n3,I T n4,I T n5,I T n6,I T n7,I T n8,J la VS.length lc] 136)).cell? ⟨w1.heap.size,i,Z⟩=#[I T GK,I T GF,I T n1,I T n2,I T n3,I T n4,I T n5,I T n6,I T n7,I T n8,J la VS.length lc][i]?:=fun i=>World.cell?_alloc_at _ _ _ _ rfl;have hs2:(w1.alloc (G #[I T GK,I T GF,I T n1,I T n2,I T n3,I T n4,I T n5,I T n6,I T n7,I T n8,J la VS.length lc] 136)).heap.size=w1.heap.size+1:=by simp
 generalize w1.alloc (G #[I T GK,I T GF,I T n1,I T n2,I T n3,I T n4,I T n5,I T n6,I T n7,I T n8,J la VS.length lc] 136)=w2 at*;have ht2:aJ w2:=ht1.below hb2 (by omega);have hi2:bG w2 la VS:=hi1.later hb2
 cases hG:aN GK GF [0,n1,n2,n3,n4,n5,n6,n7,n8,(VS.length:Int)] with
 |false=>
  refine(oB GK GF n1 n2 n3 n4 n5 n6 n7 n8 la VS.length lc w2 ht2 hG).mono ?_;rintro e w3 ⟨rfl,hb3⟩;have hb13:Below w1.heap.size w1 w3:=hb2.trans (hb3.mono (by omega));have zc3:∀i,w3.cell? ⟨w.heap.size,i,Z⟩=#[I T 0,I T 0,I T 0,I T 0,I T 0,I T 0,I T 0,I T 0,I T 0,I T 0,J Z 0 0][i]?:=fun i=>(hb13.cell (by show w.heap.size<_;omega)).trans (zc1 i);have zf3:∀i,w3.frozen? ⟨w.heap.size,i,Z⟩=false:=fun i=>(hb13.frozen (by show w.heap.size<_;omega)).trans (zf1 i);have hdk:Hid (eL bs=false):=by unfold Hid;rw[HD.out,HI.out,hG];rfl
  have hbf:Below w.heap.size w w3:=hbw1.trans (hb13.mono (by omega));clear zc1 zf1 hb2 hb3 mc hi1 hi2 hr1 hG HD HI HC HG hown ht1 ht2 hbw1 hb13;go_wp2;obtain⟨W,hW,⟨c0,c1,c2,c3,c4,c5,c6,c7,c8,c9,c10⟩,_,hbl⟩:=eZ w3 w.heap.size (I T 0) (I T 0) (I T 0) (I T 0) (I T 0) (I T 0) (I T 0) (I T 0) (I T 0) (I T 0) (J Z 0 0) (fun i hi=>by rw[zc3];simp;omega);rw[hW];clear hW zc3 zf3;exact bodyPost_ret (v:=.tuple #[.agg #[I T 0,I T 0,I T 0,I T 0,I T 0,I T 0,I T 0,I T 0,I T 0,I T 0,J Z 0 0],I T 2]) (by simp[results,Tryz.results158,go_sem,c0,c1,c2,c3,c4,c5,c6,c7,c8,c9,c10]) rfl ⟨hbl _ _ (Nat.le_refl _) hbf,.inr ⟨hdk.out,rfl⟩⟩
 |true=>
  refine(jW GK GF n1 n2 n3 n4 n5 n6 n7 n8 la VS lc w2 ht2 hi2 hG).mono ?_;rintro e w3 ⟨x,rfl,hx,hb3⟩;rw[←HC.out]at hx;have hb13:Below w1.heap.size w1 w3:=hb2.trans (hb3.mono (by omega));have zc3:∀i,w3.cell? ⟨w.heap.size,i,Z⟩=#[I T 0,I T 0,I T 0,I T 0,I T 0,I T 0,I T 0,I T 0,I T 0,I T 0,J Z 0 0][i]?:=fun i=>(hb13.cell (by show w.heap.size<_;omega)).trans (zc1 i);have zf3:∀i,w3.frozen? ⟨w.heap.size,i,Z⟩=false:=fun i=>(hb13.frozen (by show w.heap.size<_;omega)).trans (zf1 i);have mc3:∀i,w3.cell? ⟨w1.heap.size,i,Z⟩=#[I T GK,I T GF,I T n1,I T n2,I T n3,I T n4,I T n5,I T n6,I T n7,I T n8,J la VS.length lc][i]?:=fun i=>(hb3.cell (by show w1.heap.size<_;omega)).trans (mc i);have hr3:aR w3 W0.heap.size v bs:=hr1.keep fun b o hlt=>hb13.cell (p:=⟨b,o,Z⟩) (by show b<_;omega);have hdk:Hid (eL bs=(iT bs==bs)):=by unfold Hid;rw[HD.out,HI.out,hG];rfl
  have hbf:Below w.heap.size w w3:=hbw1.trans (hb13.mono (by omega));have hown3:bH w3 W0.heap.size (J la VS.length lc) VS:=World.ownsRow.kept hown ⟨hb13.os,hb13.tape,hb13.output,hb13.size,fun k hk _=>hb13.block k hk⟩ (row:=none) (by cases la<;>simp[Value.ownBlock]);clear zc1 zf1 hb2 hb3 mc hi1 hi2 hr1 hG HD HI HC hown ht1 ht2 hbw1 hb13;generalize iT bs=ge at*
  go_wp2_with fail
  refine(A1 x v ge bs w3 hx.bytesAt hr3.bytes).mono ?_;rintro e w4 ⟨rfl,rfl⟩
  cases hq:(ge==bs) with
  |false=>
   have hdk2:Hid (eL bs=false):=by unfold Hid;rw[hdk.out,hq]
   clear hq hdk;go_wp2;obtain⟨W,hW,⟨c0,c1,c2,c3,c4,c5,c6,c7,c8,c9,c10⟩,_,hbl⟩:=eZ w4 w.heap.size (I T 0) (I T 0) (I T 0) (I T 0) (I T 0) (I T 0) (I T 0) (I T 0) (I T 0) (I T 0) (J Z 0 0) (fun i hi=>by rw[zc3];simp;omega);rw[hW];clear hW zc3 zf3 mc3;exact bodyPost_ret (v:=.tuple #[.agg #[I T 0,I T 0,I T 0,I T 0,I T 0,I T 0,I T 0,I T 0,I T 0,I T 0,J Z 0 0],I T 2]) (by simp[results,Tryz.results158,go_sem,c0,c1,c2,c3,c4,c5,c6,c7,c8,c9,c10]) rfl ⟨hbl _ _ (Nat.le_refl _) hbf,.inr ⟨hdk2.out,rfl⟩⟩
  |true=>
   have hdk2:Hid (eL bs=true):=by unfold Hid;rw[hdk.out,hq]
   clear hq hdk;go_wp2;obtain⟨W,hW,⟨c0,c1,c2,c3,c4,c5,c6,c7,c8,c9,c10⟩,hbut,hbl⟩:=eZ w4 w.heap.size (I T GK) (I T GF) (I T n1) (I T n2) (I T n3) (I T n4) (I T n5) (I T n6) (I T n7) (I T n8) (J la VS.length lc) (fun i hi=>by rw[zc3];simp;omega);have hownW:=(hown3.but hbut (by omega)).low (show w.heap.size<=W0.heap.size by omega);rw[hW];clear hW zc3 zf3 mc3 hown3 hbut;exact bodyPost_ret (v:=.tuple #[.agg #[I T GK,I T GF,I T n1,I T n2,I T n3,I T n4,I T n5,I T n6,I T n7,I T n8,J la VS.length lc],I T 0]) (by simp[results,Tryz.results158,go_sem,c0,c1,c2,c3,c4,c5,c6,c7,c8,c9,c10]) rfl ⟨hbl _ _ (Nat.le_refl _) hbf,.inl ⟨hdk2.out,n1,n2,n3,n4,n5,n6,n7,n8,_,by rw[HGK.out,HGF.out],by rw[HVS.out];exact HG.out,by rw[HVS.out];exact hownW⟩⟩
theorem zC(bs:List UInt8)(v:Value)(w:World)(ht:aJ w)(hr:aR w w.heap.size v bs)(hK:11<=dP bs):
  Calls pG 158 #[v] w fun e w'=>Below w.heap.size w w'/\e=.returned (.tuple #[.agg #[I T 0,I T 0,I T 0,I T 0,I T 0,I T 0,I T 0,I T 0,I T 0,I T 0,J Z 0 0],I T 2]):=by
 have tw:=ht.two;have hb0:Below w.heap.size w (w.alloc (G #[I T 0,I T 0,I T 0,I T 0,I T 0,I T 0,I T 0,I T 0,I T 0,I T 0,J Z 0 0] 136)):=(Below.refl _ _).alloc (Nat.le_refl _) _;have hr0:aR (w.alloc (G #[I T 0,I T 0,I T 0,I T 0,I T 0,I T 0,I T 0,I T 0,I T 0,I T 0,J Z 0 0] 136)) (w.alloc (G #[I T 0,I T 0,I T 0,I T 0,I T 0,I T 0,I T 0,I T 0,I T 0,I T 0,J Z 0 0] 136)).heap.size v bs:=(hr.keep fun b o hlt=>hb0.cell (p:=⟨b,o,Z⟩) hlt).wide (by simp);obtain⟨zc,zf⟩:=mY w;have ht0:=ht.below hb0 (by omega);have hs0:(w.alloc (G #[I T 0,I T 0,I T 0,I T 0,I T 0,I T 0,I T 0,I T 0,I T 0,I T 0,J Z 0 0] 136)).heap.size=w.heap.size+1:=by simp
 go_enter Tryz.func158,Tryz.ntmps158
 go_wp2_with fail
 generalize w.alloc (G #[I T 0,I T 0,I T 0,I T 0,I T 0,I T 0,I T 0,I T 0,I T 0,I T 0,J Z 0 0] 136)=W0 at*;refine(A0 bs v W0 hr0 hK).mono ?_;rintro e w1 ⟨rfl,hb1⟩;have zc1:∀i,w1.cell? ⟨w.heap.size,i,Z⟩=#[I T 0,I T 0,I T 0,I T 0,I T 0,I T 0,I T 0,I T 0,I T 0,I T 0,J Z 0 0][i]?:=fun i=>(hb1.cell (by show w.heap.size<_;omega)).trans (zc i);have zf1:∀i,w1.frozen? ⟨w.heap.size,i,Z⟩=false:=fun i=>(hb1.frozen (by show w.heap.size<_;omega)).trans (zf i);have hs1:=hb1.size;have ht1:=ht0.below hb1 (by omega);have hbw1:=hb0.trans (hb1.mono (by omega));clear zc zf hb0 hr0 ht0 hb1 hr ht
 go_wp2_with fail
 have hb2:Below w1.heap.size w1 (w1.alloc (G #[I T 0,I T 0,I T 0,I T 0,I T 0,I T 0,I T 0,I T 0,I T 0,I T 0,J Z 0 0] 136)):=(Below.refl _ _).alloc (Nat.le_refl _) _;have ht2:=ht1.below hb2 (by omega);have hs2:(w1.alloc (G #[I T 0,I T 0,I T 0,I T 0,I T 0,I T 0,I T 0,I T 0,I T 0,I T 0,J Z 0 0] 136)).heap.size=w1.heap.size+1:=by simp
 generalize w1.alloc (G #[I T 0,I T 0,I T 0,I T 0,I T 0,I T 0,I T 0,I T 0,I T 0,I T 0,J Z 0 0] 136)=w2 at*;refine(oB 0 0 0 0 0 0 0 0 0 0 none 0 0 w2 ht2 (by decide)).mono ?_;rintro e w3 ⟨rfl,hb3⟩;have hb13:=hb2.trans (hb3.mono (by omega));have zc3:∀i,w3.cell? ⟨w.heap.size,i,Z⟩=#[I T 0,I T 0,I T 0,I T 0,I T 0,I T 0,I T 0,I T 0,I T 0,I T 0,J Z 0 0][i]?:=fun i=>(hb13.cell (by show w.heap.size<_;omega)).trans (zc1 i);have zf3:∀i,w3.frozen? ⟨w.heap.size,i,Z⟩=false:=fun i=>(hb13.frozen (by show w.heap.size<_;omega)).trans (zf1 i);have hbf:=hbw1.trans (hb13.mono (by omega));clear zc1 zf1 hb2 hb3 ht1 ht2 hbw1 hb13;go_wp2;obtain⟨W,hW,⟨c0,c1,c2,c3,c4,c5,c6,c7,c8,c9,c10⟩,_,hbl⟩:=eZ w3 w.heap.size (I T 0) (I T 0) (I T 0) (I T 0) (I T 0) (I T 0) (I T 0) (I T 0) (I T 0) (I T 0) (J Z 0 0) (fun i hi=>by rw[zc3];simp;omega);rw[hW];clear hW zc3 zf3;exact bodyPost_ret (v:=.tuple #[.agg #[I T 0,I T 0,I T 0,I T 0,I T 0,I T 0,I T 0,I T 0,I T 0,I T 0,J Z 0 0],I T 2]) (by simp[results,Tryz.results158,go_sem,c0,c1,c2,c3,c4,c5,c6,c7,c8,c9,c10]) rfl ⟨hbl _ _ (Nat.le_refl _) hbf,rfl⟩
end
section
open Go.RowKit
open Value (bool)
theorem zD(bs:List UInt8)(v:Value)(w:World)(ht:aJ w)(hr:aR w w.heap.size v bs):
  Calls pG 158 #[v] w fun e w'=>Below w.heap.size w w'/\((eL bs=true/\∃n1 n2 n3 n4 n5 n6 n7 n8 l,e=.returned (.tuple #[.agg #[I T (dP bs),I T (fA bs),I T n1,I T n2,I T n3,I T n4,I T n5,I T n6,I T n7,I T n8,l],I T 0])/\
   gL bs=[0,n1,n2,n3,n4,n5,n6,n7,n8,((dA bs).vals.length:Int)]/\bH w' w.heap.size l (dA bs).vals)∨
   (eL bs=false/\e=.returned (.tuple #[.agg #[I T 0,I T 0,I T 0,I T 0,I T 0,I T 0,I T 0,I T 0,I T 0,I T 0,J Z 0 0],I T 2]))):=by
 by_cases hK:dP bs<11
 ·exact xC bs v w ht hr hK
 ·refine(zC bs v w ht hr (by omega)).mono ?_;rintro e w' ⟨h1,h2⟩;refine⟨h1,.inr ⟨?_,h2⟩⟩;have:eU (dP bs) (fA bs)=true:=by simp[eU];omega
  simp[eL,iX,aN,this]
theorem qW(s:ByteArray):aC s.data.toList=s:=by
 cases s;simp[aC]
theorem mN{bs:List UInt8}(h:eL bs=true):iX bs=true/\iT bs=bs:=by
 unfold eL at h;rw[Bool.and_eq_true]at h;exact⟨h.1,by simpa using h.2⟩
theorem i7(n:Int)(k:Nat):((dH n k).toNat:Int)=n / 2 ^ (8*k)%256:=by
 unfold dH;rw[UInt8.toNat_ofNat'];have h0:0<=n / 2 ^ (8*k)%256:=Int.emod_nonneg _ (by omega);have h1:n / 2 ^ (8*k)%256<256:=Int.emod_lt_of_pos _ (by omega);omega
theorem A2(n:Int):(fO (be n 8):Int)=n%18446744073709551616:=by
 have b0:((dH n 0).toNat:Int)=n / 1%256:=i7 n 0;have b1:((dH n 1).toNat:Int)=n / 256%256:=i7 n 1;have b2:((dH n 2).toNat:Int)=n / 65536%256:=i7 n 2;have b3:((dH n 3).toNat:Int)=n / 16777216%256:=i7 n 3;have b4:((dH n 4).toNat:Int)=n / 4294967296%256:=i7 n 4;have b5:((dH n 5).toNat:Int)=n / 1099511627776%256:=i7 n 5;have b6:((dH n 6).toNat:Int)=n / 281474976710656%256:=i7 n 6;have b7:((dH n 7).toNat:Int)=n / 72057594037927936%256:=i7 n 7;simp only[be,fO,List.foldl_cons,List.foldl_nil];omega
theorem qX(n:Int)(h1:-9223372036854775808<=n)(h2:n<=9223372036854775807):gU (be n 8)=n:=by
 unfold gU;rw[A2];unfold wrap64;omega
theorem tV(n:Int)(r:List UInt8)(h1:-9223372036854775808<=n)(h2:n<=9223372036854775807):dO (be n 8++r) 8=n:=by
 unfold dO;rw[if_neg (by simp[cQ]),List.take_left' (cQ n 8),qX n h1 h2]
theorem tW(n:Int)(r:List UInt8):dF (be n 8++r) 8=r:=by
 unfold dF;rw[if_neg (by simp[cQ]),List.drop_left' (cQ n 8)]
theorem pK(x:UInt8)(r:List UInt8):dO (x::r) 1=(x.toNat:Int):=by
 have hx:=x.toNat_lt;unfold dO;rw[if_neg (by simp)];simp only[gU,List.take_succ_cons,List.take_zero,fO,List.foldl_cons,List.foldl_nil];rw[IntWalk.wrap64_in _ (by omega)];omega
theorem nC(x:UInt8)(r:List UInt8):dF (x::r) 1=r:=by
 unfold dF;rw[if_neg (by simp)];rfl
theorem pO(n:Nat)(h:n<256):be (n:Int) 1=[UInt8.ofNat n]:=by
 have e:dH (n:Int) 0=UInt8.ofNat n:=by
  apply UInt8.toNat_inj.1;have b0:=i7 (n:Int) 0;have:((UInt8.ofNat n).toNat:Int)=n:=by rw[UInt8.toNat_ofNat'];omega
  simp at b0;omega
 simp[be,e]
theorem xD(zs:List Int)(hz:∀z∈zs,-9223372036854775808<=z/\z<=9223372036854775807):∀(r:List UInt8) (vs:List Int),fG zs.length (zs.flatMap (fun v=>be v 8)++r) vs=(r,vs++zs):=by
 induction zs with
 |nil=>intro r vs;simp[fG]
 |cons z zs ih=>
  intro r vs;have hz1:=hz z (by simp);rw[List.length_cons,fG,List.flatMap_cons,List.append_assoc,tV z _ hz1.1 hz1.2,tW,ih (fun y hy=>hz y (by simp[hy]))];simp
theorem A3(r:List UInt8)(nums vals:List Int)(F:Nat)(n:Int)(h0:F≠0)(h9:F≠9)(h1:-9223372036854775808<=n)(h2:n<=9223372036854775807):
  eY ⟨be n 8++r,nums,vals⟩ F=⟨r,nums.set F n,vals⟩:=by
 unfold eY;rw[if_neg h0,if_neg h9];simp only[tV n r h1 h2,tW]
theorem zE(st:Gs):eY st 0=st:=rfl
theorem zF(r:List UInt8)(nums:List Int)(zs:List Int)(hl:zs.length<=4)(hz:∀z∈zs,-9223372036854775808<=z/\z<=9223372036854775807):
  eY ⟨be (zs.length:Int) 1++zs.flatMap (fun v=>be v 8)++r,nums,[]⟩ 9=⟨r,nums,zs⟩:=by
 have e:((UInt8.ofNat zs.length).toNat:Int)=zs.length:=by rw[UInt8.toNat_ofNat'];omega
 unfold eY;rw[if_neg (by omega),if_pos rfl,pO zs.length (by omega)];simp only[List.cons_append,pK,nC,e,Int.toNat_natCast,xD zs hz,List.nil_append]
theorem uH(nums zs:List Int):cE nums zs 0=[]:=rfl
theorem K2(nums zs:List Int)(F:Nat)(h0:F≠0)(h9:F≠9):cE nums zs F=be (nums.getD F 0) 8:=by unfold cE;rw[if_neg h0,if_neg h9]
theorem K3(nums zs:List Int):cE nums zs 9=be (nums.getD 9 0) 1++zs.flatMap (fun v=>be v 8):=by unfold cE;rw[if_neg (by omega),if_pos rfl]
def pA(nums:List Int):List Nat->List Int->List Int
 | [],N=>N
 |F::l,N=>pA nums l (if F=0 then N else N.set F (nums.getD F 0))
theorem iI(nums zs:List Int)(hr:∀F,-9223372036854775808<=nums.getD F 0/\nums.getD F 0<=9223372036854775807)(tail:List UInt8)(V:List Int):
  ∀(l:List Nat) (N:List Int),(∀F∈l,F≠9)->l.foldl eY ⟨l.flatMap (cE nums zs)++tail,N,V⟩=⟨tail,pA nums l N,V⟩:=by
 intro l
 induction l with
 |nil=>intro N _;rfl
 |cons F l ih=>
  intro N h9;have hF9:=h9 F (by simp);rw[List.foldl_cons,List.flatMap_cons]
  by_cases h0:F=0
  ·subst h0;rw[uH,List.nil_append,zE,ih N (fun G1 hG=>h9 G1 (by simp[hG]))];rfl
  ·rw[K2 nums zs F h0 hF9,List.append_assoc,A3 _ _ _ F _ h0 hF9 (hr F).1 (hr F).2,ih _ (fun G1 hG=>h9 G1 (by simp[hG]))];rw[pA,if_neg h0]
theorem iM(e b wa p s q bl v n:Int)(h:∀x∈[e,b,wa,p,s,q,bl,v,n],-9223372036854775808<=x/\x<=9223372036854775807)(F:Nat):
  -9223372036854775808<=[0,e,b,wa,p,s,q,bl,v,n].getD F 0/\[0,e,b,wa,p,s,q,bl,v,n].getD F 0<=9223372036854775807:=by
 simp only[List.forall_mem_cons]at h
 match F with
 |0=>exact⟨by simp,by simp⟩
 |1=>exact h.1
 |2=>exact h.2.1
 |3=>exact h.2.2.1
 |4=>exact h.2.2.2.1
 |5=>exact h.2.2.2.2.1
 |6=>exact h.2.2.2.2.2.1
 |7=>exact h.2.2.2.2.2.2.1
 |8=>exact h.2.2.2.2.2.2.2.1
 |9=>exact h.2.2.2.2.2.2.2.2.1
 |F+10=>simp
theorem C6(k:Nat)(hk:k<11)(rest:List UInt8):eS k 5 rest=(bI k).foldl eY ⟨rest,List.replicate 10 0,[]⟩:=by
 unfold eS;rw[List.take_of_length_le (by rw[oA k hk];omega)]
theorem round(k f:Nat)(e b wa p s q bl v:Int)(zs:List Int)(hk1:1<=k)(hk:k<=10)(hf:f<5)(hm:dX k [0,e,b,wa,p,s,q,bl,v,(zs.length:Int)]=true)(hz:∀z∈zs,-9223372036854775808<=z/\z<=9223372036854775807):
  dP (cH k f [0,e,b,wa,p,s,q,bl,v,(zs.length:Int)] zs)=k/\fA (cH k f [0,e,b,wa,p,s,q,bl,v,(zs.length:Int)] zs)=f/\
  gL (cH k f [0,e,b,wa,p,s,q,bl,v,(zs.length:Int)] zs)=[0,e,b,wa,p,s,q,bl,v,(zs.length:Int)]/\(dA (cH k f [0,e,b,wa,p,s,q,bl,v,(zs.length:Int)] zs)).vals=zs:=by
 have ek:((UInt8.ofNat k).toNat:Int)=k:=by rw[UInt8.toNat_ofNat'];omega
 have ef:((UInt8.ofNat f).toNat:Int)=f:=by rw[UInt8.toNat_ofNat'];omega
 generalize hN:[0,e,b,wa,p,s,q,bl,v,(zs.length:Int)]=nums at*;obtain⟨tail,ht⟩:∃tail,cH k f nums zs=UInt8.ofNat k::UInt8.ofNat f::((bI k).flatMap (cE nums zs)++tail):=⟨be (aV (bZ k f nums zs)) 4,by simp[cH,bZ]⟩;have h1:dP (cH k f nums zs)=k:=by rw[ht];unfold dP;rw[pK,ek]
 have h2:fA (cH k f nums zs)=f:=by rw[ht];unfold fA;rw[nC,pK,ef]
 have h3:dA (cH k f nums zs)=eS k 5 ((bI k).flatMap (cE nums zs)++tail):=by
  unfold dA;rw[h1,ht,nC,nC];rfl
 refine⟨h1,h2,?_⟩;unfold gL;rw[h3,C6 k (by omega)];clear h1 h2 h3 ht;subst hN
 match k,hk1,hk with
 |1,_,_=>
  rw[jH]at hm;obtain⟨m1,m2,rfl,rfl,rfl,rfl,rfl,rfl,m9⟩:=hm;obtain rfl:zs=[]:=List.eq_nil_of_length_eq_zero (by omega);rw[iI _ _ (iM _ _ _ _ _ _ _ _ _ (by simp only[List.forall_mem_cons];exact⟨by omega,by omega,by omega,by omega,by omega,by omega,by omega,by omega,by simp,by simp⟩)) tail [] (bI 1) _ (by decide)];exact⟨rfl,rfl⟩
 |2,_,_=>
  rw[lB]at hm;obtain⟨m1,m2,m3,m4,m5,rfl,rfl,rfl,m9⟩:=hm;obtain rfl:zs=[]:=List.eq_nil_of_length_eq_zero (by omega);rw[iI _ _ (iM _ _ _ _ _ _ _ _ _ (by simp only[List.forall_mem_cons];exact⟨by omega,by omega,by omega,by omega,by omega,by omega,by omega,by omega,by simp,by simp⟩)) tail [] (bI 2) _ (by decide)];exact⟨rfl,rfl⟩
 |3,_,_=>
  rw[jI]at hm;obtain⟨m1,m2,m4,m5,rfl,rfl,rfl,rfl,m9⟩:=hm;obtain rfl:zs=[]:=List.eq_nil_of_length_eq_zero (by omega);rw[iI _ _ (iM _ _ _ _ _ _ _ _ _ (by simp only[List.forall_mem_cons];exact⟨by omega,by omega,by omega,by omega,by omega,by omega,by omega,by omega,by simp,by simp⟩)) tail [] (bI 3) _ (by decide)];exact⟨rfl,rfl⟩
 |4,_,_=>
  rw[lC]at hm;obtain⟨m1,m2,rfl,rfl,rfl,rfl,rfl,rfl,m9⟩:=hm;obtain rfl:zs=[]:=List.eq_nil_of_length_eq_zero (by omega);rw[iI _ _ (iM _ _ _ _ _ _ _ _ _ (by simp only[List.forall_mem_cons];exact⟨by omega,by omega,by omega,by omega,by omega,by omega,by omega,by omega,by simp,by simp⟩)) tail [] (bI 4) _ (by decide)];exact⟨rfl,rfl⟩
 |5,_,_=>
  rw[lE]at hm;obtain⟨m1,m2,m3,rfl,rfl,rfl,rfl,rfl,m9⟩:=hm;obtain rfl:zs=[]:=List.eq_nil_of_length_eq_zero (by omega);rw[iI _ _ (iM _ _ _ _ _ _ _ _ _ (by simp only[List.forall_mem_cons];exact⟨by omega,by omega,by omega,by omega,by omega,by omega,by omega,by omega,by simp,by simp⟩)) tail [] (bI 5) _ (by decide)];exact⟨rfl,rfl⟩
 |6,_,_=>
  rw[jJ]at hm;obtain⟨m1,m4,m5,rfl,rfl,rfl,rfl,rfl,m9⟩:=hm;obtain rfl:zs=[]:=List.eq_nil_of_length_eq_zero (by omega);rw[iI _ _ (iM _ _ _ _ _ _ _ _ _ (by simp only[List.forall_mem_cons];exact⟨by omega,by omega,by omega,by omega,by omega,by omega,by omega,by omega,by simp,by simp⟩)) tail [] (bI 6) _ (by decide)];exact⟨rfl,rfl⟩
 |7,_,_=>
  rw[kA]at hm;obtain⟨m1,m6,m7,m8,rfl,rfl,rfl,rfl,m9⟩:=hm;obtain rfl:zs=[]:=List.eq_nil_of_length_eq_zero (by omega);rw[iI _ _ (iM _ _ _ _ _ _ _ _ _ (by simp only[List.forall_mem_cons];exact⟨by omega,by omega,by omega,by omega,by omega,by omega,by omega,by omega,by simp,by simp⟩)) tail [] (bI 7) _ (by decide)];exact⟨rfl,rfl⟩
 |8,_,_=>
  rw[lF]at hm;obtain⟨m1,m6,rfl,rfl,rfl,rfl,rfl,rfl,m9⟩:=hm;obtain rfl:zs=[]:=List.eq_nil_of_length_eq_zero (by omega);rw[iI _ _ (iM _ _ _ _ _ _ _ _ _ (by simp only[List.forall_mem_cons];exact⟨by omega,by omega,by omega,by omega,by omega,by omega,by omega,by omega,by simp,by simp⟩)) tail [] (bI 8) _ (by decide)];exact⟨rfl,rfl⟩
 |9,_,_=>
  rw[kB]at hm;obtain⟨m1,m6,m9,rfl,rfl,rfl,rfl,rfl,rfl⟩:=hm
  have e1:(bI 9).flatMap (cE [0,e,0,0,0,0,q,0,0,(zs.length:Int)] zs)++tail=[1,6].flatMap (cE [0,e,0,0,0,0,q,0,0,(zs.length:Int)] zs)++(be (zs.length:Int) 1++zs.flatMap (fun v=>be v 8)++tail):=by
   rw[show bI 9=[1,6]++[9,0,0] from rfl,List.flatMap_append,List.append_assoc]
   congr 1
   simp only[List.flatMap_cons,List.flatMap_nil,uH,K3,List.append_nil];rfl
  have e2:∀st:Gs,(bI 9).foldl eY st=eY (([1,6]:List Nat).foldl eY st) 9:=fun st=>rfl;rw[e1,e2,iI _ _ (iM _ _ _ _ _ _ _ _ _ (by simp only[List.forall_mem_cons];exact⟨by omega,by omega,by omega,by omega,by omega,by omega,by omega,by omega,by omega,by simp⟩)) _ [] [1,6] _ (by decide),zF _ _ zs (by omega) hz];exact⟨rfl,rfl⟩
 |10,_,_=>
  rw[kT]at hm;obtain⟨m1,m6,rfl,rfl,rfl,rfl,rfl,rfl,m9⟩:=hm;obtain rfl:zs=[]:=List.eq_nil_of_length_eq_zero (by omega);rw[iI _ _ (iM _ _ _ _ _ _ _ _ _ (by simp only[List.forall_mem_cons];exact⟨by omega,by omega,by omega,by omega,by omega,by omega,by omega,by omega,by simp,by simp⟩)) tail [] (bI 10) _ (by decide)];exact⟨rfl,rfl⟩
end
section
open Go.RowKit
open Value (bool)
set_option maxRecDepth 20000
theorem jU(a b:List UInt8):aC a++aC b=aC (a++b):=by
 apply ByteArray.ext;rw[ByteArray.data_append];simp[aC]
theorem fT(a:List UInt8):(aC a).size=a.length:=by show a.toArray.size=_;simp
theorem tX(W:World)(X:Nat)(x:UInt8)(h:W.cell? ⟨X,0,Z⟩=Y (.int .u8 (x.toNat:Int))):(convert 148 9 (J (Y ⟨X,0,Z⟩) 1 1)).run pG W=.ok (.string (aC [x])) W:=
 run_convert_bytes_back W 148 9 5 ⟨X,0,Z⟩ 1 [x] Tryz.underlying148 Tryz.underlying5 Tryz.underlying9 (fun j hj=>by
  have hj:j=0:=by simpa using hj
  subst hj
  simpa[Addr.add] using h)
theorem I4(W:World)(X:Nat)(x y:UInt8)(h:W.cell? ⟨X,0,Z⟩=Y (.int .u8 (x.toNat:Int)))(h':W.cell? ⟨X,1,Z⟩=Y (.int .u8 (y.toNat:Int))):(convert 148 9 (J (Y ⟨X,0,Z⟩) 2 2)).run pG W=.ok (.string (aC [x,y])) W:=
 run_convert_bytes_back W 148 9 5 ⟨X,0,Z⟩ 2 [x,y] Tryz.underlying148 Tryz.underlying5 Tryz.underlying9 (fun j hj=>by
  have hj:j<2:=by simpa using hj
  match j,hj with
  |0,_=>simpa[Addr.add] using h
  |1,_=>simpa[Addr.add] using h')
theorem E7(n:Int):n%256=((dH n 0).toNat:Int):=by
 unfold dH;rw[UInt8.toNat_ofNat'];simp only[Nat.mul_zero,Int.pow_zero,Int.ediv_one];omega
theorem A4(n:Int)(k:Nat):dH (n / 2 ^ (8*k)) 0=dH n k:=by
 unfold dH;simp
theorem dK(n:Int)(w:World):
  Calls pG 155 #[I T n] w fun e w'=>e=.returned (.string (aC (be n 8)))/\Below w.heap.size w w':=by
 go_enter Tryz.func155,Tryz.ntmps155;go_wp2
 go_loopw [0,3,4] (fun m s i wr=>∃k:Nat,k<=8/\i=I T k/\m=I T (n / 2 ^ (8*k))/\s=.string (aC (be n k))/\Below w.heap.size w wr) (fun _ _ i _=>8 - (intOf i).toNat)
 case atStart=>exact⟨0,by omega,rfl,by simp,rfl,Below.refl _ _⟩
 case round=>
  obtain⟨k,hk,rfl,rfl,rfl,hb⟩:=hrel
  by_cases hlt:k<8
  ·have HS:Hid (aC [dH n k]++aC (be n k)=aC (be n (k+1))):=jU _ _
   have HD:Hid (n / 2 ^ (8*(k+1))=n / 2 ^ (8*k) / 256):=by
    unfold Hid;rw[show 8*(k+1)=8*k+8 by omega,Int.pow_add,Int.ediv_ediv_of_nonneg (Int.pow_nonneg (by omega))];rfl
   have hB:n / 2 ^ (8*k)%256=((dH n k).toNat:Int):=by rw[E7,A4]
   have hsz:(aC [dH n k]).size+(aC (be n k)).size<=16:=by rw[fT,fT,cQ];simp;omega
   generalize n / 2 ^ (8*k)=m at HD hB⊢;generalize hm':n / 2 ^ (8*(k+1))=m' at HD;generalize aC (be n k)=S at HS hsz⊢;generalize hS':aC (be n (k+1))=S' at HS;generalize dH n k=x at HS hB hsz⊢
   have hcv:=tX (wr.alloc (G #[Value.int IntKind.u8 (m%256)] 5)) wr.heap.size x (by
    rw[World.cell?_alloc_at _ _ _ _ rfl,hB];rfl)
   have HB:=aA hB;clear hB;go_wp2
   go_round
   case rel=>exact⟨k+1,by omega,by go_num,by rw[←HD.out,hm'],by rw[HS.out,hS'],hb.alloc hb.size _⟩
   case measure=>simp[intOf];omega
  ·have hk8:k=8:=by omega
   subst hk8;go_wp2;go_ret;exact⟨rfl,hb⟩
def rc(bs:List UInt8):Nat->Int
 |0=>(bs.length:Int)%65521
 |k+1=>(rc bs k+((bs.getD k 0).toNat:Int)*(((bs.length:Int) - k)%65521))%65521
theorem I5(bs:List UInt8):∀k,0<=rc bs k/\rc bs k<65521:=by
 intro k
 cases k with
 |zero=>simp only[rc];omega
 |succ k=>simp only[rc];omega
def vW(bs:List UInt8):Nat->Int
 |0=>0
 |k+1=>vW bs k+((bs.getD k 0).toNat:Int)*((bs.length:Int) - k)
theorem I6(bs:List UInt8):∀k,rc bs k=((bs.length:Int)+vW bs k)%65521:=by
 intro k
 induction k with
 |zero=>simp[rc,vW]
 |succ k ih=>
  simp only[rc,vW,ih];rw[Int.add_emod,Int.emod_emod,Int.mul_emod,Int.emod_emod,←Int.mul_emod,←Int.add_emod,Int.add_assoc]
def wW:List UInt8->Int
 | []=>0
 |x::r=>(x.toNat:Int)*((r.length:Int)+1)+wW r
theorem I7(bs:List UInt8):∀k,k<=bs.length->vW bs k+wW (bs.drop k)=wW bs:=by
 intro k
 induction k with
 |zero=>intro _;simp[vW]
 |succ k ih=>
  intro h;rw[←ih (by omega)];have hd:bs.drop k=bs[k]::bs.drop (k+1):=List.drop_eq_getElem_cons (by omega);rw[hd];simp only[vW,wW,List.length_drop];rw[List.getD_eq_getElem?_getD,List.getElem?_eq_getElem (by omega),Option.getD_some];have:((bs.length - (k+1):Nat):Int)+1=(bs.length:Int) - k:=by omega
  rw[this];omega
theorem GS(bs:List UInt8):∀a c:Int,(bs.foldl iQ (a,c)).2%65521=(c+(bs.length:Int)*a+wW bs)%65521:=by
 induction bs with
 |nil=>intro a c;simp[wW]
 |cons x r ih=>
  intro a c;simp only[List.foldl_cons,iQ,ih,wW,List.length_cons];have e1:∀y:Int,∃q,y%65521=y - 65521*q:=fun y=>⟨y / 65521,by omega⟩;obtain⟨q1,h1⟩:=e1 (a+(x.toNat:Int));rw[h1];obtain⟨q2,h2⟩:=e1 (c+(a+(x.toNat:Int) - 65521*q1));rw[h2];apply Int.emod_emod_of_dvd _ (Int.dvd_refl _) |>.symm.trans
  have:c+(a+↑x.toNat - 65521*q1) - 65521*q2+↑r.length*(a+↑x.toNat - 65521*q1)+wW r=c+(↑(r.length+1))*a+(↑x.toNat*(↑r.length+1)+wW r)+65521*(- q1 - q2 - r.length*q1):=by
   push_cast
   simp only[Int.mul_add,Int.add_mul,Int.mul_sub,Int.mul_one,Int.one_mul];have h3:(r.length:Int)*(65521*q1)=65521*(r.length*q1):=by rw[←Int.mul_assoc,←Int.mul_assoc,Int.mul_comm (r.length:Int) 65521]
   have h4:(r.length:Int)*(x.toNat:Int)=(x.toNat:Int)*r.length:=Int.mul_comm _ _;omega
  rw[this];omega
theorem GT(bs:List UInt8):65536*rc bs bs.length+(dG bs).1=aV bs:=by
 have h:=GS bs 1 0;have h1:=oI bs
 have e:rc bs bs.length=(dG bs).2:=by
  rw[I6];have:=I7 bs bs.length (Nat.le_refl _);rw[List.drop_length]at this;simp only[wW]at this;have e2:(dG bs).2%65521=(0+(bs.length:Int)*1+wW bs)%65521:=h;omega
 rw[e];rfl
theorem jS(z:Int)(h1:-9223372036854775808<=z)(h2:z<=9223372036854775807):wrap64 z=z:=by unfold wrap64;omega
theorem E8(A:Int)(X:Nat)(h1:0<=A)(h2:A<65521)(hX:X<256):(wrap64 (A+wrap64 (X:Int))).tmod 65521=(A+X)%65521:=by
 rw[jS X (by omega) (by omega),jS _ (by omega) (by omega),Int.tmod_eq_emod_of_nonneg (by omega)]
theorem E9(C Y1:Int)(X:Nat)(h1:0<=C)(h2:C<65521)(hX:X<256)(h3:0<=Y1)(h4:Y1<65521):(wrap64 (C+wrap64 (wrap64 (X:Int)*Y1))).tmod 65521=(C+X*Y1)%65521:=by
 have h5:0<=(X:Int)*Y1:=Int.mul_nonneg (by omega) h3;have h6:(X:Int)*Y1<=256*65521:=Int.mul_le_mul (by omega) (by omega) h3 (by omega);rw[jS X (by omega) (by omega),jS (X*Y1) (by omega) (by omega),jS _ (by omega) (by omega),Int.tmod_eq_emod_of_nonneg (by omega)]
theorem kU(bs:List UInt8)(k:Nat)(_h:k<bs.length)(h':k<(aC bs).size):(aC bs)[k]=bs[k]:=rfl
theorem iN(bs:List UInt8)(w:World)(hlen:bs.length<=140737488355328):
  Calls pG 156 #[.string (aC bs)] w fun e w'=>e=.returned (I T (aV bs))/\w'=w:=by
 have HF:=aA (GT bs);have hsz:=fT bs;go_enter Tryz.func156,Tryz.ntmps156;go_wp2
 go_loop [3,4,5] (fun a c i=>∃k:Nat,k<=bs.length/\i=I T k/\a=I T (dG (bs.take k)).1/\c=I T (rc bs k)) (fun _ _ i=>bs.length - (intOf i).toNat)
 case atStart=>exact⟨0,by omega,rfl,rfl,rfl⟩
 case round=>
  obtain⟨k,hk,rfl,rfl,rfl⟩:=hrel;have hA:=oI (bs.take k);have hC:=I5 bs k
  by_cases hlt:k<bs.length
  ·have HA:Hid ((dG (bs.take (k+1))).1=((dG (bs.take k)).1+(bs[k].toNat:Int))%65521):=by
    unfold Hid;rw[nZ bs k hlt,nV];rfl
   have HC:Hid (rc bs (k+1)=(rc bs k+(bs[k].toNat:Int)*(((bs.length:Int) - k)%65521))%65521):=by
    unfold Hid;simp only[rc];rw[List.getD_eq_getElem?_getD,List.getElem?_eq_getElem hlt,Option.getD_some]
   generalize (dG (bs.take k)).1=A at*;generalize rc bs k=C at*;go_wp2;have e1:=kU bs k hlt (by omega);have hX:=UInt8.toNat_lt bs[k];rw[e1,E8 A _ (by omega) (by omega) (by omega),E9 C _ _ (by omega) (by omega) (by omega) (by omega) (by omega)]
   go_round
   case rel=>exact⟨k+1,by omega,by go_num,by rw[HA.out];rfl,by rw[HC.out];rfl⟩
   case measure=>simp[intOf];omega
  ·have hkn:k=bs.length:=by omega
   subst hkn;have HT:Hid (bs.take bs.length=bs):=List.take_length;rw[HT.out]at hA⊢;generalize (dG bs).1=A at*;generalize rc bs bs.length=C at*;go_wp2;go_ret;exact⟨iP HF.out,rfl⟩
def bN(n most:Int):Bool:=decide (0<=n/\n<=most)
theorem GU(n most:Int)(w:World):Calls pG 154 #[I T n,I T most] w fun e w'=>e=.returned (.bool (bN n most))/\w'=w:=by
 have HI:Hid (bN n most=decide (0<=n/\n<=most)):=rfl;go_enter Tryz.func154,Tryz.ntmps154;go_wp2
 all_goals go_ret
 all_goals refine⟨dW ?_,rfl⟩
 all_goals rw[HI.out]
 all_goals simp
 all_goals omega
def gW(k1 f1 e1 b1 wa1 p1 s1 q1 bl1 v1 k2 f2 e2 b2 wa2 p2 s2 q2 bl2 v2:Int):Bool:=decide (k1=k2/\f1=f2/\e1=e2/\b1=b2/\wa1=wa2/\p1=p2/\s1=s2/\q1=q2/\bl1=bl2/\v1=v2)
def fL(z1 z2:List Int)(k1 f1 e1 b1 wa1 p1 s1 q1 bl1 v1 k2 f2 e2 b2 wa2 p2 s2 q2 bl2 v2:Int):Bool:=decide (z1=z2)&&gW k1 f1 e1 b1 wa1 p1 s1 q1 bl1 v1 k2 f2 e2 b2 wa2 p2 s2 q2 bl2 v2
theorem A5(k1 f1 e1 b1 wa1 p1 s1 q1 bl1 v1 k2 f2 e2 b2 wa2 p2 s2 q2 bl2 v2:Int)(a1 a2:Option Addr)(c1 c2:Nat)(z1 z2:List Int)(w:World)(hl:z1.length<=9223372036854775807)(h1:bG w a1 z1)(h2:bG w a2 z2):
  Calls pG 105 #[.agg #[I T k1,I T f1,I T e1,I T b1,I T wa1,I T p1,I T s1,I T q1,I T bl1,I T v1,J a1 z1.length c1],.agg #[I T k2,I T f2,I T e2,I T b2,I T wa2,I T p2,I T s2,I T q2,I T bl2,I T v2,J a2 z2.length c2]] w fun r w'=>r=.returned (.bool (fL z1 z2 k1 f1 e1 b1 wa1 p1 s1 q1 bl1 v1 k2 f2 e2 b2 wa2 p2 s2 q2 bl2 v2))/\Below w.heap.size w w':=by
 have HB:Hid (fL z1 z2 k1 f1 e1 b1 wa1 p1 s1 q1 bl1 v1 k2 f2 e2 b2 wa2 p2 s2 q2 bl2 v2=(decide (z1=z2)&&decide (k1=k2/\f1=f2/\e1=e2/\b1=b2/\wa1=wa2/\p1=p2/\s1=s2/\q1=q2/\bl1=bl2/\v1=v2))):=rfl;have hb0:=((Below.refl w.heap.size w).alloc (Nat.le_refl _) (G #[I T k1,I T f1,I T e1,I T b1,I T wa1,I T p1,I T s1,I T q1,I T bl1,I T v1,J a1 z1.length c1] 136)).alloc (by simp) (G #[I T k2,I T f2,I T e2,I T b2,I T wa2,I T p2,I T s2,I T q2,I T bl2,I T v2,J a2 z2.length c2] 136);have h10:=h1.later hb0;have h20:=h2.later hb0
 by_cases hne:z1.length=z2.length
 ·have hlen:((z1.length:Int) != (z2.length:Int))=false:=by simp[hne]
  have HN:Hid _:=hne;clear hne;go_enter Tryz.func105,Tryz.ntmps105;go_wp2
  have hc1:∀i,((w.alloc (G #[I T k1,I T f1,I T e1,I T b1,I T wa1,I T p1,I T s1,I T q1,I T bl1,I T v1,J a1 z1.length c1] 136)).alloc (G #[I T k2,I T f2,I T e2,I T b2,I T wa2,I T p2,I T s2,I T q2,I T bl2,I T v2,J a2 z2.length c2] 136)).cell? ⟨w.heap.size,i,Z⟩=#[I T k1,I T f1,I T e1,I T b1,I T wa1,I T p1,I T s1,I T q1,I T bl1,I T v1,J a1 z1.length c1][i]?:=fun i=>by
   rw[World.cell?_alloc_past _ _ _ (by simp),World.cell?_alloc_at _ _ _ _ rfl]
  have hc2:∀i,((w.alloc (G #[I T k1,I T f1,I T e1,I T b1,I T wa1,I T p1,I T s1,I T q1,I T bl1,I T v1,J a1 z1.length c1] 136)).alloc (G #[I T k2,I T f2,I T e2,I T b2,I T wa2,I T p2,I T s2,I T q2,I T bl2,I T v2,J a2 z2.length c2] 136)).cell? ⟨w.heap.size+1,i,Z⟩=#[I T k2,I T f2,I T e2,I T b2,I T wa2,I T p2,I T s2,I T q2,I T bl2,I T v2,J a2 z2.length c2][i]?:=fun i=>World.cell?_alloc_at _ _ _ _ (by simp);generalize ((w.alloc (G #[I T k1,I T f1,I T e1,I T b1,I T wa1,I T p1,I T s1,I T q1,I T bl1,I T v1,J a1 z1.length c1] 136)).alloc (G #[I T k2,I T f2,I T e2,I T b2,I T wa2,I T p2,I T s2,I T q2,I T bl2,I T v2,J a2 z2.length c2] 136))=W0 at*
  go_loopw [5] (fun i wr=>∃(t n:Nat),t<=z1.length/\i=I T t/\wr=W0.drewN n/\z1.take t=z2.take t) (fun i _=>z1.length - (intOf i).toNat)
  case atStart=>exact⟨0,0,Nat.zero_le _,rfl,rfl,rfl⟩
  case round=>
   obtain⟨t,n,ht,rfl,rfl,hpre⟩:=hrel;have HP:Hid _:=hpre;clear hpre
   by_cases htl:t<z1.length
   ·obtain⟨g1,o1,rfl,_,k1'⟩:=h10.resolve_left (by intro h;subst h;simp at htl);obtain⟨g2,o2,rfl,_,k2'⟩:=h20.resolve_left (by intro h;have hn:=HN.out;subst h;simp at hn;subst hn;simp at htl);have j1:=k1' t htl;have j2:=k2' t (HN.out ▸ htl);have htl2:(t:Int)<(z1.length:Int):=by omega
    have htl3:(t:Int)<(z2.length:Int):=by have hn:=HN.out;omega
    have HZ1:Hid (z1.take (t+1)=z1.take t++[z1[t]]):=by simp[Hid]
    have HZ2:Hid (z2.take (t+1)=z2.take t++[z2[t]'(HN.out ▸ htl)]):=by simp[Hid]
    have HX1:Hid (z1[t]?=Y z1[t]):=by unfold Hid;simp
    have HX2:Hid (z2[t]?=Y (z2[t]'(HN.out ▸ htl))):=by unfold Hid;simp
    clear k1' k2' h1 h2 h10 h20;generalize z1[t]=X at*;generalize z2[t]=Y1 at*
    by_cases hxy:X=Y1
    ·subst hxy;go_wp2
     go_quiet (fail)
     go_wp2
     go_roundw
     case rel=>exact⟨t+1,_,by omega,by go_num,rfl,by rw[HZ1.out,HZ2.out,HP.out]⟩
     case measure=>simp[intOf];omega
    ·have hxy':(X != Y1)=true:=by simp[hxy]
     have HF:Hid (fL z1 z2 k1 f1 e1 b1 wa1 p1 s1 q1 bl1 v1 k2 f2 e2 b2 wa2 p2 s2 q2 bl2 v2=false):=by
      unfold Hid;rw[HB.out,decide_eq_false (fun h=>hxy (by subst h;have:=HX1.out.symm.trans HX2.out;simpa using this))];rfl
     go_wp2
     go_quiet (fail)
     go_wp2;go_ret
     exact⟨dW HF.out.symm,below_drewN (below_drewN hb0 _) _⟩
   ·have HE:Hid (z1=z2):=by
     have h3:=HP.out;have hn:=HN.out;rw[List.take_of_length_le (by omega),List.take_of_length_le (by omega)]at h3;exact h3
    have HS:Hid (fL z1 z2 k1 f1 e1 b1 wa1 p1 s1 q1 bl1 v1 k2 f2 e2 b2 wa2 p2 s2 q2 bl2 v2=decide (k1=k2/\f1=f2/\e1=e2/\b1=b2/\wa1=wa2/\p1=p2/\s1=s2/\q1=q2/\bl1=bl2/\v1=v2)):=by unfold Hid;rw[HB.out,decide_eq_true HE.out];rfl
    clear h1 h2 h10 h20;go_wp2
    all_goals go_ret
    all_goals refine⟨dW ?_,below_drewN hb0 _⟩
    all_goals rw[HS.out]
    all_goals(simp[*]<;>rfl)
 ·have hlen:((z1.length:Int) != (z2.length:Int))=true:=by simp;omega
  have HF:Hid (fL z1 z2 k1 f1 e1 b1 wa1 p1 s1 q1 bl1 v1 k2 f2 e2 b2 wa2 p2 s2 q2 bl2 v2=false):=by
   unfold Hid;rw[HB.out,decide_eq_false (fun h=>hne (by rw[h]))];rfl
  go_enter Tryz.func105,Tryz.ntmps105;go_wp2;go_ret;exact⟨dW HF.out.symm,hb0⟩
theorem C7(k f e b wa p s q bl v:Int)(a:Option Addr)(n c:Nat)(w:World)(h:k<1):
  Calls pG 153 #[.agg #[I T k,I T f,I T e,I T b,I T wa,I T p,I T s,I T q,I T bl,I T v,J a n c]] w fun r w'=>r=.returned (.agg #[(I T k),(I T f),(I T e),(I T 0),(I T 0),(I T 0),(I T 0),(I T 0),(I T 0),(I T 0),(J Z 0 0)])/\Below w.heap.size w w':=by
 have h2:(k==2)=false:=by simp;omega
 have h3:(k==3)=false:=by simp;omega
 have h5:(k==5)=false:=by simp;omega
 have h6:(k==6)=false:=by simp;omega
 have h7:(k==7)=false:=by simp;omega
 have h9:(k==9)=false:=by simp;omega
 go_enter Tryz.func153,Tryz.ntmps153;go_wp2;exact bodyPost_ret (v:=.agg #[(I T k),(I T f),(I T e),(I T 0),(I T 0),(I T 0),(I T 0),(I T 0),(I T 0),(I T 0),(J Z 0 0)]) (by simp[results,Tryz.results153,go_sem]) rfl ⟨rfl,(((Below.refl _ _).alloc (Nat.le_refl _) _).alloc (by simp) _).alloc (by simp;omega) _⟩
theorem A6(k f e b wa p s q bl v:Int)(a:Option Addr)(n c:Nat)(w:World)(h:10<k):
  Calls pG 153 #[.agg #[I T k,I T f,I T e,I T b,I T wa,I T p,I T s,I T q,I T bl,I T v,J a n c]] w fun r w'=>r=.returned (.agg #[(I T k),(I T f),(I T e),(I T 0),(I T 0),(I T 0),(I T 0),(I T 0),(I T 0),(I T 0),(J Z 0 0)])/\Below w.heap.size w w':=by
 have h2:(k==2)=false:=by simp;omega
 have h3:(k==3)=false:=by simp;omega
 have h5:(k==5)=false:=by simp;omega
 have h6:(k==6)=false:=by simp;omega
 have h7:(k==7)=false:=by simp;omega
 have h9:(k==9)=false:=by simp;omega
 go_enter Tryz.func153,Tryz.ntmps153;go_wp2;exact bodyPost_ret (v:=.agg #[(I T k),(I T f),(I T e),(I T 0),(I T 0),(I T 0),(I T 0),(I T 0),(I T 0),(I T 0),(J Z 0 0)]) (by simp[results,Tryz.results153,go_sem]) rfl ⟨rfl,(((Below.refl _ _).alloc (Nat.le_refl _) _).alloc (by simp) _).alloc (by simp;omega) _⟩
theorem GV(f e b wa p s q bl v:Int)(a:Option Addr)(n c:Nat)(w:World):
  Calls pG 153 #[.agg #[I T 1,I T f,I T e,I T b,I T wa,I T p,I T s,I T q,I T bl,I T v,J a n c]] w fun r w'=>r=.returned (.agg #[(I T 1),(I T f),(I T e),(I T b),(I T 0),(I T 0),(I T 0),(I T 0),(I T 0),(I T 0),(J Z 0 0)])/\Below w.heap.size w w':=by
 go_enter Tryz.func153,Tryz.ntmps153;go_wp2;exact bodyPost_ret (v:=.agg #[(I T 1),(I T f),(I T e),(I T b),(I T 0),(I T 0),(I T 0),(I T 0),(I T 0),(I T 0),(J Z 0 0)]) (by simp[results,Tryz.results153,go_sem]) rfl ⟨rfl,(((Below.refl _ _).alloc (Nat.le_refl _) _).alloc (by simp) _).alloc (by simp;omega) _⟩
theorem GW(f e b wa p s q bl v:Int)(a:Option Addr)(n c:Nat)(w:World):
  Calls pG 153 #[.agg #[I T 2,I T f,I T e,I T b,I T wa,I T p,I T s,I T q,I T bl,I T v,J a n c]] w fun r w'=>r=.returned (.agg #[(I T 2),(I T f),(I T e),(I T b),(I T wa),(I T p),(I T s),(I T 0),(I T 0),(I T 0),(J Z 0 0)])/\Below w.heap.size w w':=by
 go_enter Tryz.func153,Tryz.ntmps153;go_wp2;exact bodyPost_ret (v:=.agg #[(I T 2),(I T f),(I T e),(I T b),(I T wa),(I T p),(I T s),(I T 0),(I T 0),(I T 0),(J Z 0 0)]) (by simp[results,Tryz.results153,go_sem]) rfl ⟨rfl,(((Below.refl _ _).alloc (Nat.le_refl _) _).alloc (by simp) _).alloc (by simp;omega) _⟩
theorem GX(f e b wa p s q bl v:Int)(a:Option Addr)(n c:Nat)(w:World):
  Calls pG 153 #[.agg #[I T 3,I T f,I T e,I T b,I T wa,I T p,I T s,I T q,I T bl,I T v,J a n c]] w fun r w'=>r=.returned (.agg #[(I T 3),(I T f),(I T e),(I T b),(I T 0),(I T p),(I T s),(I T 0),(I T 0),(I T 0),(J Z 0 0)])/\Below w.heap.size w w':=by
 go_enter Tryz.func153,Tryz.ntmps153;go_wp2;exact bodyPost_ret (v:=.agg #[(I T 3),(I T f),(I T e),(I T b),(I T 0),(I T p),(I T s),(I T 0),(I T 0),(I T 0),(J Z 0 0)]) (by simp[results,Tryz.results153,go_sem]) rfl ⟨rfl,(((Below.refl _ _).alloc (Nat.le_refl _) _).alloc (by simp) _).alloc (by simp;omega) _⟩
theorem GY(f e b wa p s q bl v:Int)(a:Option Addr)(n c:Nat)(w:World):
  Calls pG 153 #[.agg #[I T 4,I T f,I T e,I T b,I T wa,I T p,I T s,I T q,I T bl,I T v,J a n c]] w fun r w'=>r=.returned (.agg #[(I T 4),(I T f),(I T e),(I T b),(I T 0),(I T 0),(I T 0),(I T 0),(I T 0),(I T 0),(J Z 0 0)])/\Below w.heap.size w w':=by
 go_enter Tryz.func153,Tryz.ntmps153;go_wp2;exact bodyPost_ret (v:=.agg #[(I T 4),(I T f),(I T e),(I T b),(I T 0),(I T 0),(I T 0),(I T 0),(I T 0),(I T 0),(J Z 0 0)]) (by simp[results,Tryz.results153,go_sem]) rfl ⟨rfl,(((Below.refl _ _).alloc (Nat.le_refl _) _).alloc (by simp) _).alloc (by simp;omega) _⟩
theorem GZ(f e b wa p s q bl v:Int)(a:Option Addr)(n c:Nat)(w:World):
  Calls pG 153 #[.agg #[I T 5,I T f,I T e,I T b,I T wa,I T p,I T s,I T q,I T bl,I T v,J a n c]] w fun r w'=>r=.returned (.agg #[(I T 5),(I T f),(I T e),(I T b),(I T wa),(I T 0),(I T 0),(I T 0),(I T 0),(I T 0),(J Z 0 0)])/\Below w.heap.size w w':=by
 go_enter Tryz.func153,Tryz.ntmps153;go_wp2;exact bodyPost_ret (v:=.agg #[(I T 5),(I T f),(I T e),(I T b),(I T wa),(I T 0),(I T 0),(I T 0),(I T 0),(I T 0),(J Z 0 0)]) (by simp[results,Tryz.results153,go_sem]) rfl ⟨rfl,(((Below.refl _ _).alloc (Nat.le_refl _) _).alloc (by simp) _).alloc (by simp;omega) _⟩
theorem G0(f e b wa p s q bl v:Int)(a:Option Addr)(n c:Nat)(w:World):
  Calls pG 153 #[.agg #[I T 6,I T f,I T e,I T b,I T wa,I T p,I T s,I T q,I T bl,I T v,J a n c]] w fun r w'=>r=.returned (.agg #[(I T 6),(I T f),(I T e),(I T 0),(I T 0),(I T p),(I T s),(I T 0),(I T 0),(I T 0),(J Z 0 0)])/\Below w.heap.size w w':=by
 go_enter Tryz.func153,Tryz.ntmps153;go_wp2;exact bodyPost_ret (v:=.agg #[(I T 6),(I T f),(I T e),(I T 0),(I T 0),(I T p),(I T s),(I T 0),(I T 0),(I T 0),(J Z 0 0)]) (by simp[results,Tryz.results153,go_sem]) rfl ⟨rfl,(((Below.refl _ _).alloc (Nat.le_refl _) _).alloc (by simp) _).alloc (by simp;omega) _⟩
theorem G2(f e b wa p s q bl v:Int)(a:Option Addr)(n c:Nat)(w:World):
  Calls pG 153 #[.agg #[I T 7,I T f,I T e,I T b,I T wa,I T p,I T s,I T q,I T bl,I T v,J a n c]] w fun r w'=>r=.returned (.agg #[(I T 7),(I T f),(I T e),(I T 0),(I T 0),(I T 0),(I T 0),(I T q),(I T bl),(I T v),(J Z 0 0)])/\Below w.heap.size w w':=by
 go_enter Tryz.func153,Tryz.ntmps153;go_wp2;exact bodyPost_ret (v:=.agg #[(I T 7),(I T f),(I T e),(I T 0),(I T 0),(I T 0),(I T 0),(I T q),(I T bl),(I T v),(J Z 0 0)]) (by simp[results,Tryz.results153,go_sem]) rfl ⟨rfl,(((Below.refl _ _).alloc (Nat.le_refl _) _).alloc (by simp) _).alloc (by simp;omega) _⟩
theorem G3(f e b wa p s q bl v:Int)(a:Option Addr)(n c:Nat)(w:World):
  Calls pG 153 #[.agg #[I T 8,I T f,I T e,I T b,I T wa,I T p,I T s,I T q,I T bl,I T v,J a n c]] w fun r w'=>r=.returned (.agg #[(I T 8),(I T f),(I T e),(I T 0),(I T 0),(I T 0),(I T 0),(I T q),(I T 0),(I T 0),(J Z 0 0)])/\Below w.heap.size w w':=by
 go_enter Tryz.func153,Tryz.ntmps153;go_wp2;exact bodyPost_ret (v:=.agg #[(I T 8),(I T f),(I T e),(I T 0),(I T 0),(I T 0),(I T 0),(I T q),(I T 0),(I T 0),(J Z 0 0)]) (by simp[results,Tryz.results153,go_sem]) rfl ⟨rfl,(((Below.refl _ _).alloc (Nat.le_refl _) _).alloc (by simp) _).alloc (by simp;omega) _⟩
theorem G4(f e b wa p s q bl v:Int)(a:Option Addr)(n c:Nat)(w:World):
  Calls pG 153 #[.agg #[I T 9,I T f,I T e,I T b,I T wa,I T p,I T s,I T q,I T bl,I T v,J a n c]] w fun r w'=>r=.returned (.agg #[(I T 9),(I T f),(I T e),(I T 0),(I T 0),(I T 0),(I T 0),(I T q),(I T 0),(I T 0),(J a n c)])/\Below w.heap.size w w':=by
 go_enter Tryz.func153,Tryz.ntmps153;go_wp2;exact bodyPost_ret (v:=.agg #[(I T 9),(I T f),(I T e),(I T 0),(I T 0),(I T 0),(I T 0),(I T q),(I T 0),(I T 0),(J a n c)]) (by simp[results,Tryz.results153,go_sem]) rfl ⟨rfl,(((Below.refl _ _).alloc (Nat.le_refl _) _).alloc (by simp) _).alloc (by simp;omega) _⟩
theorem FA(f e b wa p s q bl v:Int)(a:Option Addr)(n c:Nat)(w:World):
  Calls pG 153 #[.agg #[I T 10,I T f,I T e,I T b,I T wa,I T p,I T s,I T q,I T bl,I T v,J a n c]] w fun r w'=>r=.returned (.agg #[(I T 10),(I T f),(I T e),(I T 0),(I T 0),(I T 0),(I T 0),(I T q),(I T 0),(I T 0),(J Z 0 0)])/\Below w.heap.size w w':=by
 go_enter Tryz.func153,Tryz.ntmps153;go_wp2;exact bodyPost_ret (v:=.agg #[(I T 10),(I T f),(I T e),(I T 0),(I T 0),(I T 0),(I T 0),(I T q),(I T 0),(I T 0),(J Z 0 0)]) (by simp[results,Tryz.results153,go_sem]) rfl ⟨rfl,(((Below.refl _ _).alloc (Nat.le_refl _) _).alloc (by simp) _).alloc (by simp;omega) _⟩
def dZ(zs z2:List Int)(k f e b wa p s q bl v k' f' e' b' wa' p' s' q' bl' v':Int):Bool:=(fL zs z2 k f e b wa p s q bl v k' f' e' b' wa' p' s' q' bl' v'&&bN (wrap64 (k - 1)) 9&&bN f 4&&bN e 1000000000000&&bN b 1000000000000&&bN wa 1000000000000&&bN p 5&&bN s 31&&bN q 1000000000000&&bN bl 3&&decide ((zs.length:Int)<=4))
theorem gS(k f e b wa p s q bl v k' f' e' b' wa' p' s' q' bl' v':Int)(a a2:Option Addr)(c c2:Nat)(zs z2:List Int)(w:World)(hl:zs.length<=9223372036854775807)(h1:bG w a zs)(h2:z2=[]∨(a2=a/\z2=zs))(hO:∀w,Calls pG 153 #[.agg #[I T k,I T f,I T e,I T b,I T wa,I T p,I T s,I T q,I T bl,I T v,J a zs.length c]] w fun r w'=>r=.returned (.agg #[I T k',I T f',I T e',I T b',I T wa',I T p',I T s',I T q',I T bl',I T v',J a2 z2.length c2])/\Below w.heap.size w w'):
  Calls pG 95 #[.agg #[I T k,I T f,I T e,I T b,I T wa,I T p,I T s,I T q,I T bl,I T v,J a zs.length c]] w fun r w'=>r=.returned (.bool (dZ zs z2 k f e b wa p s q bl v k' f' e' b' wa' p' s' q' bl' v'))/\Below w.heap.size w w':=by
 have HB:Hid (dZ zs z2 k f e b wa p s q bl v k' f' e' b' wa' p' s' q' bl' v'=(fL zs z2 k f e b wa p s q bl v k' f' e' b' wa' p' s' q' bl' v'&&bN (wrap64 (k - 1)) 9&&bN f 4&&bN e 1000000000000&&bN b 1000000000000&&bN wa 1000000000000&&bN p 5&&bN s 31&&bN q 1000000000000&&bN bl 3&&decide ((zs.length:Int)<=4))):=rfl;have hb0:=(Below.refl w.heap.size w).alloc (Nat.le_refl _) (G #[I T k,I T f,I T e,I T b,I T wa,I T p,I T s,I T q,I T bl,I T v,J a zs.length c] 136);have hc0:∀i,(w.alloc (G #[I T k,I T f,I T e,I T b,I T wa,I T p,I T s,I T q,I T bl,I T v,J a zs.length c] 136)).cell? ⟨w.heap.size,i,Z⟩=#[I T k,I T f,I T e,I T b,I T wa,I T p,I T s,I T q,I T bl,I T v,J a zs.length c][i]?:=fun i=>World.cell?_alloc_at _ _ _ _ rfl;have hs0:(w.alloc (G #[I T k,I T f,I T e,I T b,I T wa,I T p,I T s,I T q,I T bl,I T v,J a zs.length c] 136)).heap.size=w.heap.size+1:=by simp
 go_enter Tryz.func95,Tryz.ntmps95
 go_wp2_with fail
 generalize (w.alloc (G #[I T k,I T f,I T e,I T b,I T wa,I T p,I T s,I T q,I T bl,I T v,J a zs.length c] 136))=W0 at*;refine(hO W0).mono ?_;rintro r w1 ⟨rfl,hb1⟩;have hc1:∀i,w1.cell? ⟨w.heap.size,i,Z⟩=#[I T k,I T f,I T e,I T b,I T wa,I T p,I T s,I T q,I T bl,I T v,J a zs.length c][i]?:=fun i=>(hb1.cell (by show w.heap.size<_;omega)).trans (hc0 i);have hbb1:=hb0.trans (hb1.mono (by omega));have hs1:=hb1.size;clear hc0 hb0 hb1 hO;have hbx:=hbb1.alloc (by omega) (G #[I T k',I T f',I T e',I T b',I T wa',I T p',I T s',I T q',I T bl',I T v',J a2 z2.length c2] 136);have hcx:∀i,(w1.alloc (G #[I T k',I T f',I T e',I T b',I T wa',I T p',I T s',I T q',I T bl',I T v',J a2 z2.length c2] 136)).cell? ⟨w.heap.size,i,Z⟩=#[I T k,I T f,I T e,I T b,I T wa,I T p,I T s,I T q,I T bl,I T v,J a zs.length c][i]?:=fun i=>by rw[World.cell?_alloc_past _ _ _ (by show w.heap.size<_;omega),hc1]
 have hcy:∀i,(w1.alloc (G #[I T k',I T f',I T e',I T b',I T wa',I T p',I T s',I T q',I T bl',I T v',J a2 z2.length c2] 136)).cell? ⟨w1.heap.size,i,Z⟩=#[I T k',I T f',I T e',I T b',I T wa',I T p',I T s',I T q',I T bl',I T v',J a2 z2.length c2][i]?:=fun i=>World.cell?_alloc_at _ _ _ _ rfl;have hsx:(w1.alloc (G #[I T k',I T f',I T e',I T b',I T wa',I T p',I T s',I T q',I T bl',I T v',J a2 z2.length c2] 136)).heap.size=w1.heap.size+1:=by simp
 have h1x:=h1.later hbx
 have h2x:bG (w1.alloc (G #[I T k',I T f',I T e',I T b',I T wa',I T p',I T s',I T q',I T bl',I T v',J a2 z2.length c2] 136)) a2 z2:=by
  rcases h2 with rfl|⟨rfl,rfl⟩
  ·exact .inl rfl
  ·exact h1x
 clear h1 h2 hc1
 go_wp2_with fail
 generalize (w1.alloc (G #[I T k',I T f',I T e',I T b',I T wa',I T p',I T s',I T q',I T bl',I T v',J a2 z2.length c2] 136))=W1 at*;refine(A5 k f e b wa p s q bl v k' f' e' b' wa' p' s' q' bl' v' a a2 c c2 zs z2 W1 hl h1x h2x).mono ?_;rintro r w2 ⟨rfl,hb2⟩;have hc2:∀i,w2.cell? ⟨w.heap.size,i,Z⟩=#[I T k,I T f,I T e,I T b,I T wa,I T p,I T s,I T q,I T bl,I T v,J a zs.length c][i]?:=fun i=>(hb2.cell (by show w.heap.size<_;omega)).trans (hcx i);have hbb2:=hbx.trans (hb2.mono (by omega));have hs2:=hb2.size;have hq:w.heap.size<w2.heap.size:=by omega
 clear hcx hcy hb2 hbx hbb1 h1x h2x hs1 hs2 hsx hs0;generalize fL zs z2 k f e b wa p s q bl v k' f' e' b' wa' p' s' q' bl' v'=B0 at*
 go_wp2_with(first|(go_at_call 154;refine(GU _ _ _).mono ?_;rintro r w' ⟨rfl,rfl⟩))
 all_goals go_ret
 all_goals refine⟨dW ?_,hbb2⟩
 all_goals rw[HB.out]
 all_goals simp[*]
theorem zG(zs:List Int)(k f e b wa p s q bl v:Int)(h:k<1)(bk:-9223372036854775808<=k/\k<=9223372036854775807):dZ zs [] k f e b wa p s q bl v k f e 0 0 0 0 0 0 0=aN k f [0,e,b,wa,p,s,q,bl,v,(zs.length:Int)]:=by
 have e1:aN k f [0,e,b,wa,p,s,q,bl,v,(zs.length:Int)]=false:=by
  unfold aN eU;rw[decide_eq_true (by omega)];rfl
 have e2:bN (wrap64 (k - 1)) 9=false:=by
  unfold bN wrap64;rw[decide_eq_false_iff_not];omega
 rw[e1];unfold dZ;rw[e2];simp
theorem xE(zs:List Int)(k f e b wa p s q bl v:Int)(h:10<k)(bk:-9223372036854775808<=k/\k<=9223372036854775807):dZ zs [] k f e b wa p s q bl v k f e 0 0 0 0 0 0 0=aN k f [0,e,b,wa,p,s,q,bl,v,(zs.length:Int)]:=by
 have e1:aN k f [0,e,b,wa,p,s,q,bl,v,(zs.length:Int)]=false:=by
  unfold aN eU;rw[decide_eq_true (by omega)];rfl
 have e2:bN (wrap64 (k - 1)) 9=false:=by
  unfold bN wrap64;rw[decide_eq_false_iff_not];omega
 rw[e1];unfold dZ;rw[e2];simp
theorem C8(zs:List Int)(f e b wa p s q bl v:Int):dZ zs [] 1 f e b wa p s q bl v 1 f e b 0 0 0 0 0 0=aN 1 f [0,e,b,wa,p,s,q,bl,v,(zs.length:Int)]:=by
 have e1:bN (wrap64 (1 - 1)) 9=true:=by unfold bN wrap64;rw[decide_eq_true (by omega)]
 rw[Bool.eq_iff_iff];unfold dZ aN;rw[e1];rw[show((1:Int).toNat)=1 from rfl];unfold fL gW bN eU;simp only[Bool.and_eq_true,decide_eq_true_eq,Bool.not_eq_true',decide_eq_false_iff_not,jH,←List.length_eq_zero_iff,true_and,and_true,eq_self];omega
theorem C9(zs:List Int)(f e b wa p s q bl v:Int):dZ zs [] 2 f e b wa p s q bl v 2 f e b wa p s 0 0 0=aN 2 f [0,e,b,wa,p,s,q,bl,v,(zs.length:Int)]:=by
 have e1:bN (wrap64 (2 - 1)) 9=true:=by unfold bN wrap64;rw[decide_eq_true (by omega)]
 rw[Bool.eq_iff_iff];unfold dZ aN;rw[e1];rw[show((2:Int).toNat)=2 from rfl];unfold fL gW bN eU;simp only[Bool.and_eq_true,decide_eq_true_eq,Bool.not_eq_true',decide_eq_false_iff_not,lB,←List.length_eq_zero_iff,true_and,and_true,eq_self];omega
theorem DA(zs:List Int)(f e b wa p s q bl v:Int):dZ zs [] 3 f e b wa p s q bl v 3 f e b 0 p s 0 0 0=aN 3 f [0,e,b,wa,p,s,q,bl,v,(zs.length:Int)]:=by
 have e1:bN (wrap64 (3 - 1)) 9=true:=by unfold bN wrap64;rw[decide_eq_true (by omega)]
 rw[Bool.eq_iff_iff];unfold dZ aN;rw[e1];rw[show((3:Int).toNat)=3 from rfl];unfold fL gW bN eU;simp only[Bool.and_eq_true,decide_eq_true_eq,Bool.not_eq_true',decide_eq_false_iff_not,jI,←List.length_eq_zero_iff,true_and,and_true,eq_self];omega
theorem DB(zs:List Int)(f e b wa p s q bl v:Int):dZ zs [] 4 f e b wa p s q bl v 4 f e b 0 0 0 0 0 0=aN 4 f [0,e,b,wa,p,s,q,bl,v,(zs.length:Int)]:=by
 have e1:bN (wrap64 (4 - 1)) 9=true:=by unfold bN wrap64;rw[decide_eq_true (by omega)]
 rw[Bool.eq_iff_iff];unfold dZ aN;rw[e1];rw[show((4:Int).toNat)=4 from rfl];unfold fL gW bN eU;simp only[Bool.and_eq_true,decide_eq_true_eq,Bool.not_eq_true',decide_eq_false_iff_not,lC,←List.length_eq_zero_iff,true_and,and_true,eq_self];omega
theorem DC(zs:List Int)(f e b wa p s q bl v:Int):dZ zs [] 5 f e b wa p s q bl v 5 f e b wa 0 0 0 0 0=aN 5 f [0,e,b,wa,p,s,q,bl,v,(zs.length:Int)]:=by
 have e1:bN (wrap64 (5 - 1)) 9=true:=by unfold bN wrap64;rw[decide_eq_true (by omega)]
 rw[Bool.eq_iff_iff];unfold dZ aN;rw[e1];rw[show((5:Int).toNat)=5 from rfl];unfold fL gW bN eU;simp only[Bool.and_eq_true,decide_eq_true_eq,Bool.not_eq_true',decide_eq_false_iff_not,lE,←List.length_eq_zero_iff,true_and,and_true,eq_self];omega
theorem DE(zs:List Int)(f e b wa p s q bl v:Int):dZ zs [] 6 f e b wa p s q bl v 6 f e 0 0 p s 0 0 0=aN 6 f [0,e,b,wa,p,s,q,bl,v,(zs.length:Int)]:=by
 have e1:bN (wrap64 (6 - 1)) 9=true:=by unfold bN wrap64;rw[decide_eq_true (by omega)]
 rw[Bool.eq_iff_iff];unfold dZ aN;rw[e1];rw[show((6:Int).toNat)=6 from rfl];unfold fL gW bN eU;simp only[Bool.and_eq_true,decide_eq_true_eq,Bool.not_eq_true',decide_eq_false_iff_not,jJ,←List.length_eq_zero_iff,true_and,and_true,eq_self];omega
theorem DF(zs:List Int)(f e b wa p s q bl v:Int)(bv:-9223372036854775808<=v/\v<=9223372036854775807):dZ zs [] 7 f e b wa p s q bl v 7 f e 0 0 0 0 q bl v=aN 7 f [0,e,b,wa,p,s,q,bl,v,(zs.length:Int)]:=by
 have e1:bN (wrap64 (7 - 1)) 9=true:=by unfold bN wrap64;rw[decide_eq_true (by omega)]
 rw[Bool.eq_iff_iff];unfold dZ aN;rw[e1];rw[show((7:Int).toNat)=7 from rfl];unfold fL gW bN eU;simp only[Bool.and_eq_true,decide_eq_true_eq,Bool.not_eq_true',decide_eq_false_iff_not,kA,←List.length_eq_zero_iff,true_and,and_true,eq_self];omega
theorem DG(zs:List Int)(f e b wa p s q bl v:Int):dZ zs [] 8 f e b wa p s q bl v 8 f e 0 0 0 0 q 0 0=aN 8 f [0,e,b,wa,p,s,q,bl,v,(zs.length:Int)]:=by
 have e1:bN (wrap64 (8 - 1)) 9=true:=by unfold bN wrap64;rw[decide_eq_true (by omega)]
 rw[Bool.eq_iff_iff];unfold dZ aN;rw[e1];rw[show((8:Int).toNat)=8 from rfl];unfold fL gW bN eU;simp only[Bool.and_eq_true,decide_eq_true_eq,Bool.not_eq_true',decide_eq_false_iff_not,lF,←List.length_eq_zero_iff,true_and,and_true,eq_self];omega
theorem DH(zs:List Int)(f e b wa p s q bl v:Int):dZ zs zs 9 f e b wa p s q bl v 9 f e 0 0 0 0 q 0 0=aN 9 f [0,e,b,wa,p,s,q,bl,v,(zs.length:Int)]:=by
 have e1:bN (wrap64 (9 - 1)) 9=true:=by unfold bN wrap64;rw[decide_eq_true (by omega)]
 rw[Bool.eq_iff_iff];unfold dZ aN;rw[e1];rw[show((9:Int).toNat)=9 from rfl];unfold fL gW bN eU;simp only[Bool.and_eq_true,decide_eq_true_eq,Bool.not_eq_true',decide_eq_false_iff_not,kB,true_and,and_true,eq_self];omega
theorem A7(zs:List Int)(f e b wa p s q bl v:Int):dZ zs [] 10 f e b wa p s q bl v 10 f e 0 0 0 0 q 0 0=aN 10 f [0,e,b,wa,p,s,q,bl,v,(zs.length:Int)]:=by
 have e1:bN (wrap64 (10 - 1)) 9=true:=by unfold bN wrap64;rw[decide_eq_true (by omega)]
 rw[Bool.eq_iff_iff];unfold dZ aN;rw[e1];rw[show((10:Int).toNat)=10 from rfl];unfold fL gW bN eU;simp only[Bool.and_eq_true,decide_eq_true_eq,Bool.not_eq_true',decide_eq_false_iff_not,kT,←List.length_eq_zero_iff,true_and,and_true,eq_self];omega
theorem rJ(k f e b wa p s q bl v:Int)(a:Option Addr)(c:Nat)(zs:List Int)(w:World)(hl:zs.length<=9223372036854775807)(bk:-9223372036854775808<=k/\k<=9223372036854775807)(bv:-9223372036854775808<=v/\v<=9223372036854775807)(h1:bG w a zs):
  Calls pG 95 #[.agg #[I T k,I T f,I T e,I T b,I T wa,I T p,I T s,I T q,I T bl,I T v,J a zs.length c]] w fun r w'=>r=.returned (.bool (aN k f [0,e,b,wa,p,s,q,bl,v,(zs.length:Int)]))/\Below w.heap.size w w':=by
 by_cases hlow:k<1
 ·rw[←zG zs k f e b wa p s q bl v hlow bk];exact gS _ _ _ _ _ _ _ _ _ _ _ _ _ _ _ _ _ _ _ _ a none c 0 zs [] w hl h1 (.inl rfl) (fun w=>C7 k f e b wa p s q bl v a zs.length c w hlow)
 by_cases hhigh:10<k
 ·rw[←xE zs k f e b wa p s q bl v hhigh bk];exact gS _ _ _ _ _ _ _ _ _ _ _ _ _ _ _ _ _ _ _ _ a none c 0 zs [] w hl h1 (.inl rfl) (fun w=>A6 k f e b wa p s q bl v a zs.length c w hhigh)
 rcases(show k=1∨k=2∨k=3∨k=4∨k=5∨k=6∨k=7∨k=8∨k=9∨k=10 by omega) with rfl|rfl|rfl|rfl|rfl|rfl|rfl|rfl|rfl|rfl
 ·rw[←C8 zs f e b wa p s q bl v];exact gS _ _ _ _ _ _ _ _ _ _ _ _ _ _ _ _ _ _ _ _ a none c 0 zs [] w hl h1 (.inl rfl) (fun w=>GV f e b wa p s q bl v a zs.length c w)
 ·rw[←C9 zs f e b wa p s q bl v];exact gS _ _ _ _ _ _ _ _ _ _ _ _ _ _ _ _ _ _ _ _ a none c 0 zs [] w hl h1 (.inl rfl) (fun w=>GW f e b wa p s q bl v a zs.length c w)
 ·rw[←DA zs f e b wa p s q bl v];exact gS _ _ _ _ _ _ _ _ _ _ _ _ _ _ _ _ _ _ _ _ a none c 0 zs [] w hl h1 (.inl rfl) (fun w=>GX f e b wa p s q bl v a zs.length c w)
 ·rw[←DB zs f e b wa p s q bl v];exact gS _ _ _ _ _ _ _ _ _ _ _ _ _ _ _ _ _ _ _ _ a none c 0 zs [] w hl h1 (.inl rfl) (fun w=>GY f e b wa p s q bl v a zs.length c w)
 ·rw[←DC zs f e b wa p s q bl v];exact gS _ _ _ _ _ _ _ _ _ _ _ _ _ _ _ _ _ _ _ _ a none c 0 zs [] w hl h1 (.inl rfl) (fun w=>GZ f e b wa p s q bl v a zs.length c w)
 ·rw[←DE zs f e b wa p s q bl v];exact gS _ _ _ _ _ _ _ _ _ _ _ _ _ _ _ _ _ _ _ _ a none c 0 zs [] w hl h1 (.inl rfl) (fun w=>G0 f e b wa p s q bl v a zs.length c w)
 ·rw[←DF zs f e b wa p s q bl v bv];exact gS _ _ _ _ _ _ _ _ _ _ _ _ _ _ _ _ _ _ _ _ a none c 0 zs [] w hl h1 (.inl rfl) (fun w=>G2 f e b wa p s q bl v a zs.length c w)
 ·rw[←DG zs f e b wa p s q bl v];exact gS _ _ _ _ _ _ _ _ _ _ _ _ _ _ _ _ _ _ _ _ a none c 0 zs [] w hl h1 (.inl rfl) (fun w=>G3 f e b wa p s q bl v a zs.length c w)
 ·rw[←DH zs f e b wa p s q bl v];exact gS _ _ _ _ _ _ _ _ _ _ _ _ _ _ _ _ _ _ _ _ a a c c zs zs w hl h1 (.inr ⟨rfl,rfl⟩) (fun w=>G4 f e b wa p s q bl v a zs.length c w)
 ·rw[←A7 zs f e b wa p s q bl v];exact gS _ _ _ _ _ _ _ _ _ _ _ _ _ _ _ _ _ _ _ _ a none c 0 zs [] w hl h1 (.inl rfl) (fun w=>FA f e b wa p s q bl v a zs.length c w)
end
end Go.Proofs.YtdcainmlcpafbaaGreatDoor
