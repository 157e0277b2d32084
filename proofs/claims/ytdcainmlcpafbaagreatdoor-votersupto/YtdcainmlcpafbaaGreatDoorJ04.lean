import Derived.Test.YtdcainmlcpafbaaGreatDoorJ03
set_option linter.all false
set_option maxHeartbeats 8000000
namespace Go.Proofs.YtdcainmlcpafbaaGreatDoor
open Go.RowKit
open Value renaming int->I,slice->J,pointer->P0
open Tryz renaming prog->pG
open IntKind renaming i64->T
open Option renaming none->Z,some->Y
open Obj renaming cells->G
open Value (bool)
section
set_option maxRecDepth 20000
theorem BH(k f:Nat)(nums vals:List Int):2<=(cH k f nums vals).length:=by
 unfold cH bZ;simp
theorem BI{bs:List UInt8}(h:bs.length<2):eL bs=false:=by
 cases hd:eL bs
 ·rfl
 ·have:=(mN hd).2;have h2:=BH (dP bs).toNat (fA bs).toNat (gL bs) (dA bs).vals;unfold iT at this;rw[this]at h2;omega
theorem JA(a b:List UInt8):((aC a).toList==(aC b).toList)=(a==b):=by
 rw[←beq_toListBytes];show((⟨a⟩:Array UInt8)==⟨b⟩)=(a==b)
 simp
theorem vH(bs:List UInt8)(w:World)(hl2:bs.length<2):
  Calls pG 104 #[.string (aC bs)] w fun e w'=>Below w.heap.size w w'/\e=.returned (.tuple #[.agg #[I T 0,I T 0,I T 0,I T 0,I T 0,I T 0,I T 0,I T 0,I T 0,I T 0,J Z 0 0],I T 2]):=by
 have hsz:=fT bs;obtain⟨zc,zf⟩:=mY w;have hb0:Below w.heap.size w (w.alloc (G #[I T 0,I T 0,I T 0,I T 0,I T 0,I T 0,I T 0,I T 0,I T 0,I T 0,J Z 0 0] 136)):=(Below.refl _ _).alloc (Nat.le_refl _) _;go_enter Tryz.func104,Tryz.ntmps104;go_wp2;exact bodyPost_ret (v:=.tuple #[.agg #[I T 0,I T 0,I T 0,I T 0,I T 0,I T 0,I T 0,I T 0,I T 0,I T 0,J Z 0 0],I T 2]) (by simp[results,Tryz.results104,go_sem]) rfl ⟨hb0,rfl⟩
theorem vV(bs:List UInt8)(w:World)(hl2:2<=bs.length)(hlen:bs.length<=140737488355328):
  Calls pG 104 #[.string (aC bs)] w fun e w'=>Below w.heap.size w w'/\((iF bs=true/\gV bs=bs/\∃n1 n2 n3 n4 n5 n6 n7 n8 l,e=.returned (.tuple #[.agg #[I T ((rk bs:Nat):Int),I T ((rf bs:Nat):Int),I T n1,I T n2,I T n3,I T n4,I T n5,I T n6,I T n7,I T n8,l],I T 0])/\
   cI bs=[0,n1,n2,n3,n4,n5,n6,n7,n8,((bR bs).length:Int)]/\bH w' w.heap.size l (bR bs))∨
   ((iF bs=false∨gV bs≠bs)/\e=.returned (.tuple #[.agg #[I T 0,I T 0,I T 0,I T 0,I T 0,I T 0,I T 0,I T 0,I T 0,I T 0,J Z 0 0],I T 2]))):=by
 have hsz:(aC bs).size=bs.length:=fT bs;have hb0:Below w.heap.size w (w.alloc (G #[I T 0,I T 0,I T 0,I T 0,I T 0,I T 0,I T 0,I T 0,I T 0,I T 0,J Z 0 0] 136)):=(Below.refl _ _).alloc (Nat.le_refl _) _;obtain⟨zc,zf⟩:=mY w;have hs0:(w.alloc (G #[I T 0,I T 0,I T 0,I T 0,I T 0,I T 0,I T 0,I T 0,I T 0,I T 0,J Z 0 0] 136)).heap.size=w.heap.size+1:=by simp
 go_enter Tryz.func104,Tryz.ntmps104
 go_wp2_with fail
 generalize w.alloc (G #[I T 0,I T 0,I T 0,I T 0,I T 0,I T 0,I T 0,I T 0,I T 0,I T 0,J Z 0 0] 136)=W0 at*;refine(zI bs W0 hl2 hlen).mono ?_;rintro e w1 ⟨n1,n2,n3,n4,n5,n6,n7,n8,l,rfl,hnums,hown,hb1,hn8⟩;have HN:Hid _:=hnums
 have HI:Hid (iF bs=aN (rk bs:Int) (rf bs:Int) [0,n1,n2,n3,n4,n5,n6,n7,n8,((bR bs).length:Int)]):=by
  unfold Hid iF;rw[hnums]
 have HC:Hid (gV bs=cH (rk bs) (rf bs) [0,n1,n2,n3,n4,n5,n6,n7,n8,((bR bs).length:Int)] (bR bs)):=by
  unfold Hid gV;rw[hnums]
 clear hnums;obtain⟨la,lc,rfl⟩:=hown.shape;have hi1:=(hown.ints).2;have zc1:∀i,w1.cell? ⟨w.heap.size,i,Z⟩=#[I T 0,I T 0,I T 0,I T 0,I T 0,I T 0,I T 0,I T 0,I T 0,I T 0,J Z 0 0][i]?:=fun i=>(hb1.cell (by show w.heap.size<_;omega)).trans (zc i);have zf1:∀i,w1.frozen? ⟨w.heap.size,i,Z⟩=false:=fun i=>(hb1.frozen (by show w.heap.size<_;omega)).trans (zf i);have hs1:=hb1.size;have hbw1:Below w.heap.size w w1:=hb0.trans (hb1.mono (by omega));have hv4:=BF bs;have hk256:rk bs<256:=UInt8.toNat_lt _;clear zc zf hb0 hb1;generalize hVS:bR bs=VS at*;have HVS:Hid _:=hVS;clear hVS
 go_wp2_with fail
 have hb2:Below w1.heap.size w1 (w1.alloc (G #[I T ((rk bs:Nat):Int),I T ((rf bs:Nat):Int),I T n1,I T n2,I T n3,I T n4,I T n5,I T n6,I T n7,I T n8,J la VS.length lc] 136)):=(Below.refl _ _).alloc (Nat.le_refl _) _;have mc:∀i,(w1.alloc (G #[I T ((rk bs:Nat):Int),I T ((rf bs:Nat):Int),I T n1,I T n2,I T n3,I T n4,I T n5,I T n6,I T n7,I T n8,J la VS.length lc] 136)).cell? ⟨w1.heap.size,i,Z⟩=#[I T ((rk bs:Nat):Int),I T ((rf bs:Nat):Int),I T n1,I T n2,I T n3,I T n4,I T n5,I T n6,I T n7,I T n8,J la VS.length lc][i]?:=fun i=>World.cell?_alloc_at _ _ _ _ rfl;have hs2:(w1.alloc (G #[I T ((rk bs:Nat):Int),I T ((rf bs:Nat):Int),I T n1,I T n2,I T n3,I T n4,I T n5,I T n6,I T n7,I T n8,J la VS.length lc] 136)).heap.size=w1.heap.size+1:=by simp
 generalize w1.alloc (G #[I T ((rk bs:Nat):Int),I T ((rf bs:Nat):Int),I T n1,I T n2,I T n3,I T n4,I T n5,I T n6,I T n7,I T n8,J la VS.length lc] 136)=w2 at*;have hi2:bG w2 la VS:=hi1.later hb2
 cases hG:aN (rk bs:Int) (rf bs:Int) [0,n1,n2,n3,n4,n5,n6,n7,n8,(VS.length:Int)] with
 |false=>
  refine(qZ (rk bs:Int) (rf bs:Int) n1 n2 n3 n4 n5 n6 n7 n8 la lc VS w2 (by omega) (by omega) hn8 hi2 hG).mono ?_;rintro e w3 ⟨rfl,hb3⟩;have hb13:Below w1.heap.size w1 w3:=hb2.trans (hb3.mono (by omega));have zc3:∀i,w3.cell? ⟨w.heap.size,i,Z⟩=#[I T 0,I T 0,I T 0,I T 0,I T 0,I T 0,I T 0,I T 0,I T 0,I T 0,J Z 0 0][i]?:=fun i=>(hb13.cell (by show w.heap.size<_;omega)).trans (zc1 i);have zf3:∀i,w3.frozen? ⟨w.heap.size,i,Z⟩=false:=fun i=>(hb13.frozen (by show w.heap.size<_;omega)).trans (zf1 i);have hdk:Hid (iF bs=false):=by unfold Hid;rw[HI.out,hG]
  have hbf:Below w.heap.size w w3:=hbw1.trans (hb13.mono (by omega));clear zc1 zf1 hb2 hb3 mc hi1 hi2 hG HI HC HN hown hbw1 hb13;go_wp2;obtain⟨W,hW,⟨c0,c1,c2,c3,c4,c5,c6,c7,c8,c9,c10⟩,_,hbl⟩:=eZ w3 w.heap.size (I T 0) (I T 0) (I T 0) (I T 0) (I T 0) (I T 0) (I T 0) (I T 0) (I T 0) (I T 0) (J Z 0 0) (fun i hi=>by rw[zc3];simp;omega);rw[hW];clear hW zc3 zf3;exact bodyPost_ret (v:=.tuple #[.agg #[I T 0,I T 0,I T 0,I T 0,I T 0,I T 0,I T 0,I T 0,I T 0,I T 0,J Z 0 0],I T 2]) (by simp[results,Tryz.results104,go_sem,c0,c1,c2,c3,c4,c5,c6,c7,c8,c9,c10]) rfl ⟨hbl _ _ (Nat.le_refl _) hbf,.inr ⟨.inl hdk.out,rfl⟩⟩
 |true=>
  refine(mH (rk bs:Int) (rf bs:Int) n1 n2 n3 n4 n5 n6 n7 n8 la lc VS w2 (by omega) hn8 hi2 hG).mono ?_;rintro e w3 ⟨rfl,hb3⟩;rw[Int.toNat_natCast,Int.toNat_natCast,←HC.out];have hb13:Below w1.heap.size w1 w3:=hb2.trans (hb3.mono (by omega));have zc3:∀i,w3.cell? ⟨w.heap.size,i,Z⟩=#[I T 0,I T 0,I T 0,I T 0,I T 0,I T 0,I T 0,I T 0,I T 0,I T 0,J Z 0 0][i]?:=fun i=>(hb13.cell (by show w.heap.size<_;omega)).trans (zc1 i);have zf3:∀i,w3.frozen? ⟨w.heap.size,i,Z⟩=false:=fun i=>(hb13.frozen (by show w.heap.size<_;omega)).trans (zf1 i);have mc3:∀i,w3.cell? ⟨w1.heap.size,i,Z⟩=#[I T ((rk bs:Nat):Int),I T ((rf bs:Nat):Int),I T n1,I T n2,I T n3,I T n4,I T n5,I T n6,I T n7,I T n8,J la VS.length lc][i]?:=fun i=>(hb3.cell (by show w1.heap.size<_;omega)).trans (mc i);have hdk:Hid (iF bs=true):=by unfold Hid;rw[HI.out,hG]
  have hbf:Below w.heap.size w w3:=hbw1.trans (hb13.mono (by omega));have hown3:bH w3 W0.heap.size (J la VS.length lc) VS:=World.ownsRow.kept hown ⟨hb13.os,hb13.tape,hb13.output,hb13.size,fun k hk _=>hb13.block k hk⟩ (row:=none) (by cases la<;>simp[Value.ownBlock]);clear zc1 zf1 hb2 hb3 mc hi1 hi2 hG HI HC hown hbw1 hb13
  by_cases hq:gV bs=bs
  ·have HQ:Hid _:=hq;rw[hq];clear hq;go_wp2;obtain⟨W,hW,⟨c0,c1,c2,c3,c4,c5,c6,c7,c8,c9,c10⟩,hbut,hbl⟩:=eZ w3 w.heap.size (I T ((rk bs:Nat):Int)) (I T ((rf bs:Nat):Int)) (I T n1) (I T n2) (I T n3) (I T n4) (I T n5) (I T n6) (I T n7) (I T n8) (J la VS.length lc) (fun i hi=>by rw[zc3];simp;omega);have hownW:=(hown3.but hbut (by omega)).low (show w.heap.size<=W0.heap.size by omega);rw[hW];clear hW zc3 zf3 mc3 hown3 hbut;exact bodyPost_ret (v:=.tuple #[.agg #[I T ((rk bs:Nat):Int),I T ((rf bs:Nat):Int),I T n1,I T n2,I T n3,I T n4,I T n5,I T n6,I T n7,I T n8,J la VS.length lc],I T 0]) (by simp[results,Tryz.results104,go_sem,c0,c1,c2,c3,c4,c5,c6,c7,c8,c9,c10]) rfl ⟨hbl _ _ (Nat.le_refl _) hbf,.inl ⟨hdk.out,HQ.out,n1,n2,n3,n4,n5,n6,n7,n8,_,rfl,by rw[HVS.out];exact HN.out,by rw[HVS.out];exact hownW⟩⟩
  ·have HQ:Hid (gV bs≠bs):=hq;have b1:((aC (gV bs)).toList==(aC bs).toList)=false:=by rw[JA];simpa using hq
   clear hq;generalize aC (gV bs)=SE at*;go_wp2;obtain⟨W,hW,⟨c0,c1,c2,c3,c4,c5,c6,c7,c8,c9,c10⟩,_,hbl⟩:=eZ w3 w.heap.size (I T 0) (I T 0) (I T 0) (I T 0) (I T 0) (I T 0) (I T 0) (I T 0) (I T 0) (I T 0) (J Z 0 0) (fun i hi=>by rw[zc3];simp;omega);rw[hW];clear hW zc3 zf3 mc3;exact bodyPost_ret (v:=.tuple #[.agg #[I T 0,I T 0,I T 0,I T 0,I T 0,I T 0,I T 0,I T 0,I T 0,I T 0,J Z 0 0],I T 2]) (by simp[results,Tryz.results104,go_sem,c0,c1,c2,c3,c4,c5,c6,c7,c8,c9,c10]) rfl ⟨hbl _ _ (Nat.le_refl _) hbf,.inr ⟨.inr HQ.out,rfl⟩⟩
theorem xL(bs:List UInt8)(w:World)(hlen:bs.length<=140737488355328):
  Calls pG 104 #[.string (aC bs)] w fun e w'=>Below w.heap.size w w'/\((eL bs=true/\∃n1 n2 n3 n4 n5 n6 n7 n8 l,e=.returned (.tuple #[.agg #[I T (dP bs),I T (fA bs),I T n1,I T n2,I T n3,I T n4,I T n5,I T n6,I T n7,I T n8,l],I T 0])/\
   gL bs=[0,n1,n2,n3,n4,n5,n6,n7,n8,((dA bs).vals.length:Int)]/\bH w' w.heap.size l (dA bs).vals)∨
   (eL bs=false/\e=.returned (.tuple #[.agg #[I T 0,I T 0,I T 0,I T 0,I T 0,I T 0,I T 0,I T 0,I T 0,I T 0,J Z 0 0],I T 2]))):=by
 by_cases h:bs.length<2
 ·refine(vH bs w h).mono ?_;rintro e w' ⟨hb,rfl⟩;exact⟨hb,.inr ⟨BI h,rfl⟩⟩
 ·refine(vV bs w (by omega) hlen).mono ?_;rintro e w' ⟨hb,hh⟩;refine⟨hb,?_⟩;rcases IB bs with⟨h1,h2,h3,h4,h5,h6,h7⟩|⟨h1,h2⟩
  ·rcases hh with⟨_,_,n1,n2,n3,n4,n5,n6,n7,n8,l,rfl,hn,ho⟩|⟨hx,_⟩
   ·refine .inl ⟨h1,n1,n2,n3,n4,n5,n6,n7,n8,l,by rw[h4,h5],by rw[←h6,hn,h7],by rw[←h7];exact ho⟩
   ·rcases hx with hx|hx
    ·rw[h2]at hx;exact absurd hx (by decide)
    ·exact absurd h3 hx
  ·rcases hh with⟨k1,k2,_⟩|⟨_,rfl⟩
   ·rcases h2 with h2|h2
    ·rw[k1]at h2;exact absurd h2 (by decide)
    ·exact absurd k2 h2
   ·exact .inr ⟨h1,rfl⟩
end
structure aU where
 k:Int
 f:Int
 e:Int
 b:Int
 wa:Int
 p:Int
 s:Int
 q:Int
 bl:Int
 v:Int
 a:Option Addr
 c:Nat
 zs:List Int
def aU.cells(m:aU):List Value:=[I T m.k,I T m.f,I T m.e,I T m.b,I T m.wa,I T m.p,I T m.s,I T m.q,I T m.bl,I T m.v,J m.a m.zs.length m.c]
def aU.ok(m:aU):Prop:=(-9223372036854775808<=m.k/\m.k<=9223372036854775807)/\(-9223372036854775808<=m.v/\m.v<=9223372036854775807)/\m.zs.length<=2000000
structure i8(base R:Nat)(w:World)(ao:Option Addr)(ms:List aU):Prop where
 arr:ms=[]∨∃g off,ao=Y ⟨g,off,Z⟩/\g<base/\g≠R/\∀j (h:j<ms.length) i,i<11->w.cell? ⟨g,off+j*11+i,Z⟩=Y (ms[j].cells.getD i undef)
 vals:∀m∈ms,m.zs=[]∨∃g off,m.a=Y ⟨g,off,Z⟩/\g<base/\g≠R/\∀j (h:j<m.zs.length),w.cell? ⟨g,off+j,Z⟩=Y (I T m.zs[j])
theorem i8.saved{base R:Nat}{w w':World}{ao:Option Addr}{ms:List aU}(h:i8 base R w ao ms)(hs:bM base R w w'):i8 base R w' ao ms:=by
 refine⟨?_,fun m hm=>?_⟩
 ·rcases h.arr with h0|⟨g,off,h1,h2,h3,h4⟩
  ·exact .inl h0
  ·exact .inr ⟨g,off,h1,h2,h3,fun j hj i hi=>(hs.cell (by exact h2) (by exact h3)).trans (h4 j hj i hi)⟩
 ·rcases h.vals m hm with h0|⟨g,off,h1,h2,h3,h4⟩
  ·exact .inl h0
  ·exact .inr ⟨g,off,h1,h2,h3,fun j hj=>(hs.cell (by exact h2) (by exact h3)).trans (h4 j hj)⟩
theorem i8.ints{base R:Nat}{w:World}{ao:Option Addr}{ms:List aU}(h:i8 base R w ao ms)(hb:base<=w.heap.size){m:aU}(hm:m∈ms):bG w m.a m.zs:=by
 rcases h.vals m hm with h0|⟨g,off,h1,h2,h3,h4⟩
 ·exact .inl h0
 ·exact .inr ⟨g,off,h1,by omega,h4⟩
theorem aJ.saved{base R:Nat}{w w':World}(h:aJ w)(hs:bM base R w w')(h2:2<=R)(hR:R<base):aJ w':=h.below (hs.below (B:=2) (by omega) h2) (Nat.le_refl _)
section
set_option maxRecDepth 20000
def fE.okP(o:fE):Prop:=o.ok/\o.S.size<=2000000
theorem oD(k f:Nat)(nums vals:List Int)(hk:k<11)(h:vals.length<=4):(cH k f nums vals).length<=300:=by
 unfold cH;rw[List.length_append,cQ,←qU k f nums vals hk];have:=qT k f nums vals 5 hk h;omega
theorem zJ:∀o∈gZ,o.okP:=by
 have e1:(aC lJ).size=22:=by kernel_rfl
 have e2:(aC lK).size=22:=by kernel_rfl
 have e3:(⟨#[]⟩:ByteArray).size=0:=rfl
 have key:∀o∈gZ,o.S.size<=2000000:=by
  intro o ho;simp only[gZ,List.mem_cons,List.not_mem_nil,or_false]at ho;rcases ho with rfl|rfl|rfl|rfl|rfl|rfl|rfl|rfl|rfl|rfl|rfl|rfl|rfl|rfl
  all_goals(simp only[e1,e2,e3])
  all_goals omega
 exact fun o ho=>⟨A9 o ho,key o ho⟩
structure tP(lo hi:Int)(lim:Nat)(Inv:Nat->Nat->Nat->World->Prop):Prop where
 step:∀base R n w (o:fE),Inv base R n w->lo<=o.K->o.K<=hi->o.okP->n<lim->Calls pG 30 #[P0 (Y ⟨R,0,Z⟩),.agg #[I T o.K,I T o.A,I T o.B,I T o.C,.string o.S]] w fun e w'=>e=.returned (.bool true)/\Inv base R (n+1) w'/\bM base R w w'
 whole:∀base R n w,Inv base R n w->Calls pG 31 #[P0 (Y ⟨R,4,Z⟩)] w fun e w'=>e=.returned (.bool true)/\Inv base R n w'/\bM base R w w'
theorem zK(lo hi:Int)(lim:Nat)(Inv:Nat->Nat->Nat->World->Prop)(hG:tP lo hi lim Inv)(gm gr:Value)(ao:Option Addr)(c:Nat)(os:List fE)(w:World)(h14:14<=lim)(hlim:os.length<=lim)(hl:os.length<=9223372036854775807)(hok:∀o∈os,o.okP)(hos:jL w ao os)(hF1:∀W,Below w.heap.size w W->∀R X Y1,w.heap.size<=X->w.heap.size<=Y1->w.heap.size<=R->X<W.heap.size->Y1<W.heap.size->X≠R->Y1≠R->iD W R (J (Y ⟨X,0,Z⟩) 3 3) (J (Y ⟨Y1,0,Z⟩) 2 2)->(∀i,W.cell? ⟨X,i,Z⟩=oC[i]?)->(∀i,W.cell? ⟨Y1,i,Z⟩=rK[i]?)->Inv W.heap.size R 0 W)(hF2:∀W,Below w.heap.size w W->∀R,w.heap.size<=R->iD W R gm gr->Inv W.heap.size R 0 W):
  Calls pG 11 #[.agg #[gm,gr],J ao os.length c,I T lo,I T hi] w fun r w'=>r=.returned (.bool true)/\Below w.heap.size w w':=by
 have hb0:=(Below.refl w.heap.size w).alloc (Nat.le_refl _) (G #[gm,gr] 25);have hc0:∀i,(w.alloc (G #[gm,gr] 25)).cell? ⟨w.heap.size,i,Z⟩=#[gm,gr][i]?:=fun i=>World.cell?_alloc_at _ _ _ _ rfl;have hs0:(w.alloc (G #[gm,gr] 25)).heap.size=w.heap.size+1:=by simp
 go_enter Tryz.func11,Tryz.ntmps11
 go_wp2_with fail
 generalize (w.alloc (G #[gm,gr] 25))=W0 at*;refine(A8 _).mono ?_;rintro r w1 ⟨rfl,hb1,hz1,hk1,hk2⟩;rw[hs0]at hb1 hz1 hk1 hk2⊢;have hd1:=hb0.trans (hb1.mono (by omega));have hc1:∀i,w1.cell? ⟨w.heap.size,i,Z⟩=#[gm,gr][i]?:=fun i=>(hb1.cell (by show w.heap.size<_;omega)).trans (hc0 i);have HK1:Hid _:=hk1;have HK2:Hid _:=hk2;clear hb0 hb1 hc0 hk1 hk2;have hF:=iD.new w1 (J (Y ⟨w.heap.size+1+1,0,Z⟩) 3 3) (J (Y ⟨w.heap.size+1+1+1,0,Z⟩) 2 2)
 go_wp2_with fail
 have hd2:=hd1.alloc (by omega) (G #[J (Y ⟨w.heap.size+1+1,0,Z⟩) 3 3,J (Y ⟨w.heap.size+1+1+1,0,Z⟩) 2 2,J Z 0 0,J Z 0 0,J Z 0 0,J Z 0 0,J Z 0 0,J Z 0 0,J Z 0 0] 90);have hz2:(w1.alloc (G #[J (Y ⟨w.heap.size+1+1,0,Z⟩) 3 3,J (Y ⟨w.heap.size+1+1+1,0,Z⟩) 2 2,J Z 0 0,J Z 0 0,J Z 0 0,J Z 0 0,J Z 0 0,J Z 0 0,J Z 0 0] 90)).heap.size=w1.heap.size+1:=by simp
 have hc2:∀i,(w1.alloc (G #[J (Y ⟨w.heap.size+1+1,0,Z⟩) 3 3,J (Y ⟨w.heap.size+1+1+1,0,Z⟩) 2 2,J Z 0 0,J Z 0 0,J Z 0 0,J Z 0 0,J Z 0 0,J Z 0 0,J Z 0 0] 90)).cell? ⟨w.heap.size,i,Z⟩=#[gm,gr][i]?:=fun i=>by rw[World.cell?_alloc_past _ _ _ (by show w.heap.size<_;omega),hc1]
 have hx2:∀b i,b<w1.heap.size->(w1.alloc (G #[J (Y ⟨w.heap.size+1+1,0,Z⟩) 3 3,J (Y ⟨w.heap.size+1+1+1,0,Z⟩) 2 2,J Z 0 0,J Z 0 0,J Z 0 0,J Z 0 0,J Z 0 0,J Z 0 0,J Z 0 0] 90)).cell? ⟨b,i,Z⟩=w1.cell? ⟨b,i,Z⟩:=fun b i hb=>World.cell?_alloc_past _ _ _ hb;generalize (w1.alloc (G #[J (Y ⟨w.heap.size+1+1,0,Z⟩) 3 3,J (Y ⟨w.heap.size+1+1+1,0,Z⟩) 2 2,J Z 0 0,J Z 0 0,J Z 0 0,J Z 0 0,J Z 0 0,J Z 0 0,J Z 0 0] 90))=W2 at*;refine(xG _).mono ?_;rintro r w3 ⟨g,rfl,hg1,hg2,hb3,hop⟩;have hd3:=hd2.trans (hb3.mono (by omega));have hz3:=hb3.size;have hF3:=hF.later hb3;have hc3:∀i,w3.cell? ⟨w.heap.size,i,Z⟩=#[gm,gr][i]?:=fun i=>(hb3.cell (by show w.heap.size<_;omega)).trans (hc2 i);have HI:=hF1 w3 hd3 w1.heap.size (w.heap.size+1+1) (w.heap.size+1+1+1) (by omega) (by omega) (by omega) (by omega) (by omega) (by omega) (by omega) hF3 (fun i=>(hb3.cell (by show w.heap.size+1+1<_;omega)).trans ((hx2 _ i (by omega)).trans (HK1.out i))) (fun i=>(hb3.cell (by show w.heap.size+1+1+1<_;omega)).trans ((hx2 _ i (by omega)).trans (HK2.out i)));clear hF hF1 hF3 hx2 hb3 HK1 HK2 hc2 hc1 hd1 hd2;have HOP:=aA hop;have HF2:Hid _:=hF2;have HOS:=aA hos;have HOK:Hid _:=hok;clear hop hF2 hos hok;have hR1:w.heap.size<w.heap.size+1+3:=by omega
 have hR2:w.heap.size+1+3<g:=by omega
 have hR3:w.heap.size<w3.heap.size:=by omega
 rw[hz1]at HI;clear hz2 hg1 hz3 hs0 hz1;generalize w.heap.size+1+3=R1 at*
 go_wp2_with fail
 go_loopw [11,12] (fun ix _ wr=>∃t n:Nat,t<=14/\n<=t/\ix=I T t/\Inv w3.heap.size R1 n wr/\bM w3.heap.size R1 w3 wr) (fun ix _ _=>14 - (intOf ix).toNat)
 case atStart=>exact⟨0,0,by omega,by omega,rfl,HI,bM.refl _ _ _⟩
 case round=>
  obtain⟨t,n,ht,hn,rfl,hI,hS⟩:=hrel
  by_cases htl:t<14
  ·obtain⟨g',o',he,hg',hcc⟩:=(HOP.out.saved hS hg2 (by omega)).resolve_left (by simp[gZ]);cases he;have ho:t<gZ.length:=htl;have j0:=hcc t ho 0 (by omega);have j1:=hcc t ho 1 (by omega);have j2:=hcc t ho 2 (by omega);have j3:=hcc t ho 3 (by omega);have j4:=hcc t ho 4 (by omega);have hok:=zJ gZ[t] (List.getElem_mem ho);simp[fE.cells]at j0 j1 j2 j3 j4;clear hcc hc3;generalize gZ[t]=o at*
   by_cases hlo:lo<=o.K
   ·by_cases hhi:o.K<=hi
    ·go_wp2_with fail
     refine(hG.step _ _ n wr o hI hlo hhi hok (by omega)).mono ?_;rintro r w' ⟨rfl,hI',hS'⟩;have hS2:=hS.trans hS';clear j0 j1 j2 j3 j4;go_wp2
     go_roundw
     case rel=>exact⟨t+1,n+1,by omega,by omega,by go_num,hI',hS2⟩
     case measure=>simp[intOf];omega
    ·go_wp2
     go_roundw
     case rel=>exact⟨t+1,n,by omega,by omega,by go_num,hI,hS⟩
     case measure=>simp[intOf];omega
   ·go_wp2
    go_roundw
    case rel=>exact⟨t+1,n,by omega,by omega,by go_num,hI,hS⟩
    case measure=>simp[intOf];omega
  ·have hcr:∀i,wr.cell? ⟨w.heap.size,i,Z⟩=#[gm,gr][i]?:=fun i=>(hS.cell (by exact hR3) (by show w.heap.size≠R1;omega)).trans (hc3 i);have hBr:=hd3.trans (hS.below (B:=w.heap.size) (by omega) (by omega));have hFn:=iD.new wr gm gr;have hBn:=hBr.alloc hBr.size (G #[gm,gr,J Z 0 0,J Z 0 0,J Z 0 0,J Z 0 0,J Z 0 0,J Z 0 0,J Z 0 0] 90);have hI2:=HF2.out _ hBn wr.heap.size hBr.size hFn;have hR4:=hBr.size;have hR5:=hFn.lt;clear hc3 hI hS hFn
   go_wp2_with fail
   generalize (wr.alloc (G #[gm,gr,J Z 0 0,J Z 0 0,J Z 0 0,J Z 0 0,J Z 0 0,J Z 0 0,J Z 0 0] 90))=W4 at*;clear hcr hBr;generalize wr.heap.size=R2 at*
   go_loopw [14,15,16] (fun ix _ _ wq=>∃t n:Nat,t<=os.length/\n<=t/\ix=I T t/\Inv W4.heap.size R2 n wq/\bM W4.heap.size R2 W4 wq) (fun ix _ _ _=>os.length - (intOf ix).toNat)
   case atStart=>exact⟨0,0,by omega,by omega,rfl,hI2,bM.refl _ _ _⟩
   case round=>
    obtain⟨t,n,ht,hn,rfl,hI,hS⟩:=hrel;have hBq:=hBn.trans (hS.below (B:=w.heap.size) (by omega) (by omega))
    by_cases htl:t<os.length
    ·obtain⟨g',o',rfl,hg',hcc⟩:=HOS.out.resolve_left (by intro h;subst h;simp at htl);have htl2:(t:Int)<(os.length:Int):=by omega
     have hcx:∀i,i<5->wr.cell? ⟨g',o'+t*5+i,Z⟩=Y (os[t].cells.getD i undef):=fun i hi=>(hBq.cell (by exact hg')).trans (hcc t htl i hi);have j0:=hcx 0 (by omega);have j1:=hcx 1 (by omega);have j2:=hcx 2 (by omega);have j3:=hcx 3 (by omega);have j4:=hcx 4 (by omega);have hok:=HOK.out os[t] (List.getElem_mem htl);simp[fE.cells]at j0 j1 j2 j3 j4;clear hcc hcx;generalize os[t]=o at*
     by_cases hlo:lo<=o.K
     ·by_cases hhi:o.K<=hi
      ·go_wp2_with fail
       refine(hG.step _ _ n wr o hI hlo hhi hok (by omega)).mono ?_;rintro r w' ⟨rfl,hI',hS'⟩;have hS2:=hS.trans hS';clear j0 j1 j2 j3 j4
       go_wp2_with fail
       refine(hG.whole _ _ (n+1) w' hI').mono ?_;rintro r w'' ⟨rfl,hI'',hS''⟩;have hS3:=hS2.trans hS'';go_wp2
       go_roundw
       case rel=>exact⟨t+1,n+1,by omega,by omega,by go_num,hI'',hS3⟩
       case measure=>simp[intOf];omega
      ·go_wp2
       go_roundw
       case rel=>exact⟨t+1,n,by omega,by omega,by go_num,hI,hS⟩
       case measure=>simp[intOf];omega
     ·go_wp2
      go_roundw
      case rel=>exact⟨t+1,n,by omega,by omega,by go_num,hI,hS⟩
      case measure=>simp[intOf];omega
    ·go_wp2;go_ret
     exact⟨rfl,hBq⟩
end
theorem vX(k f e b wa p s q bl v:Int)(a:Option Addr)(c:Nat)(zs:List Int)(w:World)(hl:zs.length<=2000000)(bk:-9223372036854775808<=k/\k<=9223372036854775807)(bv:-9223372036854775808<=v/\v<=9223372036854775807)(h1:bG w a zs)(bx:List UInt8)(ec:Int)(hm:(aN k f [0,e,b,wa,p,s,q,bl,v,(zs.length:Int)]=true/\bx=cH k.toNat f.toNat [0,e,b,wa,p,s,q,bl,v,(zs.length:Int)] zs/\ec=0)∨(aN k f [0,e,b,wa,p,s,q,bl,v,(zs.length:Int)]=false/\bx=[]/\ec=1)):
  Calls pG 63 #[.agg #[I T k,I T f,I T e,I T b,I T wa,I T p,I T s,I T q,I T bl,I T v,J a zs.length c]] w fun r w'=>r=.returned (.tuple #[.string (aC bx),I T ec])/\Below w.heap.size w w':=by
 rcases hm with⟨h,rfl,rfl⟩|⟨h,rfl,rfl⟩
 ·exact mH k f e b wa p s q bl v a c zs w bk bv h1 h
 ·exact qZ k f e b wa p s q bl v a c zs w (by omega) bk bv h1 h

def bD(bs:List UInt8)(k f n1 n2 n3 n4 n5 n6 n7 n8:Int)(zs:List Int)(ec:Int):Prop:=
 (eL bs=true/\k=dP bs/\f=fA bs/\gL bs=[0,n1,n2,n3,n4,n5,n6,n7,n8,(zs.length:Int)]/\zs=(dA bs).vals/\ec=0)∨
 (eL bs=false/\k=0/\f=0/\n1=0/\n2=0/\n3=0/\n4=0/\n5=0/\n6=0/\n7=0/\n8=0/\zs=[]/\ec=2)
theorem bD.len{bs:List UInt8}{k f n1 n2 n3 n4 n5 n6 n7 n8:Int}{zs:List Int}{ec:Int}(h:bD bs k f n1 n2 n3 n4 n5 n6 n7 n8 zs ec):zs.length<=4:=by
 rcases h with⟨h1,h2,h3,h4,h5,_⟩|⟨_,_,_,_,_,_,_,_,_,_,_,rfl,_⟩
 ·have hg:=(mN h1).1;unfold iX at hg;rw[h4]at hg;exact(lQ hg).2.2.2.2
 ·simp
theorem xM(S:ByteArray)(w:World)(hlen:S.size<=140737488355328)(k f n1 n2 n3 n4 n5 n6 n7 n8:Int)(zs:List Int)(ec:Int)(hD:bD S.data.toList k f n1 n2 n3 n4 n5 n6 n7 n8 zs ec):
  Calls pG 104 #[.string S] w fun e w'=>∃ra rc,e=.returned (.tuple #[.agg #[I T k,I T f,I T n1,I T n2,I T n3,I T n4,I T n5,I T n6,I T n7,I T n8,J ra zs.length rc],I T ec])/\bH w' w.heap.size (J ra zs.length rc) zs/\Below w.heap.size w w':=by
 have h:=xL S.data.toList w (by rw[Array.length_toList];exact hlen);rw[qW]at h;refine h.mono ?_;rintro e w' ⟨hb,hh⟩;rcases hD with⟨h1,rfl,rfl,h4,rfl,rfl⟩|⟨h1,rfl,rfl,rfl,rfl,rfl,rfl,rfl,rfl,rfl,rfl,rfl,rfl⟩
 ·rcases hh with⟨_,m1,m2,m3,m4,m5,m6,m7,m8,l,rfl,hn,ho⟩|⟨hx,_⟩
  ·rw[h4]at hn;simp only[List.cons.injEq,true_and,and_true]at hn;obtain⟨rfl,rfl,rfl,rfl,rfl,rfl,rfl,rfl⟩:=hn;obtain⟨la,lc,rfl⟩:=aO ho;exact⟨la,lc,rfl,ho,hb⟩
  ·rw[h1]at hx;exact absurd hx (by decide)
 ·rcases hh with⟨hx,_⟩|⟨_,rfl⟩
  ·rw[h1]at hx;exact absurd hx (by decide)
  ·exact⟨none,0,rfl,World.ownsRow_nil _ _ _ _,hb⟩
structure kG(w:World)(ao:Option Addr)(ms:List aU):Prop where
 arr:ms=[]∨∃g off,ao=Y ⟨g,off,Z⟩/\g<w.heap.size/\∀j (h:j<ms.length) i,i<11->w.cell? ⟨g,off+j*11+i,Z⟩=Y (ms[j].cells.getD i undef)
 vals:∀m∈ms,bG w m.a m.zs
theorem kG.later{w W:World}{ao:Option Addr}{ms:List aU}(h:kG w ao ms)(hb:Below w.heap.size w W):kG W ao ms:=by
 refine⟨?_,fun m hm=>(h.vals m hm).later hb⟩;rcases h.arr with h0|⟨g,off,h1,h2,h3⟩
 ·exact .inl h0
 ·exact .inr ⟨g,off,h1,Nat.lt_of_lt_of_le h2 hb.size,fun j hj i hi=>(hb.cell (by exact h2)).trans (h3 j hj i hi)⟩
theorem kG.goods{w W:World}{R:Nat}{ao:Option Addr}{ms:List aU}(h:kG w ao ms)(hb:Below w.heap.size w W)(hR:w.heap.size<=R):i8 W.heap.size R W ao ms:=by
 have hs:=hb.size;refine⟨?_,fun m hm=>?_⟩
 ·rcases h.arr with h0|⟨g,off,h1,h2,h3⟩
  ·exact .inl h0
  ·exact .inr ⟨g,off,h1,by omega,by omega,fun j hj i hi=>(hb.cell (by exact h2)).trans (h3 j hj i hi)⟩
 ·rcases h.vals m hm with h0|⟨g,off,h1,h2,h3⟩
  ·exact .inl h0
  ·exact .inr ⟨g,off,h1,by omega,by omega,fun j hj=>(hb.cell (by exact h2)).trans (h3 j hj)⟩
def lO:List aU:=[⟨4,1,2,7,0,0,0,0,0,0,none,0,[]⟩,⟨2,0,0,6,0,0,0,0,0,0,none,0,[]⟩,⟨4,0,0,6,0,0,0,0,0,0,none,0,[]⟩]
theorem ID{W:World}{X R:Nat}(hX:X<W.heap.size)(hne:X≠R)(h:∀i,W.cell? ⟨X,i,Z⟩=oC[i]?):i8 W.heap.size R W (Y ⟨X,0,Z⟩) lO:=by
 refine⟨.inr ⟨X,0,rfl,hX,hne,?_⟩,?_⟩
 ·intro j hj i hi;rw[h];simp only[lO,List.length_cons,List.length_nil]at hj;rcases(show j=0∨j=1∨j=2 by omega) with rfl|rfl|rfl
  all_goals(rcases(show i=0∨i=1∨i=2∨i=3∨i=4∨i=5∨i=6∨i=7∨i=8∨i=9∨i=10 by omega) with rfl|rfl|rfl|rfl|rfl|rfl|rfl|rfl|rfl|rfl|rfl)
  all_goals rfl
 ·intro m hm;left;simp only[lO,List.mem_cons,List.not_mem_nil,or_false]at hm;rcases hm with rfl|rfl|rfl<;>rfl
theorem IE:∀m∈lO,m.ok:=by
 intro m hm;simp only[lO,List.mem_cons,List.not_mem_nil,or_false]at hm;rcases hm with rfl|rfl|rfl<;>(refine⟨?_,?_,?_⟩<;>simp)
end Go.Proofs.YtdcainmlcpafbaaGreatDoor
