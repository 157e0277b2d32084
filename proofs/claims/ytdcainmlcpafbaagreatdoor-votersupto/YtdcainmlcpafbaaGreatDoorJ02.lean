import Derived.Test.YtdcainmlcpafbaaGreatDoorJ01
set_option linter.all false
set_option maxHeartbeats 40000000
namespace Go.Proofs.YtdcainmlcpafbaaGreatDoor
open Go.RowKit
open Value renaming int->I,slice->J,pointer->P0
open Tryz renaming prog->pG
open IntKind renaming i64->T
open Option renaming none->Z,some->Y
open Obj renaming cells->G
section
set_option maxRecDepth 20000
theorem qs{α:Type}:(∀(a:Act) (d:Option Tmp) (v:Value),a.put d v=match d with|some d=>{a with tmps:=a.tmps.setIfInBounds d v}|none=>a)∧(∀(l:List α) (i:Nat) (a:α),l.toArray.setIfInBounds i a=(l.set i a).toArray)∧(∀(x:α) (l:List α) (a:α),(x::l).set 0 a=a::l)∧∀(x:α) (l:List α) (n:Nat) (a:α),(x::l).set (n+1) a=x::l.set n a:=⟨by intro a d v;cases d<;>rfl,by simp,by simp,by simp⟩
section
variable {P:Program} {ops:Array Oper} {Q:Exit→Act→World→Prop} {md:Region.Mode} {S:World→Prop} {fuel:Nat} {listed:Array Bool} {a:Act} {w:World}
theorem tk(i:Nat){oi:Oper}{v:Value}{a':Act}(h:wpAnyH P md ops Q S fuel (listed.setIfInBounds i true) a' w)(hi:ops[i]?=some oi:=by exact rfl)(hs:Region.noSelect ops=true:=by kernel_rfl)(hf:Region.free md ops listed i=true:=by kernel_rfl)(hr:(Region.ready md ops listed).contains i=true:=by kernel_rfl)(hy:YieldsIf P ops S oi v a:=by refine Or.inl ⟨by rfl,?_⟩;intro w hSw;(try dsimp only at hSw);go_simp;(try with_reducible rfl))(hQ:∀c a w,Q (.panic c) (a.put oi.dst v) w→Q (.panic c) a w:=by exact fun _ _ _ h=>h)(hS:S w:=by assumption)(ha:a.put oi.dst v=a':=by (try simp only[qs]);exact rfl):wpAnyH P md ops Q S (fuel+1) listed a w:=wpAnyH_take hi hs hf hr hQ hy hS (ha ▸ h)
theorem dn(h:Q .normal a w)(hr:Region.ready md ops listed=[]:=by kernel_rfl):wpAnyH P md ops Q S fuel listed a w:=wpAnyH_done hr h _
theorem iE(rs:List Nat)(h:AllReadyH P md ops Q S fuel listed a w rs)(hr:Region.ready md ops listed=rs:=by kernel_rfl)(hn:rs≠[]:=by simp):wpAnyH P md ops Q S (fuel+1) listed a w:=wpAnyH_ready hr hn h
theorem aG(i:Nat){o:Oper}(h:∀K':Act→World→Prop,Shut (∀a w,S w→(S w→wpAnyH P md ops Q S fuel (listed.setIfInBounds i true) a w)→K' a w)→if Region.wanted o (yielded ops a.tmps)=true then Oper.wp P o a w K' Q else K' (a.put o.dst undef) w)(ho:ops[i]?=some o:=by exact rfl)(hr:Region.ready md ops listed=[i]:=by kernel_rfl):wpAnyH P md ops Q S (fuel+1) listed a w:=wpAnyH_ready hr (by simp) (.cons ho h .nil)
theorem k1{R K:Act→World→Prop}{a':Act}(hK:Shut (∀a w,S w→(S w→R a w)→K a w))(h:S w→R a' w)(hS:S w:=by(try dsimp only);first|(and_intros<;>with_reducible assumption)|(and_intros<;>assumption)|go_keep)(ha:a=a':=by (try simp only[qs]);exact rfl):K a w:=hK.out a w hS (ha ▸ h)
theorem k2{R K:Act→World→Prop}{a':Act}(hK:Shut (∀a w,S w→(S w→R a w)→K a w))(h:S w→R a' w)(hS:S w:=by(try dsimp only);first|(and_intros<;>with_reducible assumption)|(and_intros<;>(refine(World.cell?_setCell_other _ _ _ _ (by intro hh;have h9:=congrArg Addr.block hh;(try simp at h9);omega)).trans ?_;repeat (first|with_reducible assumption|refine(World.cell?_setCell_other _ _ _ _ (by intro hh;have h9:=congrArg Addr.block hh;(try simp at h9);omega)).trans ?_)))|(and_intros<;>assumption)|go_keep)(ha:a=a':=by (try simp only[qs]);exact rfl):K a w:=hK.out a w hS (ha ▸ h)
theorem eN{id:Nat}(h:S w.drew→wpAnyH P .any ops Q S ops.size (Array.replicate ops.size false) a w.drew)(hm:P.follows .mixedOrders=true:=by kernel_rfl)(hS:S w.drew:=by(try dsimp only);first|(and_intros<;>with_reducible assumption)|(and_intros<;>assumption)|go_keep):(Code.region id ops true).wp P Q a w:=wp_region_held_drew hm hS h
theorem kL{id:Nat}(h:S w.drew→wpAnyH P .any ops Q S ops.size (Array.replicate ops.size false) a w.drew)(hm:P.follows .mixedOrders=true:=by kernel_rfl)(hS:S w.drew:=by(try dsimp only);first|(and_intros<;>with_reducible assumption)|(and_intros<;>(refine(World.cell?_setCell_other _ _ _ _ (by intro hh;have h9:=congrArg Addr.block hh;(try simp at h9);omega)).trans ?_;repeat (first|with_reducible assumption|refine(World.cell?_setCell_other _ _ _ _ (by intro hh;have h9:=congrArg Addr.block hh;(try simp at h9);omega)).trans ?_)))|(and_intros<;>assumption)|go_keep):(Code.region id ops true).wp P Q a w:=wp_region_held_drew hm hS h
end
open Value (bool)
theorem iO(n:Int):(aC (be n 8)).extract 4 8=aC (be n 4):=rfl
theorem qY(k:Int)(h0:0<=k)(h1:k<256):((UInt8.ofNat k.toNat).toNat:Int)=k:=by
 rw[UInt8.toNat_ofNat'];omega
theorem sI(k f e b wa p s q bl v:Int)(a:Option Addr)(c:Nat)(zs:List Int)(w:World)(hk1:1<=k)(hk2:k<=10)(hf0:0<=f)(hf:f<5)(hz4:zs.length<=4)(hz9:k≠9->zs=[])(hin:bG w a zs):
  Calls pG 96 #[.agg #[I T k,I T f,I T e,I T b,I T wa,I T p,I T s,I T q,I T bl,I T v,J a zs.length c]] w fun r w'=>r=.returned (.string (aC (cH k.toNat f.toNat [0,e,b,wa,p,s,q,bl,v,(zs.length:Int)] zs)))/\Below w.heap.size w w':=by
 have hb0:=(Below.refl w.heap.size w).alloc (Nat.le_refl _) (G #[I T k,I T f,I T e,I T b,I T wa,I T p,I T s,I T q,I T bl,I T v,J a zs.length c] 136);have hc0:∀i,(w.alloc (G #[I T k,I T f,I T e,I T b,I T wa,I T p,I T s,I T q,I T bl,I T v,J a zs.length c] 136)).cell? ⟨w.heap.size,i,Z⟩=#[I T k,I T f,I T e,I T b,I T wa,I T p,I T s,I T q,I T bl,I T v,J a zs.length c][i]?:=fun i=>World.cell?_alloc_at _ _ _ _ rfl;have hs0:(w.alloc (G #[I T k,I T f,I T e,I T b,I T wa,I T p,I T s,I T q,I T bl,I T v,J a zs.length c] 136)).heap.size=w.heap.size+1:=by simp
 have hcv:∀(W:World) (X:Nat),W.cell? ⟨X,0,Z⟩=Y (.int .u8 k)->W.cell? ⟨X,1,Z⟩=Y (.int .u8 f)->(convert 148 9 (J (Y ⟨X,0,Z⟩) 2 2)).run pG W=.ok (.string (aC [UInt8.ofNat k.toNat,UInt8.ofNat f.toNat])) W:=fun W X hx hy=>
  I4 W X _ _ (by rw[hx,qY k (by omega) (by omega)]) (by rw[hy,qY f (by omega) (by omega)])
 have hsz:(aC [UInt8.ofNat k.toNat,UInt8.ofNat f.toNat]).size+(aC (be e 8)).size<=16:=by rw[fT,fT,cQ];simp
 have hm1:IntKind.u8.wrap k=k:=by rw[IntKind.wrap_u8];omega
 have hm2:IntKind.u8.wrap f=f:=by rw[IntKind.wrap_u8];omega
 have hm3:k%256=k:=by omega
 have hm4:f%256=f:=by omega
 go_enter Tryz.func96,Tryz.ntmps96;go_wp2;generalize (w.alloc (G #[I T k,I T f,I T e,I T b,I T wa,I T p,I T s,I T q,I T bl,I T v,J a zs.length c] 136))=W0 at*
 go_cut [3] from 8 to 19 (fun x wc=>x=.string (aC ([UInt8.ofNat k.toNat,UInt8.ofNat f.toNat]++be e 8))/\Below w.heap.size w wc/\w.heap.size<wc.heap.size/\∀i,wc.cell? ⟨w.heap.size,i,Z⟩=#[I T k,I T f,I T e,I T b,I T wa,I T p,I T s,I T q,I T bl,I T v,J a zs.length c][i]?)
 case first=>
  have HC0:Hid _:=hc0;have g0:=hc0 0;have g1:=hc0 1;have g2:=hc0 2;simp at g0 g1 g2;have hs1:w.heap.size<W0.heap.size:=by omega
  have hbr:=Below.refl (w.heap.size+1) W0;clear hc0;refine wp_region_held_drew (S:=(fun w'=>w.heap.size<w'.heap.size/\Below (w.heap.size+1) W0 w'/\w'.cell? ⟨w.heap.size,0,Z⟩=Y (I T k)/\w'.cell? ⟨w.heap.size,1,Z⟩=Y (I T f)/\w'.cell? ⟨w.heap.size,2,Z⟩=Y (I T e))) (by kernel_rfl) (by(try dsimp only);and_intros<;>first|assumption|omega|(simp;omega)|(exact Below.drew (by assumption))|(exact Below.drew (Below.alloc (by assumption) (by omega) _))|(exact Below.alloc (by assumption) (by omega) _)|(simp[*];done)|go_keep) (fun hHeld=>?_);refine tk 0 ?_;refine tk 1 ?_;refine tk 2 ?_;refine tk 3 ?_;refine tk 4 ?_;refine tk 5 ?_;refine tk 8 ?_;refine tk 9 ?_;refine iE [6,10] ?_;refine .cons rfl (fun K hK=>?_) ?_
  ·go_simp;refine hK.out _ _ ?_ (fun hHeld=>?_)
   ·(try dsimp only);and_intros<;>first|assumption|omega|(simp;omega)|(exact Below.drew (by assumption))|(exact Below.drew (Below.alloc (by assumption) (by omega) _))|(exact Below.alloc (by assumption) (by omega) _)|(simp[*];done)|go_keep
   clear hK K
   try simp only[qs]
   refine iE [7,10] ?_;refine .cons rfl (fun K hK=>?_) ?_
   ·go_simp;refine hK.out _ _ ?_ (fun hHeld=>?_)
    ·(try dsimp only);and_intros<;>first|assumption|omega|(simp;omega)|(exact Below.drew (by assumption))|(exact Below.drew (Below.alloc (by assumption) (by omega) _))|(exact Below.alloc (by assumption) (by omega) _)|(simp[*];done)|go_keep
    clear hK K
    try simp only[qs]
    refine aG 10 fun K hK=>?_;go_simp
    (refine(dK _ _).mono ?_;rintro r w' ⟨rfl,hb⟩;have hsz':=hb.size;have hbc:=fun i=>hb.cell (p:=⟨w.heap.size,i,Z⟩) (by first|assumption|(simp;omega));(try have hx0:w'.cell? ⟨w.heap.size+1,0,Z⟩=Y (.int .u8 k):=(hb.cell (by simp;omega)).trans (World.cell?_alloc_at _ _ _ _ (by omega)));(try have hx1:w'.cell? ⟨w.heap.size+1,1,Z⟩=Y (.int .u8 f):=(hb.cell (by simp;omega)).trans (World.cell?_alloc_at _ _ _ _ (by omega)));have hbb:Below (w.heap.size+1) W0 w':=Below.trans (by first|exact hbr|exact Below.drew hbr|exact Below.drew (Below.alloc hbr (by omega) _)|exact Below.alloc hbr (by omega) _) (hb.mono (by first|omega|(simp;omega))))
    try go_wp2_with fail
    refine hK.out _ _ ?_ (fun hHeld=>?_)
    ·(try dsimp only);and_intros<;>first|assumption|omega|(simp;omega)|(exact Below.drew (by assumption))|(exact Below.drew (Below.alloc (by assumption) (by omega) _))|(exact Below.alloc (by assumption) (by omega) _)|(simp[*];done)|go_keep
    clear hK K
    try simp only[qs]
    refine aG 11 fun K hK=>?_;go_simp;refine hK.out _ _ ?_ (fun hHeld=>?_)
    ·(try dsimp only);and_intros<;>first|assumption|omega|(simp;omega)|(exact Below.drew (by assumption))|(exact Below.drew (Below.alloc (by assumption) (by omega) _))|(exact Below.alloc (by assumption) (by omega) _)|(simp[*];done)|go_keep
    clear hK K
    try simp only[qs]
    refine aG 12 fun K hK=>?_;go_simp;refine hK.out _ _ ?_ (fun hHeld=>?_)
    ·(try dsimp only);and_intros<;>first|assumption|omega|(simp;omega)|(exact Below.drew (by assumption))|(exact Below.drew (Below.alloc (by assumption) (by omega) _))|(exact Below.alloc (by assumption) (by omega) _)|(simp[*];done)|go_keep
    clear hK K
    try simp only[qs]
    refine dn ?_
    go_wp2_with fail
    go_meet
    rw[jU];exact⟨rfl,hb0.trans (hbb.mono (by omega)),by have:=hbb.size;omega,fun i=>(hbb.cell (by show w.heap.size<_;omega)).trans (HC0.out i)⟩
   refine .cons rfl (fun K hK=>?_) .nil;go_simp
   (refine(dK _ _).mono ?_;rintro r w' ⟨rfl,hb⟩;have hsz':=hb.size;have hbc:=fun i=>hb.cell (p:=⟨w.heap.size,i,Z⟩) (by first|assumption|(simp;omega));(try have hx0:w'.cell? ⟨w.heap.size+1,0,Z⟩=Y (.int .u8 k):=(hb.cell (by simp;omega)).trans (World.cell?_alloc_at _ _ _ _ (by omega)));(try have hx1:w'.cell? ⟨w.heap.size+1,1,Z⟩=Y (.int .u8 f):=(hb.cell (by simp;omega)).trans (World.cell?_alloc_at _ _ _ _ (by omega)));have hbb:Below (w.heap.size+1) W0 w':=Below.trans (by first|exact hbr|exact Below.drew hbr|exact Below.drew (Below.alloc hbr (by omega) _)|exact Below.alloc hbr (by omega) _) (hb.mono (by first|omega|(simp;omega))))
   try go_wp2_with fail
   refine hK.out _ _ ?_ (fun hHeld=>?_)
   ·(try dsimp only);and_intros<;>first|assumption|omega|(simp;omega)|(exact Below.drew (by assumption))|(exact Below.drew (Below.alloc (by assumption) (by omega) _))|(exact Below.alloc (by assumption) (by omega) _)|(simp[*];done)|go_keep
   clear hK K
   try simp only[qs]
   refine aG 7 fun K hK=>?_;go_simp;refine hK.out _ _ ?_ (fun hHeld=>?_)
   ·(try dsimp only);and_intros<;>first|assumption|omega|(simp;omega)|(exact Below.drew (by assumption))|(exact Below.drew (Below.alloc (by assumption) (by omega) _))|(exact Below.alloc (by assumption) (by omega) _)|(simp[*];done)|go_keep
   clear hK K
   try simp only[qs]
   refine aG 11 fun K hK=>?_;go_simp;refine hK.out _ _ ?_ (fun hHeld=>?_)
   ·(try dsimp only);and_intros<;>first|assumption|omega|(simp;omega)|(exact Below.drew (by assumption))|(exact Below.drew (Below.alloc (by assumption) (by omega) _))|(exact Below.alloc (by assumption) (by omega) _)|(simp[*];done)|go_keep
   clear hK K
   try simp only[qs]
   refine aG 12 fun K hK=>?_;go_simp;refine hK.out _ _ ?_ (fun hHeld=>?_)
   ·(try dsimp only);and_intros<;>first|assumption|omega|(simp;omega)|(exact Below.drew (by assumption))|(exact Below.drew (Below.alloc (by assumption) (by omega) _))|(exact Below.alloc (by assumption) (by omega) _)|(simp[*];done)|go_keep
   clear hK K
   try simp only[qs]
   refine dn ?_
   go_wp2_with fail
   go_meet
   rw[jU];exact⟨rfl,hb0.trans (hbb.mono (by omega)),by have:=hbb.size;omega,fun i=>(hbb.cell (by show w.heap.size<_;omega)).trans (HC0.out i)⟩
  refine .cons rfl (fun K hK=>?_) .nil;go_simp
  (refine(dK _ _).mono ?_;rintro r w' ⟨rfl,hb⟩;have hsz':=hb.size;have hbc:=fun i=>hb.cell (p:=⟨w.heap.size,i,Z⟩) (by first|assumption|(simp;omega));(try have hx0:w'.cell? ⟨w.heap.size+1,0,Z⟩=Y (.int .u8 k):=(hb.cell (by simp;omega)).trans (World.cell?_alloc_at _ _ _ _ (by omega)));(try have hx1:w'.cell? ⟨w.heap.size+1,1,Z⟩=Y (.int .u8 f):=(hb.cell (by simp;omega)).trans (World.cell?_alloc_at _ _ _ _ (by omega)));have hbb:Below (w.heap.size+1) W0 w':=Below.trans (by first|exact hbr|exact Below.drew hbr|exact Below.drew (Below.alloc hbr (by omega) _)|exact Below.alloc hbr (by omega) _) (hb.mono (by first|omega|(simp;omega))))
  try go_wp2_with fail
  refine hK.out _ _ ?_ (fun hHeld=>?_)
  ·(try dsimp only);and_intros<;>first|assumption|omega|(simp;omega)|(exact Below.drew (by assumption))|(exact Below.drew (Below.alloc (by assumption) (by omega) _))|(exact Below.alloc (by assumption) (by omega) _)|(simp[*];done)|go_keep
  clear hK K
  try simp only[qs]
  refine aG 6 fun K hK=>?_;go_simp;refine hK.out _ _ ?_ (fun hHeld=>?_)
  ·(try dsimp only);and_intros<;>first|assumption|omega|(simp;omega)|(exact Below.drew (by assumption))|(exact Below.drew (Below.alloc (by assumption) (by omega) _))|(exact Below.alloc (by assumption) (by omega) _)|(simp[*];done)|go_keep
  clear hK K
  try simp only[qs]
  refine aG 7 fun K hK=>?_;go_simp;refine hK.out _ _ ?_ (fun hHeld=>?_)
  ·(try dsimp only);and_intros<;>first|assumption|omega|(simp;omega)|(exact Below.drew (by assumption))|(exact Below.drew (Below.alloc (by assumption) (by omega) _))|(exact Below.alloc (by assumption) (by omega) _)|(simp[*];done)|go_keep
  clear hK K
  try simp only[qs]
  refine aG 11 fun K hK=>?_;go_simp;refine hK.out _ _ ?_ (fun hHeld=>?_)
  ·(try dsimp only);and_intros<;>first|assumption|omega|(simp;omega)|(exact Below.drew (by assumption))|(exact Below.drew (Below.alloc (by assumption) (by omega) _))|(exact Below.alloc (by assumption) (by omega) _)|(simp[*];done)|go_keep
  clear hK K
  try simp only[qs]
  refine aG 12 fun K hK=>?_;go_simp;refine hK.out _ _ ?_ (fun hHeld=>?_)
  ·(try dsimp only);and_intros<;>first|assumption|omega|(simp;omega)|(exact Below.drew (by assumption))|(exact Below.drew (Below.alloc (by assumption) (by omega) _))|(exact Below.alloc (by assumption) (by omega) _)|(simp[*];done)|go_keep
  clear hK K
  try simp only[qs]
  refine dn ?_
  go_wp2_with fail
  go_meet
  rw[jU];have hbz:=hbb.size;have hbb2:=hbb.alloc (by omega) (G #[Value.int IntKind.u8 k,Value.int IntKind.u8 f] 5);exact⟨rfl,hb0.trans (hbb2.mono (by omega)),by simp;omega,fun i=>(hbb2.cell (by show w.heap.size<_;omega)).trans (HC0.out i)⟩
 case rest=>
  obtain⟨rfl,hbw,hsw,hcw⟩:=hcut;clear hc0 hb0 hs0 hcv hsz hm1 hm2 hm3 hm4;have hcat:∀x y:List UInt8,aC x++aC y=aC (x++y):=jU;have hqs:∀x:List UInt8,(aC x).size=x.length:=fT;have hbl:∀n:Int,(be n 8).length=8:=fun n=>cQ n 8;have HH:Hid ([UInt8.ofNat k.toNat,UInt8.ofNat f.toNat]++be e 8=[UInt8.ofNat k.toNat,UInt8.ofNat f.toNat]++be e 8):=rfl;generalize hH:[UInt8.ofNat k.toNat,UInt8.ofNat f.toNat]++be e 8=H at*;have hlH:H.length=10:=by rw[←hH];simp[cQ]
  have HH':=aA hH.symm;clear hH HH;have HZ9:Hid _:=hz9;clear hz9;have HIN:=hin.later hbw;rcases(show k=1∨k=2∨k=3∨k=4∨k=5∨k=6∨k=7∨k=8∨k=9∨k=10 by omega) with rfl|rfl|rfl|rfl|rfl|rfl|rfl|rfl|rfl|rfl
  ·clear HIN hin
   have HBODY:Hid ((H++be b 8)=bZ ((1:Int).toNat) f.toNat [0,e,b,wa,p,s,q,bl,v,(zs.length:Int)] zs):=by
    unfold Hid;rw[HH'.out];show _=[UInt8.ofNat ((1:Int).toNat),UInt8.ofNat f.toNat]++(cT.getD 1 []).flatMap _
    simp[cT,cE]
   go_wp2_with fail
   refine(dK b _).mono ?_;rintro r w0 ⟨rfl,hb0⟩;have hc0:∀i,w0.cell? ⟨w.heap.size,i,Z⟩=#[I T 1,I T f,I T e,I T b,I T wa,I T p,I T s,I T q,I T bl,I T v,J a zs.length c][i]?:=fun i=>(hb0.cell (p:=⟨w.heap.size,i,Z⟩) hsw).trans (hcw i);have hs0:w.heap.size<w0.heap.size:=Nat.lt_of_lt_of_le hsw hb0.size;have hd0:=hbw.trans (hb0.mono (by omega));clear hcw hb0
   go_wp2_with fail
   generalize hB:(H++be b 8)=B at HBODY⊢;have hlB:B.length=18:=by rw[←hB];simp[cQ,hlH]
   clear hB;refine(iN B _ (by omega)).mono ?_;rintro r wy ⟨rfl,rfl⟩
   go_wp2_with fail
   refine(dK (aV B) _).mono ?_;rintro r wz ⟨rfl,hbz⟩;have hdz:=hd0.trans (hbz.mono (by omega));clear hbz hc0;have htl:(aC (be (aV B) 8)).extract 4 8=aC (be (aV B) 4):=iO _;have hlt:(be (aV B) 4).length=4:=cQ _ 4
   have HR:Hid (B++be (aV B) 4=cH ((1:Int).toNat) f.toNat [0,e,b,wa,p,s,q,bl,v,(zs.length:Int)] zs):=by
    show _=bZ _ _ _ _++be (aV (bZ _ _ _ _)) 4
    rw[←HBODY.out]
   generalize aV B=Z1 at*;go_wp2;go_ret;exact⟨congrArg (fun x=>Ending.returned (Value.string (aC x))) HR.out,hdz⟩
  ·clear HIN hin
   have HBODY:Hid ((H++(be b 8++(be wa 8++(be p 8++be s 8))))=bZ ((2:Int).toNat) f.toNat [0,e,b,wa,p,s,q,bl,v,(zs.length:Int)] zs):=by
    unfold Hid;rw[HH'.out];show _=[UInt8.ofNat ((2:Int).toNat),UInt8.ofNat f.toNat]++(cT.getD 2 []).flatMap _
    simp[cT,cE]
   go_wp2_with fail
   refine(dK b _).mono ?_;rintro r w0 ⟨rfl,hb0⟩;have hc0:∀i,w0.cell? ⟨w.heap.size,i,Z⟩=#[I T 2,I T f,I T e,I T b,I T wa,I T p,I T s,I T q,I T bl,I T v,J a zs.length c][i]?:=fun i=>(hb0.cell (p:=⟨w.heap.size,i,Z⟩) hsw).trans (hcw i);have hs0:w.heap.size<w0.heap.size:=Nat.lt_of_lt_of_le hsw hb0.size;have hd0:=hbw.trans (hb0.mono (by omega));clear hcw hb0
   go_wp2_with fail
   refine(dK wa _).mono ?_;rintro r w1 ⟨rfl,hb1⟩;have hc1:∀i,w1.cell? ⟨w.heap.size,i,Z⟩=#[I T 2,I T f,I T e,I T b,I T wa,I T p,I T s,I T q,I T bl,I T v,J a zs.length c][i]?:=fun i=>(hb1.cell (p:=⟨w.heap.size,i,Z⟩) hs0).trans (hc0 i);have hs1:w.heap.size<w1.heap.size:=Nat.lt_of_lt_of_le hs0 hb1.size;have hd1:=hd0.trans (hb1.mono (by omega));clear hc0 hb1
   go_wp2_with fail
   go_cut [3] from 50 to 58 (fun x wd=>x=.string (aC (H++(be b 8++(be wa 8++(be p 8++be s 8)))))/\Below w.heap.size w wd/\w.heap.size<wd.heap.size/\∀i,wd.cell? ⟨w.heap.size,i,Z⟩=#[I T 2,I T f,I T e,I T b,I T wa,I T p,I T s,I T q,I T bl,I T v,J a zs.length c][i]?)
   case first=>
    have HC0:Hid _:=hc1;have g0:=hc1 5;have g1:=hc1 6;simp at g0 g1;have hbr:=Below.refl (w.heap.size+1) w1;have hm0:w.heap.size+1<=w1.heap.size:=hs1;clear hc1 HBODY
    go_region_held3 (fun w'=>w.heap.size+1<=w'.heap.size/\Below (w.heap.size+1) w1 w'/\w'.cell? ⟨w.heap.size,5,Z⟩=Y (I T p)/\w'.cell? ⟨w.heap.size,6,Z⟩=Y (I T s)) (and_intros<;>first|assumption|omega|(exact Below.drew (by assumption))|(simp;omega)|(simp[*];done)|go_keep)
     (first|(go_at_call 155;refine(dK _ _).mono ?_;rintro r w' ⟨rfl,hb⟩;have hsz':=hb.size;have hbc:=fun i=>hb.cell (p:=⟨w.heap.size,i,Z⟩) (by first|assumption|(simp;omega));have hm':w.heap.size+1<=w'.heap.size:=Nat.le_trans (by assumption) hb.size;have hbb:Below (w.heap.size+1) w1 w':=Below.trans (by first|assumption|exact Below.drew hbr) (hb.mono (by first|assumption|omega|(simp;omega)))))
    all_goals go_wp2_with fail
    all_goals go_meet
    all_goals exact⟨rfl,hd1.trans (hbb.mono (by omega)),by omega,fun i=>(hbb.cell (by show w.heap.size<_;omega)).trans (HC0.out i)⟩
   case rest=>
   obtain⟨rfl,hbp,hsp,hcp⟩:=hcut;clear hc1
   go_wp2_with fail
   generalize hB:(H++(be b 8++(be wa 8++(be p 8++be s 8))))=B at HBODY⊢;have hlB:B.length=42:=by rw[←hB];simp[cQ,hlH]
   clear hB;refine(iN B _ (by omega)).mono ?_;rintro r wy ⟨rfl,rfl⟩
   go_wp2_with fail
   refine(dK (aV B) _).mono ?_;rintro r wz ⟨rfl,hbz⟩;have hdz:=hbp.trans (hbz.mono (by omega));clear hbz hcp;have htl:(aC (be (aV B) 8)).extract 4 8=aC (be (aV B) 4):=iO _;have hlt:(be (aV B) 4).length=4:=cQ _ 4
   have HR:Hid (B++be (aV B) 4=cH ((2:Int).toNat) f.toNat [0,e,b,wa,p,s,q,bl,v,(zs.length:Int)] zs):=by
    show _=bZ _ _ _ _++be (aV (bZ _ _ _ _)) 4
    rw[←HBODY.out]
   generalize aV B=Z1 at*;go_wp2;go_ret;exact⟨congrArg (fun x=>Ending.returned (Value.string (aC x))) HR.out,hdz⟩
  ·clear HIN hin
   have HBODY:Hid ((H++(be b 8++(be p 8++be s 8)))=bZ ((3:Int).toNat) f.toNat [0,e,b,wa,p,s,q,bl,v,(zs.length:Int)] zs):=by
    unfold Hid;rw[HH'.out];show _=[UInt8.ofNat ((3:Int).toNat),UInt8.ofNat f.toNat]++(cT.getD 3 []).flatMap _
    simp[cT,cE]
   go_wp2_with fail
   refine(dK b _).mono ?_;rintro r w0 ⟨rfl,hb0⟩;have hc0:∀i,w0.cell? ⟨w.heap.size,i,Z⟩=#[I T 3,I T f,I T e,I T b,I T wa,I T p,I T s,I T q,I T bl,I T v,J a zs.length c][i]?:=fun i=>(hb0.cell (p:=⟨w.heap.size,i,Z⟩) hsw).trans (hcw i);have hs0:w.heap.size<w0.heap.size:=Nat.lt_of_lt_of_le hsw hb0.size;have hd0:=hbw.trans (hb0.mono (by omega));clear hcw hb0
   go_wp2_with fail
   go_cut [3] from 50 to 58 (fun x wd=>x=.string (aC (H++(be b 8++(be p 8++be s 8))))/\Below w.heap.size w wd/\w.heap.size<wd.heap.size/\∀i,wd.cell? ⟨w.heap.size,i,Z⟩=#[I T 3,I T f,I T e,I T b,I T wa,I T p,I T s,I T q,I T bl,I T v,J a zs.length c][i]?)
   case first=>
    have HC0:Hid _:=hc0;have g0:=hc0 5;have g1:=hc0 6;simp at g0 g1;have hbr:=Below.refl (w.heap.size+1) w0;have hm0:w.heap.size+1<=w0.heap.size:=hs0;clear hc0 HBODY
    go_region_held3 (fun w'=>w.heap.size+1<=w'.heap.size/\Below (w.heap.size+1) w0 w'/\w'.cell? ⟨w.heap.size,5,Z⟩=Y (I T p)/\w'.cell? ⟨w.heap.size,6,Z⟩=Y (I T s)) (and_intros<;>first|assumption|omega|(exact Below.drew (by assumption))|(simp;omega)|(simp[*];done)|go_keep)
     (first|(go_at_call 155;refine(dK _ _).mono ?_;rintro r w' ⟨rfl,hb⟩;have hsz':=hb.size;have hbc:=fun i=>hb.cell (p:=⟨w.heap.size,i,Z⟩) (by first|assumption|(simp;omega));have hm':w.heap.size+1<=w'.heap.size:=Nat.le_trans (by assumption) hb.size;have hbb:Below (w.heap.size+1) w0 w':=Below.trans (by first|assumption|exact Below.drew hbr) (hb.mono (by first|assumption|omega|(simp;omega)))))
    all_goals go_wp2_with fail
    all_goals go_meet
    all_goals exact⟨rfl,hd0.trans (hbb.mono (by omega)),by omega,fun i=>(hbb.cell (by show w.heap.size<_;omega)).trans (HC0.out i)⟩
   case rest=>
   obtain⟨rfl,hbp,hsp,hcp⟩:=hcut;clear hc0
   go_wp2_with fail
   generalize hB:(H++(be b 8++(be p 8++be s 8)))=B at HBODY⊢;have hlB:B.length=34:=by rw[←hB];simp[cQ,hlH]
   clear hB;refine(iN B _ (by omega)).mono ?_;rintro r wy ⟨rfl,rfl⟩
   go_wp2_with fail
   refine(dK (aV B) _).mono ?_;rintro r wz ⟨rfl,hbz⟩;have hdz:=hbp.trans (hbz.mono (by omega));clear hbz hcp;have htl:(aC (be (aV B) 8)).extract 4 8=aC (be (aV B) 4):=iO _;have hlt:(be (aV B) 4).length=4:=cQ _ 4
   have HR:Hid (B++be (aV B) 4=cH ((3:Int).toNat) f.toNat [0,e,b,wa,p,s,q,bl,v,(zs.length:Int)] zs):=by
    show _=bZ _ _ _ _++be (aV (bZ _ _ _ _)) 4
    rw[←HBODY.out]
   generalize aV B=Z1 at*;go_wp2;go_ret;exact⟨congrArg (fun x=>Ending.returned (Value.string (aC x))) HR.out,hdz⟩
  ·clear HIN hin
   have HBODY:Hid ((H++be b 8)=bZ ((4:Int).toNat) f.toNat [0,e,b,wa,p,s,q,bl,v,(zs.length:Int)] zs):=by
    unfold Hid;rw[HH'.out];show _=[UInt8.ofNat ((4:Int).toNat),UInt8.ofNat f.toNat]++(cT.getD 4 []).flatMap _
    simp[cT,cE]
   go_wp2_with fail
   refine(dK b _).mono ?_;rintro r w0 ⟨rfl,hb0⟩;have hc0:∀i,w0.cell? ⟨w.heap.size,i,Z⟩=#[I T 4,I T f,I T e,I T b,I T wa,I T p,I T s,I T q,I T bl,I T v,J a zs.length c][i]?:=fun i=>(hb0.cell (p:=⟨w.heap.size,i,Z⟩) hsw).trans (hcw i);have hs0:w.heap.size<w0.heap.size:=Nat.lt_of_lt_of_le hsw hb0.size;have hd0:=hbw.trans (hb0.mono (by omega));clear hcw hb0
   go_wp2_with fail
   generalize hB:(H++be b 8)=B at HBODY⊢;have hlB:B.length=18:=by rw[←hB];simp[cQ,hlH]
   clear hB;refine(iN B _ (by omega)).mono ?_;rintro r wy ⟨rfl,rfl⟩
   go_wp2_with fail
   refine(dK (aV B) _).mono ?_;rintro r wz ⟨rfl,hbz⟩;have hdz:=hd0.trans (hbz.mono (by omega));clear hbz hc0;have htl:(aC (be (aV B) 8)).extract 4 8=aC (be (aV B) 4):=iO _;have hlt:(be (aV B) 4).length=4:=cQ _ 4
   have HR:Hid (B++be (aV B) 4=cH ((4:Int).toNat) f.toNat [0,e,b,wa,p,s,q,bl,v,(zs.length:Int)] zs):=by
    show _=bZ _ _ _ _++be (aV (bZ _ _ _ _)) 4
    rw[←HBODY.out]
   generalize aV B=Z1 at*;go_wp2;go_ret;exact⟨congrArg (fun x=>Ending.returned (Value.string (aC x))) HR.out,hdz⟩
  ·clear HIN hin
   have HBODY:Hid ((H++(be b 8++be wa 8))=bZ ((5:Int).toNat) f.toNat [0,e,b,wa,p,s,q,bl,v,(zs.length:Int)] zs):=by
    unfold Hid;rw[HH'.out];show _=[UInt8.ofNat ((5:Int).toNat),UInt8.ofNat f.toNat]++(cT.getD 5 []).flatMap _
    simp[cT,cE]
   go_wp2_with fail
   refine(dK b _).mono ?_;rintro r w0 ⟨rfl,hb0⟩;have hc0:∀i,w0.cell? ⟨w.heap.size,i,Z⟩=#[I T 5,I T f,I T e,I T b,I T wa,I T p,I T s,I T q,I T bl,I T v,J a zs.length c][i]?:=fun i=>(hb0.cell (p:=⟨w.heap.size,i,Z⟩) hsw).trans (hcw i);have hs0:w.heap.size<w0.heap.size:=Nat.lt_of_lt_of_le hsw hb0.size;have hd0:=hbw.trans (hb0.mono (by omega));clear hcw hb0
   go_wp2_with fail
   refine(dK wa _).mono ?_;rintro r w1 ⟨rfl,hb1⟩;have hc1:∀i,w1.cell? ⟨w.heap.size,i,Z⟩=#[I T 5,I T f,I T e,I T b,I T wa,I T p,I T s,I T q,I T bl,I T v,J a zs.length c][i]?:=fun i=>(hb1.cell (p:=⟨w.heap.size,i,Z⟩) hs0).trans (hc0 i);have hs1:w.heap.size<w1.heap.size:=Nat.lt_of_lt_of_le hs0 hb1.size;have hd1:=hd0.trans (hb1.mono (by omega));clear hc0 hb1
   go_wp2_with fail
   generalize hB:(H++(be b 8++be wa 8))=B at HBODY⊢;have hlB:B.length=26:=by rw[←hB];simp[cQ,hlH]
   clear hB;refine(iN B _ (by omega)).mono ?_;rintro r wy ⟨rfl,rfl⟩
   go_wp2_with fail
   refine(dK (aV B) _).mono ?_;rintro r wz ⟨rfl,hbz⟩;have hdz:=hd1.trans (hbz.mono (by omega));clear hbz hc1;have htl:(aC (be (aV B) 8)).extract 4 8=aC (be (aV B) 4):=iO _;have hlt:(be (aV B) 4).length=4:=cQ _ 4
   have HR:Hid (B++be (aV B) 4=cH ((5:Int).toNat) f.toNat [0,e,b,wa,p,s,q,bl,v,(zs.length:Int)] zs):=by
    show _=bZ _ _ _ _++be (aV (bZ _ _ _ _)) 4
    rw[←HBODY.out]
   generalize aV B=Z1 at*;go_wp2;go_ret;exact⟨congrArg (fun x=>Ending.returned (Value.string (aC x))) HR.out,hdz⟩
  ·clear HIN hin
   have HBODY:Hid ((H++(be p 8++be s 8))=bZ ((6:Int).toNat) f.toNat [0,e,b,wa,p,s,q,bl,v,(zs.length:Int)] zs):=by
    unfold Hid;rw[HH'.out];show _=[UInt8.ofNat ((6:Int).toNat),UInt8.ofNat f.toNat]++(cT.getD 6 []).flatMap _
    simp[cT,cE]
   go_wp2_with fail
   go_cut [3] from 50 to 58 (fun x wd=>x=.string (aC (H++(be p 8++be s 8)))/\Below w.heap.size w wd/\w.heap.size<wd.heap.size/\∀i,wd.cell? ⟨w.heap.size,i,Z⟩=#[I T 6,I T f,I T e,I T b,I T wa,I T p,I T s,I T q,I T bl,I T v,J a zs.length c][i]?)
   case first=>
    have HC0:Hid _:=hcw;have g0:=hcw 5;have g1:=hcw 6;simp at g0 g1;have hbr:=Below.refl (w.heap.size+1) wc;have hm0:w.heap.size+1<=wc.heap.size:=hsw;clear hcw HBODY
    go_region_held3 (fun w'=>w.heap.size+1<=w'.heap.size/\Below (w.heap.size+1) wc w'/\w'.cell? ⟨w.heap.size,5,Z⟩=Y (I T p)/\w'.cell? ⟨w.heap.size,6,Z⟩=Y (I T s)) (and_intros<;>first|assumption|omega|(exact Below.drew (by assumption))|(simp;omega)|(simp[*];done)|go_keep)
     (first|(go_at_call 155;refine(dK _ _).mono ?_;rintro r w' ⟨rfl,hb⟩;have hsz':=hb.size;have hbc:=fun i=>hb.cell (p:=⟨w.heap.size,i,Z⟩) (by first|assumption|(simp;omega));have hm':w.heap.size+1<=w'.heap.size:=Nat.le_trans (by assumption) hb.size;have hbb:Below (w.heap.size+1) wc w':=Below.trans (by first|assumption|exact Below.drew hbr) (hb.mono (by first|assumption|omega|(simp;omega)))))
    all_goals go_wp2_with fail
    all_goals go_meet
    all_goals exact⟨rfl,hbw.trans (hbb.mono (by omega)),by omega,fun i=>(hbb.cell (by show w.heap.size<_;omega)).trans (HC0.out i)⟩
   case rest=>
   obtain⟨rfl,hbp,hsp,hcp⟩:=hcut;clear hcw
   go_wp2_with fail
   generalize hB:(H++(be p 8++be s 8))=B at HBODY⊢;have hlB:B.length=26:=by rw[←hB];simp[cQ,hlH]
   clear hB;refine(iN B _ (by omega)).mono ?_;rintro r wy ⟨rfl,rfl⟩
   go_wp2_with fail
   refine(dK (aV B) _).mono ?_;rintro r wz ⟨rfl,hbz⟩;have hdz:=hbp.trans (hbz.mono (by omega));clear hbz hcp;have htl:(aC (be (aV B) 8)).extract 4 8=aC (be (aV B) 4):=iO _;have hlt:(be (aV B) 4).length=4:=cQ _ 4
   have HR:Hid (B++be (aV B) 4=cH ((6:Int).toNat) f.toNat [0,e,b,wa,p,s,q,bl,v,(zs.length:Int)] zs):=by
    show _=bZ _ _ _ _++be (aV (bZ _ _ _ _)) 4
    rw[←HBODY.out]
   generalize aV B=Z1 at*;go_wp2;go_ret;exact⟨congrArg (fun x=>Ending.returned (Value.string (aC x))) HR.out,hdz⟩
  ·clear HIN hin
   have HBODY:Hid ((H++(be q 8++(be bl 8++be v 8)))=bZ ((7:Int).toNat) f.toNat [0,e,b,wa,p,s,q,bl,v,(zs.length:Int)] zs):=by
    unfold Hid;rw[HH'.out];show _=[UInt8.ofNat ((7:Int).toNat),UInt8.ofNat f.toNat]++(cT.getD 7 []).flatMap _
    simp[cT,cE]
   go_wp2_with fail
   refine(dK q _).mono ?_;rintro r w0 ⟨rfl,hb0⟩;have hc0:∀i,w0.cell? ⟨w.heap.size,i,Z⟩=#[I T 7,I T f,I T e,I T b,I T wa,I T p,I T s,I T q,I T bl,I T v,J a zs.length c][i]?:=fun i=>(hb0.cell (p:=⟨w.heap.size,i,Z⟩) hsw).trans (hcw i);have hs0:w.heap.size<w0.heap.size:=Nat.lt_of_lt_of_le hsw hb0.size;have hd0:=hbw.trans (hb0.mono (by omega));clear hcw hb0
   go_wp2_with fail
   go_cut [3] from 68 to 76 (fun x wd=>x=.string (aC (H++(be q 8++(be bl 8++be v 8))))/\Below w.heap.size w wd/\w.heap.size<wd.heap.size/\∀i,wd.cell? ⟨w.heap.size,i,Z⟩=#[I T 7,I T f,I T e,I T b,I T wa,I T p,I T s,I T q,I T bl,I T v,J a zs.length c][i]?)
   case first=>
    have HC0:Hid _:=hc0;have g0:=hc0 8;have g1:=hc0 9;simp at g0 g1;have hbr:=Below.refl (w.heap.size+1) w0;have hm0:w.heap.size+1<=w0.heap.size:=hs0;clear hc0 HBODY
    go_region_held3 (fun w'=>w.heap.size+1<=w'.heap.size/\Below (w.heap.size+1) w0 w'/\w'.cell? ⟨w.heap.size,8,Z⟩=Y (I T bl)/\w'.cell? ⟨w.heap.size,9,Z⟩=Y (I T v)) (and_intros<;>first|assumption|omega|(exact Below.drew (by assumption))|(simp;omega)|(simp[*];done)|go_keep)
     (first|(go_at_call 155;refine(dK _ _).mono ?_;rintro r w' ⟨rfl,hb⟩;have hsz':=hb.size;have hbc:=fun i=>hb.cell (p:=⟨w.heap.size,i,Z⟩) (by first|assumption|(simp;omega));have hm':w.heap.size+1<=w'.heap.size:=Nat.le_trans (by assumption) hb.size;have hbb:Below (w.heap.size+1) w0 w':=Below.trans (by first|assumption|exact Below.drew hbr) (hb.mono (by first|assumption|omega|(simp;omega)))))
    all_goals go_wp2_with fail
    all_goals go_meet
    all_goals exact⟨rfl,hd0.trans (hbb.mono (by omega)),by omega,fun i=>(hbb.cell (by show w.heap.size<_;omega)).trans (HC0.out i)⟩
   case rest=>
   obtain⟨rfl,hbp,hsp,hcp⟩:=hcut;clear hc0
   go_wp2_with fail
   generalize hB:(H++(be q 8++(be bl 8++be v 8)))=B at HBODY⊢;have hlB:B.length=34:=by rw[←hB];simp[cQ,hlH]
   clear hB;refine(iN B _ (by omega)).mono ?_;rintro r wy ⟨rfl,rfl⟩
   go_wp2_with fail
   refine(dK (aV B) _).mono ?_;rintro r wz ⟨rfl,hbz⟩;have hdz:=hbp.trans (hbz.mono (by omega));clear hbz hcp;have htl:(aC (be (aV B) 8)).extract 4 8=aC (be (aV B) 4):=iO _;have hlt:(be (aV B) 4).length=4:=cQ _ 4
   have HR:Hid (B++be (aV B) 4=cH ((7:Int).toNat) f.toNat [0,e,b,wa,p,s,q,bl,v,(zs.length:Int)] zs):=by
    show _=bZ _ _ _ _++be (aV (bZ _ _ _ _)) 4
    rw[←HBODY.out]
   generalize aV B=Z1 at*;go_wp2;go_ret;exact⟨congrArg (fun x=>Ending.returned (Value.string (aC x))) HR.out,hdz⟩
  ·clear HIN hin
   have HBODY:Hid ((H++be q 8)=bZ ((8:Int).toNat) f.toNat [0,e,b,wa,p,s,q,bl,v,(zs.length:Int)] zs):=by
    unfold Hid;rw[HH'.out];show _=[UInt8.ofNat ((8:Int).toNat),UInt8.ofNat f.toNat]++(cT.getD 8 []).flatMap _
    simp[cT,cE]
   go_wp2_with fail
   refine(dK q _).mono ?_;rintro r w0 ⟨rfl,hb0⟩;have hc0:∀i,w0.cell? ⟨w.heap.size,i,Z⟩=#[I T 8,I T f,I T e,I T b,I T wa,I T p,I T s,I T q,I T bl,I T v,J a zs.length c][i]?:=fun i=>(hb0.cell (p:=⟨w.heap.size,i,Z⟩) hsw).trans (hcw i);have hs0:w.heap.size<w0.heap.size:=Nat.lt_of_lt_of_le hsw hb0.size;have hd0:=hbw.trans (hb0.mono (by omega));clear hcw hb0
   go_wp2_with fail
   generalize hB:(H++be q 8)=B at HBODY⊢;have hlB:B.length=18:=by rw[←hB];simp[cQ,hlH]
   clear hB;refine(iN B _ (by omega)).mono ?_;rintro r wy ⟨rfl,rfl⟩
   go_wp2_with fail
   refine(dK (aV B) _).mono ?_;rintro r wz ⟨rfl,hbz⟩;have hdz:=hd0.trans (hbz.mono (by omega));clear hbz hc0;have htl:(aC (be (aV B) 8)).extract 4 8=aC (be (aV B) 4):=iO _;have hlt:(be (aV B) 4).length=4:=cQ _ 4
   have HR:Hid (B++be (aV B) 4=cH ((8:Int).toNat) f.toNat [0,e,b,wa,p,s,q,bl,v,(zs.length:Int)] zs):=by
    show _=bZ _ _ _ _++be (aV (bZ _ _ _ _)) 4
    rw[←HBODY.out]
   generalize aV B=Z1 at*;go_wp2;go_ret;exact⟨congrArg (fun x=>Ending.returned (Value.string (aC x))) HR.out,hdz⟩
  ·have HBODY:Hid ((H++(be q 8++((be (zs.length:Int) 1)++zs.flatMap (fun v=>be v 8))))=bZ ((9:Int).toNat) f.toNat [0,e,b,wa,p,s,q,bl,v,(zs.length:Int)] zs):=by
    unfold Hid;rw[HH'.out];show _=[UInt8.ofNat ((9:Int).toNat),UInt8.ofNat f.toNat]++(cT.getD 9 []).flatMap _
    simp[cT,cE]
   go_wp2_with fail
   refine(dK q _).mono ?_;rintro r w0 ⟨rfl,hb0⟩;have hc0:∀i,w0.cell? ⟨w.heap.size,i,Z⟩=#[I T 9,I T f,I T e,I T b,I T wa,I T p,I T s,I T q,I T bl,I T v,J a zs.length c][i]?:=fun i=>(hb0.cell (p:=⟨w.heap.size,i,Z⟩) hsw).trans (hcw i);have hs0:w.heap.size<w0.heap.size:=Nat.lt_of_lt_of_le hsw hb0.size;have hd0:=hbw.trans (hb0.mono (by omega));clear hcw hb0;have hcv1:=tX (w0.alloc (G #[Value.int IntKind.u8 (zs.length:Int)] 5)) w0.heap.size (UInt8.ofNat zs.length) (by rw[World.cell?_alloc_at _ _ _ _ rfl,UInt8.toNat_ofNat',Nat.mod_eq_of_lt (by omega)];rfl);have HB1:=aA (pO zs.length (by omega));clear HIN
   go_wp2_with fail
   have hbA:=hd0.alloc (by omega) (G #[Value.int IntKind.u8 (zs.length:Int)] 5);have hsA:w.heap.size<(w0.alloc (G #[Value.int IntKind.u8 (zs.length:Int)] 5)).heap.size:=by simp;omega
   have hcA:∀i,(w0.alloc (G #[Value.int IntKind.u8 (zs.length:Int)] 5)).cell? ⟨w.heap.size,i,Z⟩=#[I T 9,I T f,I T e,I T b,I T wa,I T p,I T s,I T q,I T bl,I T v,J a zs.length c][i]?:=fun i=>by rw[World.cell?_alloc_past _ _ _ hs0,hc0]
   generalize (w0.alloc (G #[Value.int IntKind.u8 (zs.length:Int)] 5))=wA at*;clear hcv1 hc0 hd0 hs0;generalize hP:H++(be q 8++[UInt8.ofNat zs.length])=P at*;have hlP:P.length=19:=by rw[←hP];simp[cQ,hlH]
   have HP:=aA hP;clear hP
   go_loopw [3,5] (fun sx ix wr=>∃t:Nat,t<=zs.length/\ix=I T t/\sx=.string (aC (P++(zs.take t).flatMap (fun v=>be v 8)))/\Below w.heap.size w wr/\w.heap.size<wr.heap.size/\∀i,wr.cell? ⟨w.heap.size,i,Z⟩=#[I T 9,I T f,I T e,I T b,I T wa,I T p,I T s,I T q,I T bl,I T v,J a zs.length c][i]?) (fun _ i _=>zs.length - (intOf i).toNat)
   case atStart=>exact⟨0,by omega,rfl,by simp,hbA,hsA,hcA⟩
   case round=>
    obtain⟨t,ht,rfl,rfl,hbr,hsr,hcr⟩:=hrel;have hlf:((zs.take t).flatMap (fun v=>be v 8)).length=8*t:=by rw[nQ];simp;omega
    clear hcA hbA hsA
    by_cases htl:t<zs.length
    ·obtain⟨g,o,rfl,_,kk⟩:=(hin.later hbr).resolve_left (by intro h;subst h;simp at htl);have j1:=kk t htl;have htl2:(t:Int)<(zs.length:Int):=by omega
     have HT:=aA (rI zs t htl);clear kk hin;generalize zs[t]=X at*;generalize hFT:(zs.take t).flatMap (fun v=>be v 8)=FT at*;clear hFT
     go_wp2_with fail
     refine(dK X _).mono ?_;rintro r w' ⟨rfl,hb'⟩;have hc':∀i,w'.cell? ⟨w.heap.size,i,Z⟩=#[I T 9,I T f,I T e,I T b,I T wa,I T p,I T s,I T q,I T bl,I T v,J (Y ⟨g,o,Z⟩) zs.length c][i]?:=fun i=>(hb'.cell (p:=⟨w.heap.size,i,Z⟩) hsr).trans (hcr i);have hs':w.heap.size<w'.heap.size:=Nat.lt_of_lt_of_le hsr hb'.size;have hd':=hbr.trans (hb'.mono (by omega));clear hb' hcr hbr hsr;go_wp2
     go_roundw
     case rel=>exact⟨t+1,by omega,by go_num,by rw[HT.out],hd',hs',hc'⟩
     case measure=>simp[intOf];omega
    ·have hte:t=zs.length:=by omega
     subst hte;have HTT:Hid (zs.take zs.length=zs):=List.take_length;rw[HTT.out]at hlf⊢
     have HBODY2:Hid (P++zs.flatMap (fun v=>be v 8)=bZ ((9:Int).toNat) f.toNat [0,e,b,wa,p,s,q,bl,v,(zs.length:Int)] zs):=by
      unfold Hid;rw[←HBODY.out,HB1.out,←HP.out];simp
     clear HBODY HB1;generalize hB:P++zs.flatMap (fun v=>be v 8)=B at HBODY2⊢;have hlB:B.length<=60:=by rw[←hB];simp[hlP,hlf];omega
     clear hB
     go_wp2_with fail
     refine(iN B _ (by omega)).mono ?_;rintro r wy ⟨rfl,rfl⟩
     go_wp2_with fail
     refine(dK (aV B) _).mono ?_;rintro r wz ⟨rfl,hbz⟩;have hdz:=hbr.trans (hbz.mono (by omega));clear hbz hcr;have htl:(aC (be (aV B) 8)).extract 4 8=aC (be (aV B) 4):=iO _;have hlt:(be (aV B) 4).length=4:=cQ _ 4
     have HR:Hid (B++be (aV B) 4=cH ((9:Int).toNat) f.toNat [0,e,b,wa,p,s,q,bl,v,(zs.length:Int)] zs):=by
      show _=bZ _ _ _ _++be (aV (bZ _ _ _ _)) 4
      rw[←HBODY2.out]
     generalize aV B=Z1 at*;go_wp2;go_ret;exact⟨congrArg (fun x=>Ending.returned (Value.string (aC x))) HR.out,hdz⟩
  ·clear HIN hin
   have HBODY:Hid ((H++be q 8)=bZ ((10:Int).toNat) f.toNat [0,e,b,wa,p,s,q,bl,v,(zs.length:Int)] zs):=by
    unfold Hid;rw[HH'.out];show _=[UInt8.ofNat ((10:Int).toNat),UInt8.ofNat f.toNat]++(cT.getD 10 []).flatMap _
    simp[cT,cE]
   go_wp2_with fail
   refine(dK q _).mono ?_;rintro r w0 ⟨rfl,hb0⟩;have hc0:∀i,w0.cell? ⟨w.heap.size,i,Z⟩=#[I T 10,I T f,I T e,I T b,I T wa,I T p,I T s,I T q,I T bl,I T v,J a zs.length c][i]?:=fun i=>(hb0.cell (p:=⟨w.heap.size,i,Z⟩) hsw).trans (hcw i);have hs0:w.heap.size<w0.heap.size:=Nat.lt_of_lt_of_le hsw hb0.size;have hd0:=hbw.trans (hb0.mono (by omega));clear hcw hb0
   go_wp2_with fail
   generalize hB:(H++be q 8)=B at HBODY⊢;have hlB:B.length=18:=by rw[←hB];simp[cQ,hlH]
   clear hB;refine(iN B _ (by omega)).mono ?_;rintro r wy ⟨rfl,rfl⟩
   go_wp2_with fail
   refine(dK (aV B) _).mono ?_;rintro r wz ⟨rfl,hbz⟩;have hdz:=hd0.trans (hbz.mono (by omega));clear hbz hc0;have htl:(aC (be (aV B) 8)).extract 4 8=aC (be (aV B) 4):=iO _;have hlt:(be (aV B) 4).length=4:=cQ _ 4
   have HR:Hid (B++be (aV B) 4=cH ((10:Int).toNat) f.toNat [0,e,b,wa,p,s,q,bl,v,(zs.length:Int)] zs):=by
    show _=bZ _ _ _ _++be (aV (bZ _ _ _ _)) 4
    rw[←HBODY.out]
   generalize aV B=Z1 at*;go_wp2;go_ret;exact⟨congrArg (fun x=>Ending.returned (Value.string (aC x))) HR.out,hdz⟩
end
section
open Value (bool)
set_option maxRecDepth 20000
theorem xF{k f e b wa p s q bl v:Int}{zs:List Int}(h:aN k f [0,e,b,wa,p,s,q,bl,v,(zs.length:Int)]=true):1<=k/\k<=10/\0<=f/\f<5/\zs.length<=4/\(k≠9->zs=[]):=by
 unfold aN at h;rw[Bool.and_eq_true,Bool.not_eq_true']at h;obtain⟨h1,h2⟩:=h;unfold eU at h1;rw[decide_eq_false_iff_not]at h1;have hk:1<=k/\k<=10/\0<=f/\f<5:=by omega
 refine⟨hk.1,hk.2.1,hk.2.2.1,hk.2.2.2,?_⟩;rcases(show k=1∨k=2∨k=3∨k=4∨k=5∨k=6∨k=7∨k=8∨k=9∨k=10 by omega) with rfl|rfl|rfl|rfl|rfl|rfl|rfl|rfl|rfl|rfl
 ·have h3:=(jH e b wa p s q bl v (zs.length:Int)).mp h2;rw[←List.length_eq_zero_iff];omega
 ·have h3:=(lB e b wa p s q bl v (zs.length:Int)).mp h2;rw[←List.length_eq_zero_iff];omega
 ·have h3:=(jI e b wa p s q bl v (zs.length:Int)).mp h2;rw[←List.length_eq_zero_iff];omega
 ·have h3:=(lC e b wa p s q bl v (zs.length:Int)).mp h2;rw[←List.length_eq_zero_iff];omega
 ·have h3:=(lE e b wa p s q bl v (zs.length:Int)).mp h2;rw[←List.length_eq_zero_iff];omega
 ·have h3:=(jJ e b wa p s q bl v (zs.length:Int)).mp h2;rw[←List.length_eq_zero_iff];omega
 ·have h3:=(kA e b wa p s q bl v (zs.length:Int)).mp h2;rw[←List.length_eq_zero_iff];omega
 ·have h3:=(lF e b wa p s q bl v (zs.length:Int)).mp h2;rw[←List.length_eq_zero_iff];omega
 ·have h3:=(kB e b wa p s q bl v (zs.length:Int)).mp h2;rw[←List.length_eq_zero_iff];omega
 ·have h3:=(kT e b wa p s q bl v (zs.length:Int)).mp h2;rw[←List.length_eq_zero_iff];omega
theorem mH(k f e b wa p s q bl v:Int)(a:Option Addr)(c:Nat)(zs:List Int)(w:World)(bk:-9223372036854775808<=k/\k<=9223372036854775807)(bv:-9223372036854775808<=v/\v<=9223372036854775807)(h1:bG w a zs)(hm:aN k f [0,e,b,wa,p,s,q,bl,v,(zs.length:Int)]=true):
  Calls pG 63 #[.agg #[I T k,I T f,I T e,I T b,I T wa,I T p,I T s,I T q,I T bl,I T v,J a zs.length c]] w fun r w'=>r=.returned (.tuple #[.string (aC (cH k.toNat f.toNat [0,e,b,wa,p,s,q,bl,v,(zs.length:Int)] zs)),I T 0])/\Below w.heap.size w w':=by
 obtain⟨x1,x2,x3,x4,x5,x6⟩:=xF hm;have hb0:=(Below.refl w.heap.size w).alloc (Nat.le_refl _) (G #[I T k,I T f,I T e,I T b,I T wa,I T p,I T s,I T q,I T bl,I T v,J a zs.length c] 136);have hc0:∀i,(w.alloc (G #[I T k,I T f,I T e,I T b,I T wa,I T p,I T s,I T q,I T bl,I T v,J a zs.length c] 136)).cell? ⟨w.heap.size,i,Z⟩=#[I T k,I T f,I T e,I T b,I T wa,I T p,I T s,I T q,I T bl,I T v,J a zs.length c][i]?:=fun i=>World.cell?_alloc_at _ _ _ _ rfl;have hs0:(w.alloc (G #[I T k,I T f,I T e,I T b,I T wa,I T p,I T s,I T q,I T bl,I T v,J a zs.length c] 136)).heap.size=w.heap.size+1:=by simp
 have h10:=h1.later hb0;go_enter Tryz.func63,Tryz.ntmps63
 go_wp2_with fail
 generalize (w.alloc (G #[I T k,I T f,I T e,I T b,I T wa,I T p,I T s,I T q,I T bl,I T v,J a zs.length c] 136))=W0 at*;refine(rJ k f e b wa p s q bl v a c zs W0 (by omega) bk bv h10).mono ?_;rintro r w1 ⟨rfl,hb1⟩;rw[hm];have hc1:∀i,w1.cell? ⟨w.heap.size,i,Z⟩=#[I T k,I T f,I T e,I T b,I T wa,I T p,I T s,I T q,I T bl,I T v,J a zs.length c][i]?:=fun i=>(hb1.cell (by show w.heap.size<_;omega)).trans (hc0 i);have hd1:=hb0.trans (hb1.mono (by omega));have hs1:=hb1.size;have h11:=h1.later hd1;clear hb0 hb1 hc0 h1 h10 hm;have hq:w.heap.size<w1.heap.size:=by omega
 have HX6:Hid _:=x6;clear x6
 go_wp2_with fail
 refine(sI k f e b wa p s q bl v a c zs w1 x1 x2 x3 x4 x5 HX6.out h11).mono ?_;rintro r w2 ⟨rfl,hb2⟩;have hd2:=hd1.trans (hb2.mono (by omega));clear hb2 hc1;go_wp2
 go_ret2
 exact⟨rfl,hd2⟩
theorem qZ(k f e b wa p s q bl v:Int)(a:Option Addr)(c:Nat)(zs:List Int)(w:World)(hl:zs.length<=9223372036854775807)(bk:-9223372036854775808<=k/\k<=9223372036854775807)(bv:-9223372036854775808<=v/\v<=9223372036854775807)(h1:bG w a zs)(hm:aN k f [0,e,b,wa,p,s,q,bl,v,(zs.length:Int)]=false):
  Calls pG 63 #[.agg #[I T k,I T f,I T e,I T b,I T wa,I T p,I T s,I T q,I T bl,I T v,J a zs.length c]] w fun r w'=>r=.returned (.tuple #[.string (aC []),I T 1])/\Below w.heap.size w w':=by
 have hb0:=(Below.refl w.heap.size w).alloc (Nat.le_refl _) (G #[I T k,I T f,I T e,I T b,I T wa,I T p,I T s,I T q,I T bl,I T v,J a zs.length c] 136);have h10:=h1.later hb0;go_enter Tryz.func63,Tryz.ntmps63
 go_wp2_with fail
 refine(rJ k f e b wa p s q bl v a c zs _ hl bk bv h10).mono ?_;rintro r w1 ⟨rfl,hb1⟩;rw[hm];have hd1:=hb0.trans (hb1.mono (by simp));clear hb0 hb1 h1 h10 hm;go_wp2
 go_ret2
 exact⟨rfl,hd1⟩
structure fE where
 K:Int
 A:Int
 B:Int
 C:Int
 S:ByteArray
def fE.cells(o:fE):List Value:=[I T o.K,I T o.A,I T o.B,I T o.C,.string o.S]
def fE.ok(o:fE):Prop:=(-9223372036854775808<=o.A/\o.A<=9223372036854775807)/\(-9223372036854775808<=o.B/\o.B<=9223372036854775807)/\o.S.size<=maxLen
def jL(w:World)(ao:Option Addr)(os:List fE):Prop:=
 os=[]∨∃g off,ao=Y ⟨g,off,Z⟩/\g<w.heap.size/\∀j (h:j<os.length) i,i<5->w.cell? ⟨g,off+j*5+i,Z⟩=Y (os[j].cells.getD i undef)
def oC:Array Value:=#[I T 4,I T 1,I T 2,I T 7,I T 0,I T 0,I T 0,I T 0,I T 0,I T 0,J Z 0 0,I T 2,I T 0,I T 0,I T 6,I T 0,I T 0,I T 0,I T 0,I T 0,I T 0,J Z 0 0,I T 4,I T 0,I T 0,I T 6,I T 0,I T 0,I T 0,I T 0,I T 0,I T 0,J Z 0 0]
def rK:Array Value:=#[I T 0,I T 0,I T 7,I T 1,I T 2,I T 6]
theorem A8(w:World):
  Calls pG 28 #[] w fun r w'=>r=.returned (.agg #[J (Y ⟨w.heap.size+1,0,Z⟩) 3 3,J (Y ⟨w.heap.size+1+1,0,Z⟩) 2 2])/\Below w.heap.size w w'/\w'.heap.size=w.heap.size+3/\
   (∀i,w'.cell? ⟨w.heap.size+1,i,Z⟩=oC[i]?)/\(∀i,w'.cell? ⟨w.heap.size+1+1,i,Z⟩=rK[i]?):=by
 go_enter Tryz.func28,Tryz.ntmps28;go_wp2
 exact bodyPost_ret (v:=.agg #[J (Y ⟨w.heap.size+1,0,Z⟩) 3 3,J (Y ⟨w.heap.size+1+1,0,Z⟩) 2 2]) (by simp[results,Tryz.results28,go_sem]) rfl ⟨rfl,(((Below.refl _ _).alloc (Nat.le_refl _) _).alloc (by simp) _).alloc (by simp;omega) _,by simp,fun i=>by
  rw[World.cell?_alloc_past _ _ _ (by simp),World.cell?_alloc_at _ _ _ _ (by simp)];rfl,fun i=>by rw[World.cell?_alloc_at _ _ _ _ (by simp)];rfl⟩
def lJ:List UInt8:=cH 4 1 [0,2,7,0,0,0,0,0,0,0] []
def lK:List UInt8:=cH 1 0 [0,0,5,0,0,0,0,0,0,0] []
def gZ:List fE:=[⟨1,0,0,0,⟨#[]⟩⟩,⟨2,0,0,0,aC lJ⟩,⟨3,0,1,0,⟨#[]⟩⟩,⟨4,1,3,2,⟨#[]⟩⟩,⟨5,0,0,0,⟨#[]⟩⟩,⟨6,0,0,0,aC lK⟩,⟨9,0,0,0,⟨#[]⟩⟩,⟨17,0,0,0,⟨#[]⟩⟩,⟨10,0,2,0,⟨#[]⟩⟩,⟨7,0,1,0,⟨#[]⟩⟩,⟨7,0,2,0,⟨#[]⟩⟩,⟨12,0,0,9,⟨#[]⟩⟩,⟨15,0,0,0,⟨#[]⟩⟩,⟨14,0,0,0,⟨#[]⟩⟩]
theorem KA:aN 4 1 [0,2,7,0,0,0,0,0,0,(([]:List Int).length:Int)]=true:=by kernel_rfl
theorem KB:aN 1 0 [0,0,5,0,0,0,0,0,0,(([]:List Int).length:Int)]=true:=by kernel_rfl
theorem A9:∀o∈gZ,o.ok:=by
 have e1:(aC lJ).size=22:=by kernel_rfl
 have e2:(aC lK).size=22:=by kernel_rfl
 have e3:(⟨#[]⟩:ByteArray).size=0:=rfl;have em:maxLen=9223372036854775807:=rfl;intro o ho;simp only[gZ,List.mem_cons,List.not_mem_nil,or_false]at ho;rcases ho with rfl|rfl|rfl|rfl|rfl|rfl|rfl|rfl|rfl|rfl|rfl|rfl|rfl|rfl
 all_goals(refine⟨by simp,by simp,?_⟩)
 all_goals(simp only[e1,e2,e3,em])
 all_goals omega
theorem xG(w:World):
  Calls pG 29 #[] w fun r w'=>∃g,r=.returned (J (Y ⟨g,0,Z⟩) 14 14)/\w.heap.size<=g/\g<w'.heap.size/\Below w.heap.size w w'/\jL w' (Y ⟨g,0,Z⟩) gZ:=by
 have n0:∀w:World,bG w none []:=fun _=>.inl rfl;go_enter Tryz.func29,Tryz.ntmps29
 go_wp2_with fail
 refine(mH 4 1 2 7 0 0 0 0 0 0 none 0 [] _ (by omega) (by omega) (n0 _) KA).mono ?_;rintro r w1 ⟨rfl,hb1⟩;rw[show cH ((4:Int).toNat) ((1:Int).toNat) [0,2,7,0,0,0,0,0,0,(([]:List Int).length:Int)] []=lJ from rfl]
 go_wp2_with fail
 refine(mH 1 0 0 5 0 0 0 0 0 0 none 0 [] _ (by omega) (by omega) (n0 _) KB).mono ?_;rintro r w2 ⟨rfl,hb2⟩;rw[show cH ((1:Int).toNat) ((0:Int).toNat) [0,0,5,0,0,0,0,0,0,(([]:List Int).length:Int)] []=lK from rfl];have hb:=hb1.trans (hb2.mono hb1.size);have hz:=hb.size;have HE:Hid (gZ=[⟨1,0,0,0,⟨#[]⟩⟩,⟨2,0,0,0,aC lJ⟩,⟨3,0,1,0,⟨#[]⟩⟩,⟨4,1,3,2,⟨#[]⟩⟩,⟨5,0,0,0,⟨#[]⟩⟩,⟨6,0,0,0,aC lK⟩,⟨9,0,0,0,⟨#[]⟩⟩,⟨17,0,0,0,⟨#[]⟩⟩,⟨10,0,2,0,⟨#[]⟩⟩,⟨7,0,1,0,⟨#[]⟩⟩,⟨7,0,2,0,⟨#[]⟩⟩,⟨12,0,0,9,⟨#[]⟩⟩,⟨15,0,0,0,⟨#[]⟩⟩,⟨14,0,0,0,⟨#[]⟩⟩]):=rfl;generalize aC lJ=SS at*;generalize aC lK=PP at*;go_wp2;go_ret;refine⟨w2.heap.size,rfl,hz,by simp,hb.alloc hz _,?_⟩;rw[HE.out];refine .inr ⟨w2.heap.size,0,rfl,by simp,?_⟩;intro j hj i hi;rw[World.cell?_alloc_at _ _ _ _ rfl];simp only[List.length_cons,List.length_nil]at hj;rcases(show j=0∨j=1∨j=2∨j=3∨j=4∨j=5∨j=6∨j=7∨j=8∨j=9∨j=10∨j=11∨j=12∨j=13 by omega) with rfl|rfl|rfl|rfl|rfl|rfl|rfl|rfl|rfl|rfl|rfl|rfl|rfl|rfl
 all_goals(rcases(show i=0∨i=1∨i=2∨i=3∨i=4 by omega) with rfl|rfl|rfl|rfl|rfl)
 all_goals rfl
end
section
open Value (bool)
structure bM(base R:Nat)(w w':World):Prop where
 os:w'.os=w.os
 tape:w'.tape=w.tape
 output:w'.output=w.output
 size:w.heap.size<=w'.heap.size
 block:∀k,k<base->k≠R->w'.heap[k]?=w.heap[k]?
theorem bM.refl(base R:Nat)(w:World):bM base R w w:=⟨rfl,rfl,rfl,Nat.le_refl _,fun _ _ _=>rfl⟩
theorem bM.trans{base R:Nat}{a b c:World}(h:bM base R a b)(k:bM base R b c):bM base R a c:=
 ⟨k.os.trans h.os,k.tape.trans h.tape,k.output.trans h.output,Nat.le_trans h.size k.size,fun x hx hy=>(k.block x hx hy).trans (h.block x hx hy)⟩
theorem bM.of_below{base R B:Nat}{w w':World}(h:Below B w w')(hB:base<=B):bM base R w w':=
 ⟨h.os,h.tape,h.output,h.size,fun k hk _=>h.block k (by omega)⟩
theorem bM.below{base R B:Nat}{w w':World}(h:bM base R w w')(h1:B<=base)(h2:B<=R):Below B w w':=
 ⟨h.os,h.tape,h.output,h.size,fun k hk=>h.block k (by omega) (by omega)⟩
theorem bM.cell{base R:Nat}{w w':World}(h:bM base R w w'){p:Addr}(h1:p.block<base)(h2:p.block≠R):w'.cell? p=w.cell? p:=World.cell?_of_block (w:=w) (h.block p.block h1 h2)
theorem jL.saved{base R:Nat}{w w':World}{g off:Nat}{os:List fE}(h:jL w (Y ⟨g,off,Z⟩) os)(hs:bM base R w w')(h1:g<base)(h2:g≠R):jL w' (Y ⟨g,off,Z⟩) os:=by
 rcases h with h|⟨g',o',he,hg,hc⟩
 ·exact .inl h
 ·cases he;exact .inr ⟨g,off,rfl,Nat.lt_of_lt_of_le hg hs.size,fun j hj i hi=>(hs.cell h1 h2).trans (hc j hj i hi)⟩
def G5(gm gr:Value):Array Value:=#[gm,gr,J Z 0 0,J Z 0 0,J Z 0 0,J Z 0 0,J Z 0 0,J Z 0 0,J Z 0 0]
structure iD(w:World)(R:Nat)(gm gr:Value):Prop where
 lt:R<w.heap.size
 cell:∀i,w.cell? ⟨R,i,Z⟩=(G5 gm gr)[i]?
 free:∀i,w.frozen? ⟨R,i,Z⟩=false
theorem iD.later{w w':World}{R:Nat}{gm gr:Value}(h:iD w R gm gr)(hb:Below w.heap.size w w'):iD w' R gm gr:=
 ⟨Nat.lt_of_lt_of_le h.lt hb.size,fun i=>(hb.cell h.lt).trans (h.cell i),fun i=>(hb.frozen h.lt).trans (h.free i)⟩
theorem iD.new(w:World)(gm gr:Value):iD (w.alloc (G #[gm,gr,J Z 0 0,J Z 0 0,J Z 0 0,J Z 0 0,J Z 0 0,J Z 0 0,J Z 0 0] 90)) w.heap.size gm gr:=
 ⟨by simp,fun i=>World.cell?_alloc_at _ _ _ _ rfl,fun i=>by simp⟩
def fS(n:Nat)(o:Int):Nat:=n&&&(31 - (o%32).toNat)
theorem oT(n:Nat)(o:Int):fS n o<32:=by
 have:fS n o<2 ^ 5:=Nat.and_lt_two_pow _ (by omega);omega
theorem rM(n:Nat)(o:Int)(hn:n<32):bits .andNot .i64 (n:Int) o=(fS n o:Int):=by
 have e1:(BitVec.ofInt 64 (n:Int)).toNat=n:=by rw[BitVec.ofInt_natCast,BitVec.toNat_ofNat];exact Nat.mod_eq_of_lt (by omega)
 have e2:(~~~ BitVec.ofInt 64 o).toNat=2 ^ 64 - 1 - (o%((2 ^ 64:Nat):Int)).toNat:=by rw[BitVec.toNat_not,BitVec.toNat_ofInt]
 have e3:n&&&(~~~ BitVec.ofInt 64 o).toNat=fS n o:=by
  have h31:n=n&&&(2 ^ 5 - 1):=by rw[Nat.and_two_pow_sub_one_eq_mod];omega
  conv=>lhs;rw[h31]
  rw[Nat.and_assoc,Nat.and_comm (2 ^ 5 - 1) _,Nat.and_two_pow_sub_one_eq_mod,e2];unfold fS
  congr 1
  omega
 show IntKind.i64.wrap ((BitVec.ofInt 64 (n:Int)&&&~~~ BitVec.ofInt 64 o).toNat:Int)=_
 rw[BitVec.toNat_and,e1,e3,IntKind.wrap_i64];have:=oT n o;omega
theorem vT(oE oP oS nE nP:Int)(S:Nat)(w:World)(hS:S<32):
  Calls pG 184 #[.agg #[I T oE,I T oP,I T oS],.agg #[I T nE,I T nP,I T S]] w fun e w'=>e=.returned (.bool (((fS S oS:Nat):Int)==0))/\Below w.heap.size w w':=by
 have hb0:=((Below.refl w.heap.size w).alloc (Nat.le_refl _) (G #[I T oE,I T oP,I T oS] 66)).alloc (by simp) (G #[I T nE,I T nP,I T S] 66);go_enter Tryz.func184,Tryz.ntmps184
 go_wp2_with fail
 refine(rF oE oP oS nE nP S _).mono ?_;rintro e w1 ⟨rfl,hb1⟩;rw[rM S oS hS];have hb:=hb0.trans (hb1.mono (by simp;omega));go_wp2;go_ret;exact⟨rfl,hb⟩
def jB(oP oS nP:Int)(S:Nat):Bool:=decide (jD (fS S oS)=1/\nP=oP/\(S:Int)=bits .or .i64 oS (fS S oS:Int))
theorem xH(oE oP oS nE nP:Int)(S:Nat)(w:World)(hS:S<32):
  Calls pG 185 #[.agg #[I T oE,I T oP,I T oS],.agg #[I T nE,I T nP,I T S]] w fun e w'=>e=.returned (.bool (jB oP oS nP S))/\Below w.heap.size w w':=by
 have hb0:=((Below.refl w.heap.size w).alloc (Nat.le_refl _) (G #[I T oE,I T oP,I T oS] 66)).alloc (by simp) (G #[I T nE,I T nP,I T S] 66);have HO:Hid (jB oP oS nP S=decide (jD (fS S oS)=1/\nP=oP/\(S:Int)=bits .or .i64 oS (fS S oS:Int))):=rfl;go_enter Tryz.func185,Tryz.ntmps185
 go_wp2_with fail
 refine(rF oE oP oS nE nP S _).mono ?_;rintro e w1 ⟨rfl,hb1⟩;rw[rM S oS hS];have hM:=oT S oS;have hb:=hb0.trans (hb1.mono (by simp;omega));have hc:∀i,w1.cell? ⟨w.heap.size,i,Z⟩=#[I T oE,I T oP,I T oS][i]?:=fun i=>(hb1.cell (by show w.heap.size<_;simp;omega)).trans (by rw[World.cell?_alloc_past _ _ _ (by simp),World.cell?_alloc_at _ _ _ _ rfl]);have hd:∀i,w1.cell? ⟨w.heap.size+1,i,Z⟩=#[I T nE,I T nP,I T S][i]?:=fun i=>(hb1.cell (by show w.heap.size+1<_;simp)).trans (World.cell?_alloc_at _ _ _ _ (by simp));have q0:w.heap.size<w1.heap.size:=by have:=hb1.size;simp at this;omega
 have q1:w.heap.size+1<w1.heap.size:=by have:=hb1.size;simp at this;omega
 clear hb1 hb0;generalize fS S oS=M at*
 go_wp2_with fail
 refine(uZ M _ hM).mono ?_;rintro e w2 ⟨rfl,rfl⟩
 by_cases hp:jD M=1
 ·have hp1:(((jD M:Nat):Int)==1)=true:=by simp;omega
  go_wp2
  all_goals go_ret
  all_goals refine⟨dW ?_,hb.alloc (by omega) _⟩
  all_goals rw[HO.out]
  all_goals simp[*]
 ·have hp1:(((jD M:Nat):Int)==1)=false:=by simp;omega
  have HF:Hid (jB oP oS nP S=false):=by unfold Hid;rw[HO.out];simp[hp]
  go_wp2;go_ret
  exact⟨dW HF.out.symm,hb.alloc (by omega) _⟩
def gM(oE oP oS nE nP nS:Int):Bool:=gY oE nE&&(iA nP nS&&((((fS nS.toNat oS:Nat):Int)==0) || jB oP oS nP nS.toNat))
theorem xI{nP nS:Int}(h:iA nP nS=true):1<=nP/\nP<=5/\1<=nS/\nS<=31:=by
 unfold iA at h;rw[Bool.and_eq_true,decide_eq_true_eq]at h;exact h.1
theorem qC(oE oP oS nE nP nS:Int)(w:World)(h1:-9223372036854775808<=oE)(h2:oE<=9223372036854775807):
  Calls pG 134 #[.agg #[I T oE,I T oP,I T oS],.agg #[I T nE,I T nP,I T nS]] w fun e w'=>e=.returned (.bool (gM oE oP oS nE nP nS))/\Below w.heap.size w w':=by
 have hb0:=((Below.refl w.heap.size w).alloc (Nat.le_refl _) (G #[I T oE,I T oP,I T oS] 66)).alloc (by simp) (G #[I T nE,I T nP,I T nS] 66);have HF:Hid (gM oE oP oS nE nP nS=(gY oE nE&&(iA nP nS&&((((fS nS.toNat oS:Nat):Int)==0) || jB oP oS nP nS.toNat)))):=rfl;have hc:∀i,((w.alloc (G #[I T oE,I T oP,I T oS] 66)).alloc (G #[I T nE,I T nP,I T nS] 66)).cell? ⟨w.heap.size,i,Z⟩=#[I T oE,I T oP,I T oS][i]?:=fun i=>by rw[World.cell?_alloc_past _ _ _ (by simp),World.cell?_alloc_at _ _ _ _ rfl]
 have hd:∀i,((w.alloc (G #[I T oE,I T oP,I T oS] 66)).alloc (G #[I T nE,I T nP,I T nS] 66)).cell? ⟨w.heap.size+1,i,Z⟩=#[I T nE,I T nP,I T nS][i]?:=fun i=>World.cell?_alloc_at _ _ _ _ (by simp);have hs0:((w.alloc (G #[I T oE,I T oP,I T oS] 66)).alloc (G #[I T nE,I T nP,I T nS] 66)).heap.size=w.heap.size+2:=by simp
 go_enter Tryz.func134,Tryz.ntmps134
 go_wp2_with fail
 generalize ((w.alloc (G #[I T oE,I T oP,I T oS] 66)).alloc (G #[I T nE,I T nP,I T nS] 66))=W0 at*;refine(AV oE nE W0 h1 h2).mono ?_;rintro e w1 ⟨rfl,rfl⟩
 cases he:gY oE nE with
 |false=>
  have H:Hid (gM oE oP oS nE nP nS=false):=by unfold Hid;rw[HF.out,he];rfl
  clear he;go_wp2;go_ret;exact⟨dW H.out.symm,hb0⟩
 |true=>
  go_wp2_with fail
  refine(CS nE nP nS _).mono ?_;rintro e w2 ⟨rfl,hb2⟩;have hbw:=hb0.trans (hb2.mono (by omega))
  cases hp:iA nP nS with
  |false=>
   have H:Hid (gM oE oP oS nE nP nS=false):=by unfold Hid;rw[HF.out,he,hp];rfl
   clear he hp;go_wp2;go_ret;exact⟨dW H.out.symm,hbw⟩
  |true=>
   obtain⟨r1,r2,r3,r4⟩:=xI hp;have HE:Hid _:=he;have HP:Hid _:=hp;clear he hp;obtain⟨S,rfl⟩:=Int.eq_ofNat_of_zero_le (show 0<=nS by omega);have hc2:∀i,w2.cell? ⟨w.heap.size,i,Z⟩=_:=fun i=>(hb2.cell (by show w.heap.size<_;omega)).trans (hc i);have hd2:∀i,w2.cell? ⟨w.heap.size+1,i,Z⟩=_:=fun i=>(hb2.cell (by show w.heap.size+1<_;omega)).trans (hd i);have hs2:=hb2.size;clear hc hd hb2
   go_wp2_with fail
   refine(vT oE oP oS nE nP S w2 (by omega)).mono ?_;rintro e w3 ⟨rfl,hb3⟩;have hbw3:=hbw.trans (hb3.mono (by omega))
   cases hn:(((fS S oS:Nat):Int)==0) with
   |true=>
    have H:Hid (gM oE oP oS nE nP S=true):=by unfold Hid;rw[HF.out,HE.out,HP.out,Int.toNat_natCast,hn];rfl
    clear hn;go_wp2;go_ret;exact⟨dW H.out.symm,hbw3⟩
   |false=>
    have HN:Hid _:=hn;clear hn;have hc3:∀i,w3.cell? ⟨w.heap.size,i,Z⟩=_:=fun i=>(hb3.cell (by show w.heap.size<_;omega)).trans (hc2 i);have hd3:∀i,w3.cell? ⟨w.heap.size+1,i,Z⟩=_:=fun i=>(hb3.cell (by show w.heap.size+1<_;omega)).trans (hd2 i);have hs3:=hb3.size;clear hc2 hd2 hb3
    go_wp2_with fail
    refine(xH oE oP oS nE nP S w3 (by omega)).mono ?_;rintro e w4 ⟨rfl,hb4⟩;have hbw4:=hbw3.trans (hb4.mono (by omega));have H:Hid (gM oE oP oS nE nP S=jB oP oS nP S):=by unfold Hid;rw[HF.out,HE.out,HP.out,Int.toNat_natCast,HN.out];rfl
    clear hc3 hd3 hb4;generalize jB oP oS nP S=O at*;go_wp2;go_ret;exact⟨dW H.out.symm,hbw4⟩
def cN(f:Nat->Bool):Nat->Nat
 |0=>0
 |k+1=>cN f k+if f k then 1 else 0
theorem sZ(f:Nat->Bool)(k:Nat):cN f k<=k:=by
 induction k with
 |zero=>simp[cN]
 |succ k ih=>simp only[cN];split<;>omega
def fZ(o n:Int)(i:Nat):Bool:=eJ n i&&!eJ o i
def gF(o n:Int)(i:Nat):Bool:=eJ o i&&!eJ n i
def kK(o n oP nP:Int):Bool:=decide (cN (fZ o n) 64=0∨cN (fZ o n) 64=1/\cN (gF o n) 64=0/\oP=nP)
def eV(oE oP oS nE nP nS:Int):Bool:=
 decide (0<=oE/\1<=nE/\nE<=1000000000000/\oE=nE - 1/\1<=nS/\nS<=31/\1<=nP/\nP<=5)&&(eJ nS (nP - 1).toNat&&kK oS nS oP nP)
theorem G6(oE oP oS nE nP nS:Int)(w:World)(h:¬(0<=oE/\1<=nE/\nE<=1000000000000/\oE=nE - 1/\1<=nS/\nS<=31/\1<=nP/\nP<=5)):
  Calls pG 109 #[.agg #[I T oE,I T oP,I T oS],.agg #[I T nE,I T nP,I T nS]] w fun e w'=>e=.returned (.bool false)/\Below w.heap.size w w':=by
 have hb0:=((Below.refl w.heap.size w).alloc (Nat.le_refl _) (G #[I T oE,I T oP,I T oS] 66)).alloc (by simp) (G #[I T nE,I T nP,I T nS] 66)
 by_cases c1:oE<0
 ·go_enter Tryz.func109,Tryz.ntmps109;go_wp2;go_ret;exact⟨rfl,hb0⟩
 by_cases c2:nE<1
 ·go_enter Tryz.func109,Tryz.ntmps109;go_wp2;go_ret;exact⟨rfl,hb0⟩
 by_cases c3:1000000000000<nE
 ·go_enter Tryz.func109,Tryz.ntmps109;go_wp2;go_ret;exact⟨rfl,hb0⟩
 by_cases c4:oE=nE - 1
 ·have c4':(oE != nE - 1)=false:=by simp[c4]
  have HC:Hid _:=c4
  by_cases c5:nS<1
  ·clear c4;go_enter Tryz.func109,Tryz.ntmps109;go_wp2;go_ret;exact⟨rfl,hb0⟩
  by_cases c6:31<nS
  ·clear c4;go_enter Tryz.func109,Tryz.ntmps109;go_wp2;go_ret;exact⟨rfl,hb0⟩
  by_cases c7:nP<1
  ·clear c4;go_enter Tryz.func109,Tryz.ntmps109;go_wp2;go_ret;exact⟨rfl,hb0⟩
  have c8:5<nP:=by omega
  clear c4 h;go_enter Tryz.func109,Tryz.ntmps109;go_wp2;go_ret;exact⟨rfl,hb0⟩
 ·have c4':(oE != nE - 1)=true:=by simp[c4]
  go_enter Tryz.func109,Tryz.ntmps109;go_wp2;go_ret;exact⟨rfl,hb0⟩
theorem G7(oE oP oS nE:Int)(P S:Nat)(w:World)(h1:0<=oE)(h2:1<=nE)(h3:nE<=1000000000000)(h4:(oE != nE - 1)=false)(h5:1<=S)(h6:S<=31)(h7:1<=P)(h8:P<=5):
  Calls pG 109 #[.agg #[I T oE,I T oP,I T oS],.agg #[I T nE,I T P,I T S]] w fun e w'=>e=.returned (.bool (eJ S (P - 1)&&kK oS S oP P))/\Below w.heap.size w w':=by
 have hb0:=((Below.refl w.heap.size w).alloc (Nat.le_refl _) (G #[I T oE,I T oP,I T oS] 66)).alloc (by simp) (G #[I T nE,I T P,I T S] 66);have hc:∀i,((w.alloc (G #[I T oE,I T oP,I T oS] 66)).alloc (G #[I T nE,I T P,I T S] 66)).cell? ⟨w.heap.size,i,Z⟩=#[I T oE,I T oP,I T oS][i]?:=fun i=>by rw[World.cell?_alloc_past _ _ _ (by simp),World.cell?_alloc_at _ _ _ _ rfl]
 have hd:∀i,((w.alloc (G #[I T oE,I T oP,I T oS] 66)).alloc (G #[I T nE,I T P,I T S] 66)).cell? ⟨w.heap.size+1,i,Z⟩=#[I T nE,I T P,I T S][i]?:=fun i=>World.cell?_alloc_at _ _ _ _ (by simp);have d1:decide (oE<0)=false:=by simp;omega
 have d2:decide (nE<1)=false:=by simp;omega
 have d3:decide ((1000000000000:Int)<nE)=false:=by simp;omega
 have d4:decide ((S:Int)<1)=false:=by simp;omega
 have d5:decide ((31:Int)<(S:Int))=false:=by simp;omega
 have d6:decide ((P:Int)<1)=false:=by simp;omega
 have d7:decide ((5:Int)<(P:Int))=false:=by simp;omega
 go_enter Tryz.func109,Tryz.ntmps109
 go_wp2_with fail
 generalize ((w.alloc (G #[I T oE,I T oP,I T oS] 66)).alloc (G #[I T nE,I T P,I T S] 66))=W0 at*;rw[show((P:Int) - 1)=((P - 1:Nat):Int) by omega];refine(oR S (P - 1) W0 (by omega)).mono ?_;rintro e w1 ⟨rfl,rfl⟩
 cases hp:eJ S (P - 1) with
 |false=>
  have HPP:Hid _:=hp;clear hp;go_wp2;go_ret;exact⟨dW (by rw[HPP.out];rfl),hb0⟩
 |true=>
  have HPP:Hid _:=hp;clear hp
  go_wp2_with fail
  have hoS:=hc 2;have hnS:=hd 2;have hoP:=hc 1;have hnP:=hd 1;clear hc hd
  go_loop [6,7,8] (fun m l i=>∃k:Nat,k<=64/\i=I T k/\m=I T (cN (fZ oS S) k:Nat)/\l=I T (cN (gF oS S) k:Nat)) (fun _ _ i=>64 - (intOf i).toNat)
  case atStart=>exact⟨0,by omega,rfl,rfl,rfl⟩
  case round=>
   obtain⟨k,hk,rfl,rfl,rfl⟩:=hrel;have m1:=sZ (fZ oS S) k;have m2:=sZ (gF oS S) k
   by_cases hlt:k<64
   ·have HM:Hid (cN (fZ oS S) (k+1)=cN (fZ oS S) k+if(eJ S k&&!eJ oS k) then 1 else 0):=rfl;have HL:Hid (cN (gF oS S) (k+1)=cN (gF oS S) k+if(eJ oS k&&!eJ S k) then 1 else 0):=rfl;generalize cN (fZ oS S) k=mk at*;generalize cN (gF oS S) k=lk at*
    go_wp2_with fail
    refine(oR oS k _ (by omega)).mono ?_;rintro e w2 ⟨rfl,rfl⟩
    go_wp2_with fail
    refine(oR S k _ (by omega)).mono ?_;rintro e w2 ⟨rfl,rfl⟩;cases hA:eJ oS k<;>cases hB:eJ S k
    all_goals
     have HA:Hid _:=hA;have HB:Hid _:=hB;clear hA hB;go_wp2
     go_round
     case rel=>exact⟨k+1,by omega,by go_num,by rw[HM.out,HA.out,HB.out];go_num,by rw[HL.out,HA.out,HB.out];go_num⟩
     case measure=>simp[intOf];omega
   ·have hk64:k=64:=by omega
    subst hk64;have HE:Hid (kK oS S oP P=decide (cN (fZ oS S) 64=0∨cN (fZ oS S) 64=1/\cN (gF oS S) 64=0/\oP=(P:Int))):=rfl;generalize cN (fZ oS S) 64=mk at*;generalize cN (gF oS S) 64=lk at*;go_wp2
    all_goals go_ret
    all_goals refine⟨dW ?_,hb0⟩
    all_goals rw[HE.out,HPP.out,Bool.true_and,Bool.eq_iff_iff]
    all_goals simp only[beq_iff_eq,decide_eq_true_eq,Bool.false_eq_true,true_iff,false_iff]
    all_goals omega
theorem FB(oE oP oS nE nP nS:Int)(w:World):
  Calls pG 109 #[.agg #[I T oE,I T oP,I T oS],.agg #[I T nE,I T nP,I T nS]] w fun e w'=>e=.returned (.bool (eV oE oP oS nE nP nS))/\Below w.heap.size w w':=by
 by_cases h:0<=oE/\1<=nE/\nE<=1000000000000/\oE=nE - 1/\1<=nS/\nS<=31/\1<=nP/\nP<=5
 ·have e:eV oE oP oS nE nP nS=(eJ nS (nP - 1).toNat&&kK oS nS oP nP):=by unfold eV;rw[decide_eq_true h];rfl
  rw[e];obtain⟨g1,g2,g3,g4,g5,g6,g7,g8⟩:=h;obtain⟨P,rfl⟩:=Int.eq_ofNat_of_zero_le (show 0<=nP by omega);obtain⟨S,rfl⟩:=Int.eq_ofNat_of_zero_le (show 0<=nS by omega);have e2:((P:Int) - 1).toNat=P - 1:=by omega
  rw[e2];exact G7 oE oP oS nE P S w g1 g2 g3 (by simp[g4]) (by omega) (by omega) (by omega) (by omega)
 ·have e:eV oE oP oS nE nP nS=false:=by unfold eV;rw[decide_eq_false h];rfl
  rw[e];exact G6 oE oP oS nE nP nS w h
theorem BA(f:Nat->Bool)(k:Nat):∀n,k<=n->(∀i,k<=i->i<n->f i=false)->cN f n=cN f k:=by
 intro n
 induction n with
 |zero=>intro h _;rw[show k=0 by omega]
 |succ n ih=>
  intro h hf
  by_cases e:k=n+1
  ·rw[e]
  ·rw[cN,ih (by omega) (fun i h1 h2=>hf i h1 (by omega)),hf n (by omega) (by omega)];simp
theorem zH(f g:Nat->Bool):∀n,(∀i,i<n->f i=g i)->cN f n=cN g n:=by
 intro n
 induction n with
 |zero=>intro _;rfl
 |succ n ih=>intro h;rw[cN,cN,ih (fun i hi=>h i (by omega)),h n (by omega)]
theorem rN(f:Nat->Bool):∀n,cN f n=0↔∀i,i<n->f i=false:=by
 intro n
 induction n with
 |zero=>simp[cN]
 |succ n ih=>
  rw[cN];constructor
  ·intro h i hi;have h1:cN f n=0:=by omega
   have h2:f n=false:=by
    cases hf:f n with
    |false=>rfl
    |true=>rw[hf]at h;simp at h
   by_cases e:i=n
   ·rw[e];exact h2
   ·exact ih.1 h1 i (by omega)
  ·intro h;rw[ih.2 (fun i hi=>h i (by omega)),h n (by omega)];rfl
theorem oU(o:Int)(i:Nat)(hi:i<5):eJ o i=eJ (((o%32).toNat:Nat):Int) i:=by
 unfold eJ;have h0:0<=o%32:=Int.emod_nonneg _ (by omega);rw[Int.toNat_of_nonneg h0]
 match i,hi with
 |0,_=>simp only[Int.pow_zero];congr 1;simp only[eq_iff_iff];omega
 |1,_=>rw[show(2:Int) ^ 1=2 from rfl];congr 1;simp only[eq_iff_iff];omega
 |2,_=>rw[show(2:Int) ^ 2=4 from rfl];congr 1;simp only[eq_iff_iff];omega
 |3,_=>rw[show(2:Int) ^ 3=8 from rfl];congr 1;simp only[eq_iff_iff];omega
 |4,_=>rw[show(2:Int) ^ 4=16 from rfl];congr 1;simp only[eq_iff_iff];omega
theorem oK(S i:Nat)(hS:S<32)(hi:5<=i):eJ (S:Int) i=false:=by
 unfold eJ
 have h:(S:Int) / 2 ^ i=0:=by
  apply Int.ediv_eq_zero_of_lt (by omega);have h1:(2:Nat) ^ 5<=2 ^ i:=Nat.pow_le_pow_right (by omega) hi;have h2:((2 ^ i:Nat):Int)=(2:Int) ^ i:=by simp
  omega
 rw[h]
 decide
theorem DI(o:Int)(h1:-9223372036854775808<=o)(h2:o<=9223372036854775807)(h:¬(0<=o/\o<32)):∃i,5<=i/\i<64/\eJ o i=true:=by
 by_cases hn:o<0
 ·refine⟨63,by omega,by omega,?_⟩;unfold eJ;rw[show(2:Int) ^ 63=9223372036854775808 from rfl,decide_eq_true_eq];omega
 ·obtain⟨n,rfl⟩:=Int.eq_ofNat_of_zero_le (show 0<=o by omega);have hn0:n≠0:=by omega
  have a1:=Nat.log2_self_le hn0;have a2:=@Nat.lt_log2_self n
  have b1:5<=n.log2:=by
   rcases Nat.lt_or_ge n.log2 5 with c|c
   ·have:2 ^ (n.log2+1)<=2 ^ 5:=Nat.pow_le_pow_right (by omega) (by omega);omega
   ·exact c
  have b2:n.log2<64:=by
   rcases Nat.lt_or_ge n.log2 64 with c|c
   ·exact c
   ·have:2 ^ 64<=2 ^ n.log2:=Nat.pow_le_pow_right (by omega) c;omega
  refine⟨n.log2,b1,b2,?_⟩;unfold eJ
  have e:(n:Int) / 2 ^ n.log2=1:=by
   have:n / 2 ^ n.log2=1:=by
    apply Nat.div_eq_of_lt_le
    ·simpa using a1
    ·rw[Nat.pow_succ]at a2;omega
   have h3:((n / 2 ^ n.log2:Nat):Int)=(n:Int) / 2 ^ n.log2:=by simp
   rw[←h3,this];rfl
  rw[e]
  decide
theorem I8(S M:Nat)(o:Int)(hS:S<32)(hM:M<32)(h1:-9223372036854775808<=o)(h2:o<=9223372036854775807):
  (S:Int)=bits .or .i64 o (M:Int)↔(0<=o/\o<32)/\(o%32).toNat ||| M=S:=by
 have e2:(BitVec.ofInt 64 (M:Int)).toNat=M:=by rw[BitVec.ofInt_natCast,BitVec.toNat_ofNat];exact Nat.mod_eq_of_lt (by omega)
 have e1:(BitVec.ofInt 64 o).toNat=(o%18446744073709551616).toNat:=by rw[BitVec.toNat_ofInt];rfl
 have e0:bits .or .i64 o (M:Int)=IntKind.i64.wrap ((((o%18446744073709551616).toNat ||| M:Nat)):Int):=by
  show IntKind.i64.wrap ((BitVec.ofInt 64 o ||| BitVec.ofInt 64 (M:Int)).toNat:Int)=_
  rw[BitVec.toNat_or,e1,e2]
 rw[e0,IntKind.wrap_i64];have hlt:(o%18446744073709551616).toNat ||| M<2 ^ 64:=Nat.or_lt_two_pow (by omega) (by omega)
 have hle:(o%18446744073709551616).toNat<=(o%18446744073709551616).toNat ||| M:=Nat.left_le_or
 constructor
 ·intro h;have e3:(o%18446744073709551616).toNat ||| M=S:=by omega
  have e4:0<=o/\o<32:=by omega
  refine⟨e4,?_⟩;rw[←e3]
  congr 1
  omega
 ·rintro⟨h3,h4⟩;have e5:(o%18446744073709551616).toNat=(o%32).toNat:=by omega
  rw[e5,h4];omega
theorem small:∀S,S<32->∀r,r<32->((S&&&(31 - r)=0↔cN (fZ (r:Nat) (S:Nat)) 5=0)/\(jD (S&&&(31 - r))=1↔cN (fZ (r:Nat) (S:Nat)) 5=1)/\((r ||| (S&&&(31 - r))=S)↔cN (gF (r:Nat) (S:Nat)) 5=0)):=by
 decide +kernel
theorem FC(oP oS nP:Int)(S:Nat)(hS:S<32)(h1:-9223372036854775808<=oS)(h2:oS<=9223372036854775807):
  ((((fS S oS:Nat):Int)==0) || jB oP oS nP S)=kK oS S oP nP:=by
 have hr:(oS%32).toNat<32:=by omega
 obtain⟨s1,s2,s3⟩:=small S hS _ hr
 have m5:cN (fZ oS S) 64=cN (fZ (((oS%32).toNat:Nat):Int) S) 5:=by
  rw[BA _ 5 64 (by omega) (fun i h3 _=>by unfold fZ;rw[oK S i hS h3];rfl)];exact zH _ _ 5 (fun i hi=>by unfold fZ;rw[oU oS i hi])
 have l5:cN (gF oS S) 64=0↔(0<=oS/\oS<32)/\cN (gF (((oS%32).toNat:Nat):Int) S) 5=0:=by
  rw[rN,rN];constructor
  ·intro h;refine⟨?_,fun i hi=>?_⟩
   ·by_cases c:0<=oS/\oS<32
    ·exact c
    ·obtain⟨i,i1,i2,i3⟩:=DI oS h1 h2 c;have:=h i i2;unfold gF at this;rw[i3,oK S i hS i1]at this;cases this
   ·have:=h i (by omega);unfold gF at this⊢;rw[←oU oS i hi];exact this
  ·rintro⟨h3,h4⟩ i hi
   by_cases c:i<5
   ·have:=h4 i c;unfold gF at this⊢;rw[oU oS i c];exact this
   ·unfold gF;rw[show oS=((oS.toNat:Nat):Int) by omega,oK oS.toNat i (by omega) (by omega)];rfl
 have ho:=I8 S (fS S oS) oS hS (oT S oS) h1 h2;unfold jB kK;rw[m5,Bool.eq_iff_iff];simp only[Bool.or_eq_true,beq_iff_eq,decide_eq_true_eq];rw[ho,l5];unfold fS;rw[←s1,←s2,←s3];constructor
 ·rintro(h|⟨h3,h4,h5,h6⟩)
  ·exact .inl (by omega)
  ·exact .inr ⟨h3,⟨h5,h6⟩,h4.symm⟩
 ·rintro(h|⟨h3,⟨h5,h6⟩,h4⟩)
  ·exact .inl (by omega)
  ·exact .inr ⟨h3,h4.symm,h5,h6⟩
theorem G8(oE oP oS nE nP nS:Int)(h1:-9223372036854775808<=oS)(h2:oS<=9223372036854775807):gM oE oP oS nE nP nS=eV oE oP oS nE nP nS:=by
 unfold gM eV gY iA
 by_cases h:1<=nS/\nS<=31
 ·obtain⟨S,rfl⟩:=Int.eq_ofNat_of_zero_le (show 0<=nS by omega);rw[Int.toNat_natCast,FC oP oS nP S (by omega) h1 h2];generalize kK oS S oP nP=x;generalize eJ S (nP - 1).toNat=y;rw[Bool.eq_iff_iff];simp only[Bool.and_eq_true,decide_eq_true_eq];constructor
  ·rintro⟨a,⟨b,c⟩,d⟩;exact⟨by omega,c,d⟩
  ·rintro⟨a,b,c⟩;exact⟨by omega,⟨by omega,b⟩,c⟩
 ·rw[decide_eq_false (p:=1<=nP/\nP<=5/\1<=nS/\nS<=31) (by omega),decide_eq_false (p:=0<=oE/\1<=nE/\nE<=1000000000000/\oE=nE - 1/\1<=nS/\nS<=31/\1<=nP/\nP<=5) (by omega)];simp
structure aM where
 E:Int
 P:Int
 S:Int
def aM.cells(r:aM):List Value:=[I T r.E,I T r.P,I T r.S]

end
end Go.Proofs.YtdcainmlcpafbaaGreatDoor
