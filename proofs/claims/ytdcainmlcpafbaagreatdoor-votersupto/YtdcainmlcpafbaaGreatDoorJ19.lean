import Derived.Test.YtdcainmlcpafbaaGreatDoorJ18
set_option linter.all false
set_option maxHeartbeats 8000000
namespace Go.Proofs.YtdcainmlcpafbaaGreatDoor
open Go.RowKit
open Value renaming int->I,slice->J,pointer->P0
open Tryz renaming prog->pG
open IntKind renaming i64->T
open Option renaming none->Z,some->Y
open Obj renaming cells->G
open Value (bool)
section
set_option maxRecDepth 20000
theorem gN(bs:List UInt8)(v:Value)(w:World)(ht:aJ w)(hr:aR w w.heap.size v bs)(k f n1 n2 n3 n4 n5 n6 n7 n8:Int)(zs:List Int)(ec:Int)(hD:bD bs k f n1 n2 n3 n4 n5 n6 n7 n8 zs ec):
  Calls pG 158 #[v] w fun e w'=>∃la lc,e=.returned (.tuple #[.agg #[I T k,I T f,I T n1,I T n2,I T n3,I T n4,I T n5,I T n6,I T n7,I T n8,J la zs.length lc],I T ec])/\bH w' w.heap.size (J la zs.length lc) zs/\Below w.heap.size w w':=by
 refine(zD bs v w ht hr).mono ?_;rintro e w' ⟨hb,hh⟩;rcases hD with⟨h1,rfl,rfl,h4,rfl,rfl⟩|⟨h1,rfl,rfl,rfl,rfl,rfl,rfl,rfl,rfl,rfl,rfl,rfl,rfl⟩
 ·rcases hh with⟨_,m1,m2,m3,m4,m5,m6,m7,m8,l,rfl,hn,ho⟩|⟨hx,_⟩
  ·rw[h4]at hn;simp only[List.cons.injEq,true_and,and_true]at hn;obtain⟨rfl,rfl,rfl,rfl,rfl,rfl,rfl,rfl⟩:=hn;obtain⟨la,lc,rfl⟩:=aO ho;exact⟨la,lc,rfl,ho,hb⟩
  ·rw[h1]at hx;exact absurd hx (by decide)
 ·rcases hh with⟨hx,_⟩|⟨_,rfl⟩
  ·rw[h1]at hx;exact absurd hx (by decide)
  ·exact⟨none,0,rfl,World.ownsRow_nil _ _ _ _,hb⟩
theorem AE(Nd St:Nat)(id nodes nb:Int)(act:Bool)(bs:List UInt8)(vb:Value)(k f n1 n2 n3 n4 n5 n6 n7 n8:Int)(zs:List Int)(w:World)(hn:aI w Nd id nodes nb St act)(ht:aJ w)(hr:aR w w.heap.size vb bs)(hD:bD bs k f n1 n2 n3 n4 n5 n6 n7 n8 zs 2)  :
  Calls pG 143 #[P0 (Y ⟨Nd,0,Z⟩),vb] w fun r w'=>r=.returned (J Z 0 0)/\Below w.heap.size w w':=by
 have HN0:=aA hn;have HD:=aA hD;have HT0:=aA ht;have HR0:=aA hr;clear hn hD ht hr;go_enter Tryz.func143,Tryz.ntmps143
 go_wp2_with fail
 refine(gN bs vb w HT0.out HR0.out k f n1 n2 n3 n4 n5 n6 n7 n8 zs 2 HD.out).mono ?_;rintro r w1 ⟨la,lc,rfl,ho1,hb1⟩;have hs1:=hb1.size;have HM:=aA (aB.new w1 #[I T k,I T f,I T n1,I T n2,I T n3,I T n4,I T n5,I T n6,I T n7,I T n8,J la zs.length lc] 136);have HB:Hid (Below w.heap.size w (w1.alloc (G #[I T k,I T f,I T n1,I T n2,I T n3,I T n4,I T n5,I T n6,I T n7,I T n8,J la zs.length lc] 136))):=hb1.alloc hs1 _;have HO:Hid (bH (w1.alloc (G #[I T k,I T f,I T n1,I T n2,I T n3,I T n4,I T n5,I T n6,I T n7,I T n8,J la zs.length lc] 136)) w.heap.size (J la zs.length lc) zs):=World.ownsRow.alloc ho1 _;have HN:=aA (HN0.out.later HB.out);clear ho1 hb1 HT0 HR0 HD HN0
 go_upto_region 2 with fail
 generalize (w1.alloc (G #[I T k,I T f,I T n1,I T n2,I T n3,I T n4,I T n5,I T n6,I T n7,I T n8,J la zs.length lc] 136))=W0 at*;generalize w1.heap.size=X at*;have hs0:=HB.out.size;obtain⟨m0,m1,m2,m3,m4,m5,m6,m7,m8,m9,m10⟩:=HM.out.c11;have c0:=HN.out.blk.cell 0;have c1:=HN.out.blk.cell 1;have c4:=HN.out.blk.cell 4;simp at c0 c1 c4
 go_quiet (fail)
 go_wp2;go_ret
 exact⟨rfl,below_drewN HB.out _⟩
theorem AF(Nd St:Nat)(id nodes nb:Int)(act:Bool)(bs:List UInt8)(vb:Value)(k f n1 n2 n3 n4 n5 n6 n7 n8:Int)(zs:List Int)(w:World)(hn:aI w Nd id nodes nb St act)(ht:aJ w)(hr:aR w w.heap.size vb bs)(hD:bD bs k f n1 n2 n3 n4 n5 n6 n7 n8 zs 0)(hff:(f==id)=true):
  Calls pG 143 #[P0 (Y ⟨Nd,0,Z⟩),vb] w fun r w'=>r=.returned (J Z 0 0)/\Below w.heap.size w w':=by
 have HN0:=aA hn;have HD:=aA hD;have HT0:=aA ht;have HR0:=aA hr;clear hn hD ht hr;go_enter Tryz.func143,Tryz.ntmps143
 go_wp2_with fail
 refine(gN bs vb w HT0.out HR0.out k f n1 n2 n3 n4 n5 n6 n7 n8 zs 0 HD.out).mono ?_;rintro r w1 ⟨la,lc,rfl,ho1,hb1⟩;have hs1:=hb1.size;have HM:=aA (aB.new w1 #[I T k,I T f,I T n1,I T n2,I T n3,I T n4,I T n5,I T n6,I T n7,I T n8,J la zs.length lc] 136);have HB:Hid (Below w.heap.size w (w1.alloc (G #[I T k,I T f,I T n1,I T n2,I T n3,I T n4,I T n5,I T n6,I T n7,I T n8,J la zs.length lc] 136))):=hb1.alloc hs1 _;have HO:Hid (bH (w1.alloc (G #[I T k,I T f,I T n1,I T n2,I T n3,I T n4,I T n5,I T n6,I T n7,I T n8,J la zs.length lc] 136)) w.heap.size (J la zs.length lc) zs):=World.ownsRow.alloc ho1 _;have HN:=aA (HN0.out.later HB.out);clear ho1 hb1 HT0 HR0 HD HN0
 go_upto_region 2 with fail
 generalize (w1.alloc (G #[I T k,I T f,I T n1,I T n2,I T n3,I T n4,I T n5,I T n6,I T n7,I T n8,J la zs.length lc] 136))=W0 at*;generalize w1.heap.size=X at*;have hs0:=HB.out.size;obtain⟨m0,m1,m2,m3,m4,m5,m6,m7,m8,m9,m10⟩:=HM.out.c11;have c0:=HN.out.blk.cell 0;have c1:=HN.out.blk.cell 1;have c4:=HN.out.blk.cell 4;simp at c0 c1 c4
 go_quiet (fail)
 go_wp2;go_ret
 exact⟨rfl,below_drewN HB.out _⟩
theorem CB(Nd St:Nat)(id nodes nb:Int)(act:Bool)(bs:List UInt8)(vb:Value)(k f n1 n2 n3 n4 n5 n6 n7 n8:Int)(zs:List Int)(w:World)(hn:aI w Nd id nodes nb St act)(ht:aJ w)(hr:aR w w.heap.size vb bs)(hD:bD bs k f n1 n2 n3 n4 n5 n6 n7 n8 zs 0)(hff:(f==id)=false)(hno:decide (nodes<=f)=true):
  Calls pG 143 #[P0 (Y ⟨Nd,0,Z⟩),vb] w fun r w'=>r=.returned (J Z 0 0)/\Below w.heap.size w w':=by
 have HN0:=aA hn;have HD:=aA hD;have HT0:=aA ht;have HR0:=aA hr;clear hn hD ht hr;go_enter Tryz.func143,Tryz.ntmps143
 go_wp2_with fail
 refine(gN bs vb w HT0.out HR0.out k f n1 n2 n3 n4 n5 n6 n7 n8 zs 0 HD.out).mono ?_;rintro r w1 ⟨la,lc,rfl,ho1,hb1⟩;have hs1:=hb1.size;have HM:=aA (aB.new w1 #[I T k,I T f,I T n1,I T n2,I T n3,I T n4,I T n5,I T n6,I T n7,I T n8,J la zs.length lc] 136);have HB:Hid (Below w.heap.size w (w1.alloc (G #[I T k,I T f,I T n1,I T n2,I T n3,I T n4,I T n5,I T n6,I T n7,I T n8,J la zs.length lc] 136))):=hb1.alloc hs1 _;have HO:Hid (bH (w1.alloc (G #[I T k,I T f,I T n1,I T n2,I T n3,I T n4,I T n5,I T n6,I T n7,I T n8,J la zs.length lc] 136)) w.heap.size (J la zs.length lc) zs):=World.ownsRow.alloc ho1 _;have HN:=aA (HN0.out.later HB.out);clear ho1 hb1 HT0 HR0 HD HN0
 go_upto_region 2 with fail
 generalize (w1.alloc (G #[I T k,I T f,I T n1,I T n2,I T n3,I T n4,I T n5,I T n6,I T n7,I T n8,J la zs.length lc] 136))=W0 at*;generalize w1.heap.size=X at*;have hs0:=HB.out.size;obtain⟨m0,m1,m2,m3,m4,m5,m6,m7,m8,m9,m10⟩:=HM.out.c11;have c0:=HN.out.blk.cell 0;have c1:=HN.out.blk.cell 1;have c4:=HN.out.blk.cell 4;simp at c0 c1 c4
 go_quiet (fail)
 go_wp2;go_ret
 exact⟨rfl,below_drewN HB.out _⟩
theorem F6(Nd St:Nat)(id nodes nb:Int)(act:Bool)(bs:List UInt8)(vb:Value)(f n1 n2 n3 n4 n5 n6 n7 n8:Int)(zs:List Int)(w:World)(hn:aI w Nd id nodes nb St act)(ht:aJ w)(hr:aR w w.heap.size vb bs)(hD:bD bs 2 f n1 n2 n3 n4 n5 n6 n7 n8 zs 0)(hff:(f==id)=false)(hno:decide (nodes<=f)=false):
  Calls pG 143 #[P0 (Y ⟨Nd,0,Z⟩),vb] w fun r w'=>r=.returned (J Z 0 0)/\Below w.heap.size w w':=by
 have HN0:=aA hn;have HD:=aA hD;have HT0:=aA ht;have HR0:=aA hr;clear hn hD ht hr;go_enter Tryz.func143,Tryz.ntmps143
 go_wp2_with fail
 refine(gN bs vb w HT0.out HR0.out 2 f n1 n2 n3 n4 n5 n6 n7 n8 zs 0 HD.out).mono ?_;rintro r w1 ⟨la,lc,rfl,ho1,hb1⟩;have hs1:=hb1.size;have HM:=aA (aB.new w1 #[I T 2,I T f,I T n1,I T n2,I T n3,I T n4,I T n5,I T n6,I T n7,I T n8,J la zs.length lc] 136);have HB:Hid (Below w.heap.size w (w1.alloc (G #[I T 2,I T f,I T n1,I T n2,I T n3,I T n4,I T n5,I T n6,I T n7,I T n8,J la zs.length lc] 136))):=hb1.alloc hs1 _;have HO:Hid (bH (w1.alloc (G #[I T 2,I T f,I T n1,I T n2,I T n3,I T n4,I T n5,I T n6,I T n7,I T n8,J la zs.length lc] 136)) w.heap.size (J la zs.length lc) zs):=World.ownsRow.alloc ho1 _;have HN:=aA (HN0.out.later HB.out);clear ho1 hb1 HT0 HR0 HD HN0
 go_upto_region 2 with fail
 generalize (w1.alloc (G #[I T 2,I T f,I T n1,I T n2,I T n3,I T n4,I T n5,I T n6,I T n7,I T n8,J la zs.length lc] 136))=W0 at*;generalize w1.heap.size=X at*;have hs0:=HB.out.size;obtain⟨m0,m1,m2,m3,m4,m5,m6,m7,m8,m9,m10⟩:=HM.out.c11;have c0:=HN.out.blk.cell 0;have c1:=HN.out.blk.cell 1;have c4:=HN.out.blk.cell 4;simp at c0 c1 c4
 go_cut [37] (fun s37 wx=>s37=.bool false/\Below W0.heap.size W0 wx)
 case first=>
  go_quiet (fail)
  go_wp2_with fail
  go_meet
  exact⟨rfl,below_drewN (Below.refl _ _) _⟩
 case rest=>
 obtain⟨rfl,hbx⟩:=hcut;obtain⟨W3,hW3⟩:∃y,y=wc:=⟨_,rfl⟩;subst hW3;have HB3:=aA (HB.out.trans (hbx.mono hs0));have HM3:=aA (HM.out.later hbx);have HN3:=aA (HN.out.later hbx);have hs3:=HB3.out.size;clear hbx HB HM HN HO hs0 m0 m1 m2 m3 m4 m5 m6 m7 m8 m9 m10 c0 c1 c4;obtain⟨m0,m1,m2,m3,m4,m5,m6,m7,m8,m9,m10⟩:=HM3.out.c11
 go_wp2_with fail
 refine(wF Nd St id nodes nb act 2 f n1 n2 n3 n4 n5 n6 n7 n8 _ W3 HN3.out).mono ?_;rintro r w4 ⟨rfl,hb4⟩;go_wp2;go_ret;exact⟨rfl,HB3.out.trans (hb4.mono hs3)⟩
theorem F7(Nd St:Nat)(id nodes nb:Int)(act:Bool)(bs:List UInt8)(vb:Value)(f n1 n2 n3 n4 n5 n6 n7 n8:Int)(zs:List Int)(w:World)(hn:aI w Nd id nodes nb St act)(ht:aJ w)(hr:aR w w.heap.size vb bs)(hD:bD bs 4 f n1 n2 n3 n4 n5 n6 n7 n8 zs 0)(hff:(f==id)=false)(hno:decide (nodes<=f)=false):
  Calls pG 143 #[P0 (Y ⟨Nd,0,Z⟩),vb] w fun r w'=>r=.returned (J Z 0 0)/\Below w.heap.size w w':=by
 have HN0:=aA hn;have HD:=aA hD;have HT0:=aA ht;have HR0:=aA hr;clear hn hD ht hr;go_enter Tryz.func143,Tryz.ntmps143
 go_wp2_with fail
 refine(gN bs vb w HT0.out HR0.out 4 f n1 n2 n3 n4 n5 n6 n7 n8 zs 0 HD.out).mono ?_;rintro r w1 ⟨la,lc,rfl,ho1,hb1⟩;have hs1:=hb1.size;have HM:=aA (aB.new w1 #[I T 4,I T f,I T n1,I T n2,I T n3,I T n4,I T n5,I T n6,I T n7,I T n8,J la zs.length lc] 136);have HB:Hid (Below w.heap.size w (w1.alloc (G #[I T 4,I T f,I T n1,I T n2,I T n3,I T n4,I T n5,I T n6,I T n7,I T n8,J la zs.length lc] 136))):=hb1.alloc hs1 _;have HO:Hid (bH (w1.alloc (G #[I T 4,I T f,I T n1,I T n2,I T n3,I T n4,I T n5,I T n6,I T n7,I T n8,J la zs.length lc] 136)) w.heap.size (J la zs.length lc) zs):=World.ownsRow.alloc ho1 _;have HN:=aA (HN0.out.later HB.out);clear ho1 hb1 HT0 HR0 HD HN0
 go_upto_region 2 with fail
 generalize (w1.alloc (G #[I T 4,I T f,I T n1,I T n2,I T n3,I T n4,I T n5,I T n6,I T n7,I T n8,J la zs.length lc] 136))=W0 at*;generalize w1.heap.size=X at*;have hs0:=HB.out.size;obtain⟨m0,m1,m2,m3,m4,m5,m6,m7,m8,m9,m10⟩:=HM.out.c11;have c0:=HN.out.blk.cell 0;have c1:=HN.out.blk.cell 1;have c4:=HN.out.blk.cell 4;simp at c0 c1 c4
 go_cut [37] (fun s37 wx=>s37=.bool false/\Below W0.heap.size W0 wx)
 case first=>
  go_quiet (fail)
  go_wp2_with fail
  go_meet
  exact⟨rfl,below_drewN (Below.refl _ _) _⟩
 case rest=>
 obtain⟨rfl,hbx⟩:=hcut;obtain⟨W3,hW3⟩:∃y,y=wc:=⟨_,rfl⟩;subst hW3;have HB3:=aA (HB.out.trans (hbx.mono hs0));have HM3:=aA (HM.out.later hbx);have HN3:=aA (HN.out.later hbx);have hs3:=HB3.out.size;clear hbx HB HM HN HO hs0 m0 m1 m2 m3 m4 m5 m6 m7 m8 m9 m10 c0 c1 c4;obtain⟨m0,m1,m2,m3,m4,m5,m6,m7,m8,m9,m10⟩:=HM3.out.c11
 go_wp2_with fail
 refine(wG Nd St id nodes nb act 4 f n1 n2 n3 n4 n5 n6 n7 n8 _ W3 HN3.out).mono ?_;rintro r w4 ⟨rfl,hb4⟩;go_wp2;go_ret;exact⟨rfl,HB3.out.trans (hb4.mono hs3)⟩
theorem F8(Nd St:Nat)(id nodes nb:Int)(act:Bool)(bs:List UInt8)(vb:Value)(f n1 n2 n3 n4 n5 n6 n7 n8:Int)(zs:List Int)(w:World)(hn:aI w Nd id nodes nb St act)(ht:aJ w)(hr:aR w w.heap.size vb bs)(hD:bD bs 5 f n1 n2 n3 n4 n5 n6 n7 n8 zs 0)(hff:(f==id)=false)(hno:decide (nodes<=f)=false)(low:Nat)(d:SD)(vr:Value)(Mp D:Nat)(h:aF w low St d vr Mp D)(hne:0<d.recs.length)(hlt:d.recs.length<=1300000):
  Calls pG 143 #[P0 (Y ⟨Nd,0,Z⟩),vb] w fun r w'=>r=.returned (J Z 0 0)/\Below w.heap.size w w':=by
 have HS0:=aA h;clear h;have HN0:=aA hn;have HD:=aA hD;have HT0:=aA ht;have HR0:=aA hr;clear hn hD ht hr;go_enter Tryz.func143,Tryz.ntmps143
 go_wp2_with fail
 refine(gN bs vb w HT0.out HR0.out 5 f n1 n2 n3 n4 n5 n6 n7 n8 zs 0 HD.out).mono ?_;rintro r w1 ⟨la,lc,rfl,ho1,hb1⟩;have hs1:=hb1.size;have HM:=aA (aB.new w1 #[I T 5,I T f,I T n1,I T n2,I T n3,I T n4,I T n5,I T n6,I T n7,I T n8,J la zs.length lc] 136);have HB:Hid (Below w.heap.size w (w1.alloc (G #[I T 5,I T f,I T n1,I T n2,I T n3,I T n4,I T n5,I T n6,I T n7,I T n8,J la zs.length lc] 136))):=hb1.alloc hs1 _;have HO:Hid (bH (w1.alloc (G #[I T 5,I T f,I T n1,I T n2,I T n3,I T n4,I T n5,I T n6,I T n7,I T n8,J la zs.length lc] 136)) w.heap.size (J la zs.length lc) zs):=World.ownsRow.alloc ho1 _;have HN:=aA (HN0.out.later HB.out);clear ho1 hb1 HT0 HR0 HD HN0
 go_upto_region 2 with fail
 generalize (w1.alloc (G #[I T 5,I T f,I T n1,I T n2,I T n3,I T n4,I T n5,I T n6,I T n7,I T n8,J la zs.length lc] 136))=W0 at*;generalize w1.heap.size=X at*;have hs0:=HB.out.size;obtain⟨m0,m1,m2,m3,m4,m5,m6,m7,m8,m9,m10⟩:=HM.out.c11;have c0:=HN.out.blk.cell 0;have c1:=HN.out.blk.cell 1;have c4:=HN.out.blk.cell 4;simp at c0 c1 c4
 go_cut [37] (fun s37 wx=>s37=.bool false/\Below W0.heap.size W0 wx)
 case first=>
  go_quiet (fail)
  go_wp2_with fail
  go_meet
  exact⟨rfl,below_drewN (Below.refl _ _) _⟩
 case rest=>
 obtain⟨rfl,hbx⟩:=hcut;obtain⟨W3,hW3⟩:∃y,y=wc:=⟨_,rfl⟩;subst hW3;have HB3:=aA (HB.out.trans (hbx.mono hs0));have HM3:=aA (HM.out.later hbx);have HN3:=aA (HN.out.later hbx);have hs3:=HB3.out.size;clear hbx HB HM HN HO hs0 m0 m1 m2 m3 m4 m5 m6 m7 m8 m9 m10 c0 c1 c4;obtain⟨m0,m1,m2,m3,m4,m5,m6,m7,m8,m9,m10⟩:=HM3.out.c11
 go_wp2_with fail
 refine(xW Nd St id nodes nb act 5 f n1 n2 n3 n4 n5 n6 n7 n8 _ W3 HN3.out low d vr Mp D (HS0.out.later HB3.out) hne hlt).mono ?_;rintro r w4 ⟨rfl,hb4⟩;go_wp2;go_ret;exact⟨rfl,HB3.out.trans (hb4.mono hs3)⟩
theorem F9(Nd St:Nat)(id nodes nb:Int)(act:Bool)(bs:List UInt8)(vb:Value)(f n1 n2 n3 n4 n5 n6 n7 n8:Int)(zs:List Int)(w:World)(hn:aI w Nd id nodes nb St act)(ht:aJ w)(hr:aR w w.heap.size vb bs)(hD:bD bs 8 f n1 n2 n3 n4 n5 n6 n7 n8 zs 0)(hff:(f==id)=false)(hno:decide (nodes<=f)=false):
  Calls pG 143 #[P0 (Y ⟨Nd,0,Z⟩),vb] w fun r w'=>r=.returned (J Z 0 0)/\Below w.heap.size w w':=by
 have HN0:=aA hn;have HD:=aA hD;have HT0:=aA ht;have HR0:=aA hr;clear hn hD ht hr;go_enter Tryz.func143,Tryz.ntmps143
 go_wp2_with fail
 refine(gN bs vb w HT0.out HR0.out 8 f n1 n2 n3 n4 n5 n6 n7 n8 zs 0 HD.out).mono ?_;rintro r w1 ⟨la,lc,rfl,ho1,hb1⟩;have hs1:=hb1.size;have HM:=aA (aB.new w1 #[I T 8,I T f,I T n1,I T n2,I T n3,I T n4,I T n5,I T n6,I T n7,I T n8,J la zs.length lc] 136);have HB:Hid (Below w.heap.size w (w1.alloc (G #[I T 8,I T f,I T n1,I T n2,I T n3,I T n4,I T n5,I T n6,I T n7,I T n8,J la zs.length lc] 136))):=hb1.alloc hs1 _;have HO:Hid (bH (w1.alloc (G #[I T 8,I T f,I T n1,I T n2,I T n3,I T n4,I T n5,I T n6,I T n7,I T n8,J la zs.length lc] 136)) w.heap.size (J la zs.length lc) zs):=World.ownsRow.alloc ho1 _;have HN:=aA (HN0.out.later HB.out);clear ho1 hb1 HT0 HR0 HD HN0
 go_upto_region 2 with fail
 generalize (w1.alloc (G #[I T 8,I T f,I T n1,I T n2,I T n3,I T n4,I T n5,I T n6,I T n7,I T n8,J la zs.length lc] 136))=W0 at*;generalize w1.heap.size=X at*;have hs0:=HB.out.size;obtain⟨m0,m1,m2,m3,m4,m5,m6,m7,m8,m9,m10⟩:=HM.out.c11;have c0:=HN.out.blk.cell 0;have c1:=HN.out.blk.cell 1;have c4:=HN.out.blk.cell 4;simp at c0 c1 c4
 go_cut [37] (fun s37 wx=>s37=.bool false/\Below W0.heap.size W0 wx)
 case first=>
  go_quiet (fail)
  go_wp2_with fail
  go_meet
  exact⟨rfl,below_drewN (Below.refl _ _) _⟩
 case rest=>
 obtain⟨rfl,hbx⟩:=hcut;obtain⟨W3,hW3⟩:∃y,y=wc:=⟨_,rfl⟩;subst hW3;have HB3:=aA (HB.out.trans (hbx.mono hs0));have HM3:=aA (HM.out.later hbx);have HN3:=aA (HN.out.later hbx);have hs3:=HB3.out.size;clear hbx HB HM HN HO hs0 m0 m1 m2 m3 m4 m5 m6 m7 m8 m9 m10 c0 c1 c4;obtain⟨m0,m1,m2,m3,m4,m5,m6,m7,m8,m9,m10⟩:=HM3.out.c11
 go_wp2_with fail
 refine(CA Nd St id nodes nb act 8 f n1 n2 n3 n4 n5 n6 n7 n8 _ W3 HN3.out).mono ?_;rintro r w4 ⟨rfl,hb4⟩;go_wp2;go_ret;exact⟨rfl,HB3.out.trans (hb4.mono hs3)⟩
theorem EF(Nd St:Nat)(id nodes nb:Int)(act:Bool)(bs:List UInt8)(vb:Value)(f n1 n2 n3 n4 n5 n6 n7 n8:Int)(zs:List Int)(w:World)(hn:aI w Nd id nodes nb St act)(ht:aJ w)(hr:aR w w.heap.size vb bs)(hD:bD bs 10 f n1 n2 n3 n4 n5 n6 n7 n8 zs 0)(hff:(f==id)=false)(hno:decide (nodes<=f)=false):
  Calls pG 143 #[P0 (Y ⟨Nd,0,Z⟩),vb] w fun r w'=>r=.returned (J Z 0 0)/\Below w.heap.size w w':=by
 have HN0:=aA hn;have HD:=aA hD;have HT0:=aA ht;have HR0:=aA hr;clear hn hD ht hr;go_enter Tryz.func143,Tryz.ntmps143
 go_wp2_with fail
 refine(gN bs vb w HT0.out HR0.out 10 f n1 n2 n3 n4 n5 n6 n7 n8 zs 0 HD.out).mono ?_;rintro r w1 ⟨la,lc,rfl,ho1,hb1⟩;have hs1:=hb1.size;have HM:=aA (aB.new w1 #[I T 10,I T f,I T n1,I T n2,I T n3,I T n4,I T n5,I T n6,I T n7,I T n8,J la zs.length lc] 136);have HB:Hid (Below w.heap.size w (w1.alloc (G #[I T 10,I T f,I T n1,I T n2,I T n3,I T n4,I T n5,I T n6,I T n7,I T n8,J la zs.length lc] 136))):=hb1.alloc hs1 _;have HO:Hid (bH (w1.alloc (G #[I T 10,I T f,I T n1,I T n2,I T n3,I T n4,I T n5,I T n6,I T n7,I T n8,J la zs.length lc] 136)) w.heap.size (J la zs.length lc) zs):=World.ownsRow.alloc ho1 _;have HN:=aA (HN0.out.later HB.out);clear ho1 hb1 HT0 HR0 HD HN0
 go_upto_region 2 with fail
 generalize (w1.alloc (G #[I T 10,I T f,I T n1,I T n2,I T n3,I T n4,I T n5,I T n6,I T n7,I T n8,J la zs.length lc] 136))=W0 at*;generalize w1.heap.size=X at*;have hs0:=HB.out.size;obtain⟨m0,m1,m2,m3,m4,m5,m6,m7,m8,m9,m10⟩:=HM.out.c11;have c0:=HN.out.blk.cell 0;have c1:=HN.out.blk.cell 1;have c4:=HN.out.blk.cell 4;simp at c0 c1 c4
 go_cut [37] (fun s37 wx=>s37=.bool false/\Below W0.heap.size W0 wx)
 case first=>
  go_quiet (fail)
  go_wp2_with fail
  go_meet
  exact⟨rfl,below_drewN (Below.refl _ _) _⟩
 case rest=>
 obtain⟨rfl,hbx⟩:=hcut;obtain⟨W3,hW3⟩:∃y,y=wc:=⟨_,rfl⟩;subst hW3;have HB3:=aA (HB.out.trans (hbx.mono hs0));have HM3:=aA (HM.out.later hbx);have HN3:=aA (HN.out.later hbx);have hs3:=HB3.out.size;clear hbx HB HM HN HO hs0 m0 m1 m2 m3 m4 m5 m6 m7 m8 m9 m10 c0 c1 c4;obtain⟨m0,m1,m2,m3,m4,m5,m6,m7,m8,m9,m10⟩:=HM3.out.c11
 go_wp2_with fail
 refine(AD Nd St id nodes nb act 10 f n1 n2 n3 n4 n5 n6 n7 n8 _ W3 HN3.out).mono ?_;rintro r w4 ⟨rfl,hb4⟩;go_wp2;go_ret;exact⟨rfl,HB3.out.trans (hb4.mono hs3)⟩
theorem l7{w:World}{base:Nat}{e:TypeId}{size n:Nat}{v:Value}{xs:List Value}(h:w.ownsRow base e size v n xs){g:Nat}(hg:v.ownBlock=Y g):g<w.heap.size:=by
 obtain⟨_,⟨rfl,_⟩|⟨g',cap,cur,rfl,_,hb,_⟩⟩:=h
 ·cases hg
 ·obtain rfl:g'=g:=by simpa[Value.ownBlock] using hg
  exact(Array.getElem?_eq_some_iff.mp hb).1
theorem tL(Nd St:Nat)(id nodes nb:Int)(act:Bool)(bs:List UInt8)(vb:Value)(f n1 n2 n3 n4 n5 n6 n7 n8:Int)(zs:List Int)(w:World)(hn:aI w Nd id nodes nb St act)(ht:aJ w)(hr:aR w w.heap.size vb bs)(hD:bD bs 6 f n1 n2 n3 n4 n5 n6 n7 n8 zs 0)(hff:(f==id)=false)(hno:decide (nodes<=f)=false)(Q:World->Prop)(hC:∀W la lc,Below w.heap.size w W->bH W w.heap.size (J la zs.length lc) zs->Calls pG 200 #[P0 (Y ⟨Nd,0,Z⟩),.agg #[I T 6,I T f,I T n1,I T n2,I T n3,I T n4,I T n5,I T n6,I T n7,I T n8,J la zs.length lc]] W fun r W1=>∃bb,r=.returned (.bool bb)/\Q W1):
  Calls pG 143 #[P0 (Y ⟨Nd,0,Z⟩),vb] w fun r w'=>r=.returned (J Z 0 0)/\Q w':=by
 have HC:=aA hC;clear hC;have HN0:=aA hn;have HD:=aA hD;have HT0:=aA ht;have HR0:=aA hr;clear hn hD ht hr;go_enter Tryz.func143,Tryz.ntmps143
 go_wp2_with fail
 refine(gN bs vb w HT0.out HR0.out 6 f n1 n2 n3 n4 n5 n6 n7 n8 zs 0 HD.out).mono ?_;rintro r w1 ⟨la,lc,rfl,ho1,hb1⟩;have hs1:=hb1.size;have HM:=aA (aB.new w1 #[I T 6,I T f,I T n1,I T n2,I T n3,I T n4,I T n5,I T n6,I T n7,I T n8,J la zs.length lc] 136);have HB:Hid (Below w.heap.size w (w1.alloc (G #[I T 6,I T f,I T n1,I T n2,I T n3,I T n4,I T n5,I T n6,I T n7,I T n8,J la zs.length lc] 136))):=hb1.alloc hs1 _;have HO:Hid (bH (w1.alloc (G #[I T 6,I T f,I T n1,I T n2,I T n3,I T n4,I T n5,I T n6,I T n7,I T n8,J la zs.length lc] 136)) w.heap.size (J la zs.length lc) zs):=World.ownsRow.alloc ho1 _;have HN:=aA (HN0.out.later HB.out);clear ho1 hb1 HT0 HR0 HD HN0
 go_upto_region 2 with fail
 generalize (w1.alloc (G #[I T 6,I T f,I T n1,I T n2,I T n3,I T n4,I T n5,I T n6,I T n7,I T n8,J la zs.length lc] 136))=W0 at*;generalize w1.heap.size=X at*;have hs0:=HB.out.size;obtain⟨m0,m1,m2,m3,m4,m5,m6,m7,m8,m9,m10⟩:=HM.out.c11;have c0:=HN.out.blk.cell 0;have c1:=HN.out.blk.cell 1;have c4:=HN.out.blk.cell 4;simp at c0 c1 c4
 go_cut [37] (fun s37 wx=>s37=.bool false/\Below W0.heap.size W0 wx)
 case first=>
  go_quiet (fail)
  go_wp2_with fail
  go_meet
  exact⟨rfl,below_drewN (Below.refl _ _) _⟩
 case rest=>
 obtain⟨rfl,hbx⟩:=hcut;obtain⟨W3,hW3⟩:∃y,y=wc:=⟨_,rfl⟩;subst hW3;have HB3:=aA (HB.out.trans (hbx.mono hs0));have HM3:=aA (HM.out.later hbx);have HN3:=aA (HN.out.later hbx);have HO3:=aA (aH HO.out (fun g hg=>hbx.block g (l7 HO.out hg)));have hs3:=HB3.out.size;clear hbx HB HM HN HO hs0 m0 m1 m2 m3 m4 m5 m6 m7 m8 m9 m10 c0 c1 c4;obtain⟨m0,m1,m2,m3,m4,m5,m6,m7,m8,m9,m10⟩:=HM3.out.c11
 go_wp2_with fail
 refine(HC.out W3 la lc HB3.out HO3.out).mono ?_;rintro r w4 ⟨bb,rfl,hq⟩;go_wp2;go_ret;exact⟨rfl,hq⟩
theorem mV(Nd St:Nat)(id nodes nb:Int)(act:Bool)(bs:List UInt8)(vb:Value)(f n1 n2 n3 n4 n5 n6 n7 n8:Int)(zs:List Int)(w:World)(hn:aI w Nd id nodes nb St act)(ht:aJ w)(hr:aR w w.heap.size vb bs)(hD:bD bs 1 f n1 n2 n3 n4 n5 n6 n7 n8 zs 0)(hff:(f==id)=false)(hno:decide (nodes<=f)=false)(Q:Value->World->Prop)(hC:∀W X la lc,Below w.heap.size w W->w.heap.size<=X->aB W X #[I T 1,I T f,I T n1,I T n2,I T n3,I T n4,I T n5,I T n6,I T n7,I T n8,J la zs.length lc] 136->bH W w.heap.size (J la zs.length lc) zs->Calls pG 196 #[P0 (Y ⟨Nd,0,Z⟩),.agg #[I T 1,I T f,I T n1,I T n2,I T n3,I T n4,I T n5,I T n6,I T n7,I T n8,J la zs.length lc]] W fun r W1=>∃k0 f0 e0 b0 a0 p0 s0 q0 l0 v0,r=.returned (.agg #[I T k0,I T f0,I T e0,I T b0,I T a0,I T p0,I T s0,I T q0,I T l0,I T v0,J Z 0 0])/\aB W1 X #[I T 1,I T f,I T n1,I T n2,I T n3,I T n4,I T n5,I T n6,I T n7,I T n8,J la zs.length lc] 136/\Calls pG 195 #[P0 (Y ⟨Nd,0,Z⟩),.agg #[I T 1,I T f,I T n1,I T n2,I T n3,I T n4,I T n5,I T n6,I T n7,I T n8,J la zs.length lc],.agg #[I T k0,I T f0,I T e0,I T b0,I T a0,I T p0,I T s0,I T q0,I T l0,I T v0,J Z 0 0]] W1 fun r2 W2=>∃l,r2=.returned l/\aB W2 X #[I T 1,I T f,I T n1,I T n2,I T n3,I T n4,I T n5,I T n6,I T n7,I T n8,J la zs.length lc] 136/\Q l W2):
  Calls pG 143 #[P0 (Y ⟨Nd,0,Z⟩),vb] w fun r w'=>∃l,r=.returned l/\Q l w':=by
 have HC:=aA hC;clear hC;have HN0:=aA hn;have HD:=aA hD;have HT0:=aA ht;have HR0:=aA hr;clear hn hD ht hr;go_enter Tryz.func143,Tryz.ntmps143
 go_wp2_with fail
 refine(gN bs vb w HT0.out HR0.out 1 f n1 n2 n3 n4 n5 n6 n7 n8 zs 0 HD.out).mono ?_;rintro r w1 ⟨la,lc,rfl,ho1,hb1⟩;have hs1:=hb1.size;have HM:=aA (aB.new w1 #[I T 1,I T f,I T n1,I T n2,I T n3,I T n4,I T n5,I T n6,I T n7,I T n8,J la zs.length lc] 136);have HB:Hid (Below w.heap.size w (w1.alloc (G #[I T 1,I T f,I T n1,I T n2,I T n3,I T n4,I T n5,I T n6,I T n7,I T n8,J la zs.length lc] 136))):=hb1.alloc hs1 _;have HO:Hid (bH (w1.alloc (G #[I T 1,I T f,I T n1,I T n2,I T n3,I T n4,I T n5,I T n6,I T n7,I T n8,J la zs.length lc] 136)) w.heap.size (J la zs.length lc) zs):=World.ownsRow.alloc ho1 _;have HN:=aA (HN0.out.later HB.out);clear ho1 hb1 HT0 HR0 HD HN0
 go_upto_region 2 with fail
 generalize (w1.alloc (G #[I T 1,I T f,I T n1,I T n2,I T n3,I T n4,I T n5,I T n6,I T n7,I T n8,J la zs.length lc] 136))=W0 at*;generalize w1.heap.size=X at*;have hX:w.heap.size<=X:=hs1;have hs0:=HB.out.size;obtain⟨m0,m1,m2,m3,m4,m5,m6,m7,m8,m9,m10⟩:=HM.out.c11;have c0:=HN.out.blk.cell 0;have c1:=HN.out.blk.cell 1;have c4:=HN.out.blk.cell 4;simp at c0 c1 c4
 go_cut [37] (fun s37 wx=>s37=.bool false/\Below W0.heap.size W0 wx)
 case first=>
  go_quiet (fail)
  go_wp2_with fail
  go_meet
  exact⟨rfl,below_drewN (Below.refl _ _) _⟩
 case rest=>
 obtain⟨rfl,hbx⟩:=hcut;obtain⟨W3,hW3⟩:∃y,y=wc:=⟨_,rfl⟩;subst hW3;have HB3:=aA (HB.out.trans (hbx.mono hs0));have HM3:=aA (HM.out.later hbx);have HN3:=aA (HN.out.later hbx);have HO3:=aA (aH HO.out (fun g hg=>hbx.block g (l7 HO.out hg)));have hs3:=HB3.out.size;clear hbx HB HM HN HO hs0 m0 m1 m2 m3 m4 m5 m6 m7 m8 m9 m10 c0 c1 c4;obtain⟨m0,m1,m2,m3,m4,m5,m6,m7,m8,m9,m10⟩:=HM3.out.c11
 go_upto_region 7 with fail
 refine wp_region_held_drew (S:=(fun w'=>w'.cell? ⟨X,0,Z⟩=Y (I T 1)/\w'.cell? ⟨X,1,Z⟩=Y (I T f)/\w'.cell? ⟨X,2,Z⟩=Y (I T n1)/\w'.cell? ⟨X,3,Z⟩=Y (I T n2)/\w'.cell? ⟨X,4,Z⟩=Y (I T n3)/\w'.cell? ⟨X,5,Z⟩=Y (I T n4)/\w'.cell? ⟨X,6,Z⟩=Y (I T n5)/\w'.cell? ⟨X,7,Z⟩=Y (I T n6)/\w'.cell? ⟨X,8,Z⟩=Y (I T n7)/\w'.cell? ⟨X,9,Z⟩=Y (I T n8)/\w'.cell? ⟨X,10,Z⟩=Y (J la zs.length lc))) (by kernel_rfl) (by(try dsimp only);(first|(and_intros<;>with_reducible assumption)|(and_intros<;>assumption)|go_keep|trivial)) (fun hHeld=>?_);refine tk 0 ?_;refine tk 1 ?_;refine tk 2 ?_;refine tk 3 ?_;refine aG 4 fun K hK=>?_
 (try go_simp)
 go_at_call 196
 refine(HC.out W3.drew X la lc HB3.out.drew hX HM3.out.drew (aH HO3.out (fun _ _=>rfl))).mono ?_;rintro r w4 ⟨k0,f0,e0,b0,a0,p0,s0,q0,l0,v0,rfl,hm4,hc4⟩;have HM4:=aA hm4;have HC4:=aA hc4;clear hm4 hc4;obtain⟨y0,y1,y2,y3,y4,y5,y6,y7,y8,y9,y10⟩:=HM4.out.c11;refine hK.out _ _ ?_ (fun hHeld=>?_)
 ·(try dsimp only);(first|(and_intros<;>with_reducible assumption)|(and_intros<;>assumption)|go_keep|trivial)
 clear hK K
 try simp only[qs]
 refine aG 5 fun K hK=>?_
 (try go_simp)
 go_at_call 195
 refine Calls.mono HC4.out ?_;rintro r w5 ⟨l,rfl,hm5,hq⟩;have HM5:=aA hm5;clear hm5;obtain⟨z0,z1,z2,z3,z4,z5,z6,z7,z8,z9,z10⟩:=HM5.out.c11;refine hK.out _ _ ?_ (fun hHeld=>?_)
 ·(try dsimp only);(first|(and_intros<;>with_reducible assumption)|(and_intros<;>assumption)|go_keep|trivial)
 clear hK K
 try simp only[qs]
 refine aG 6 fun K hK=>?_
 (try go_simp)
 refine hK.out _ _ ?_ (fun hHeld=>?_)
 ·(try dsimp only);(first|(and_intros<;>with_reducible assumption)|(and_intros<;>assumption)|go_keep|trivial)
 clear hK K
 try simp only[qs]
 refine dn ?_;go_wp2;go_ret
 first|exact⟨_,rfl,hq⟩|exact hq
theorem mW(Nd St:Nat)(id nodes nb:Int)(act:Bool)(bs:List UInt8)(vb:Value)(f n1 n2 n3 n4 n5 n6 n7 n8:Int)(zs:List Int)(w:World)(hn:aI w Nd id nodes nb St act)(ht:aJ w)(hr:aR w w.heap.size vb bs)(hD:bD bs 3 f n1 n2 n3 n4 n5 n6 n7 n8 zs 0)(hff:(f==id)=false)(hno:decide (nodes<=f)=false)(Q:Value->World->Prop)(hC:∀W X la lc,Below w.heap.size w W->w.heap.size<=X->aB W X #[I T 3,I T f,I T n1,I T n2,I T n3,I T n4,I T n5,I T n6,I T n7,I T n8,J la zs.length lc] 136->bH W w.heap.size (J la zs.length lc) zs->Calls pG 196 #[P0 (Y ⟨Nd,0,Z⟩),.agg #[I T 3,I T f,I T n1,I T n2,I T n3,I T n4,I T n5,I T n6,I T n7,I T n8,J la zs.length lc]] W fun r W1=>∃k0 f0 e0 b0 a0 p0 s0 q0 l0 v0,r=.returned (.agg #[I T k0,I T f0,I T e0,I T b0,I T a0,I T p0,I T s0,I T q0,I T l0,I T v0,J Z 0 0])/\aB W1 X #[I T 3,I T f,I T n1,I T n2,I T n3,I T n4,I T n5,I T n6,I T n7,I T n8,J la zs.length lc] 136/\Calls pG 195 #[P0 (Y ⟨Nd,0,Z⟩),.agg #[I T 3,I T f,I T n1,I T n2,I T n3,I T n4,I T n5,I T n6,I T n7,I T n8,J la zs.length lc],.agg #[I T k0,I T f0,I T e0,I T b0,I T a0,I T p0,I T s0,I T q0,I T l0,I T v0,J Z 0 0]] W1 fun r2 W2=>∃l,r2=.returned l/\aB W2 X #[I T 3,I T f,I T n1,I T n2,I T n3,I T n4,I T n5,I T n6,I T n7,I T n8,J la zs.length lc] 136/\Q l W2):
  Calls pG 143 #[P0 (Y ⟨Nd,0,Z⟩),vb] w fun r w'=>∃l,r=.returned l/\Q l w':=by
 have HC:=aA hC;clear hC;have HN0:=aA hn;have HD:=aA hD;have HT0:=aA ht;have HR0:=aA hr;clear hn hD ht hr;go_enter Tryz.func143,Tryz.ntmps143
 go_wp2_with fail
 refine(gN bs vb w HT0.out HR0.out 3 f n1 n2 n3 n4 n5 n6 n7 n8 zs 0 HD.out).mono ?_;rintro r w1 ⟨la,lc,rfl,ho1,hb1⟩;have hs1:=hb1.size;have HM:=aA (aB.new w1 #[I T 3,I T f,I T n1,I T n2,I T n3,I T n4,I T n5,I T n6,I T n7,I T n8,J la zs.length lc] 136);have HB:Hid (Below w.heap.size w (w1.alloc (G #[I T 3,I T f,I T n1,I T n2,I T n3,I T n4,I T n5,I T n6,I T n7,I T n8,J la zs.length lc] 136))):=hb1.alloc hs1 _;have HO:Hid (bH (w1.alloc (G #[I T 3,I T f,I T n1,I T n2,I T n3,I T n4,I T n5,I T n6,I T n7,I T n8,J la zs.length lc] 136)) w.heap.size (J la zs.length lc) zs):=World.ownsRow.alloc ho1 _;have HN:=aA (HN0.out.later HB.out);clear ho1 hb1 HT0 HR0 HD HN0
 go_upto_region 2 with fail
 generalize (w1.alloc (G #[I T 3,I T f,I T n1,I T n2,I T n3,I T n4,I T n5,I T n6,I T n7,I T n8,J la zs.length lc] 136))=W0 at*;generalize w1.heap.size=X at*;have hX:w.heap.size<=X:=hs1;have hs0:=HB.out.size;obtain⟨m0,m1,m2,m3,m4,m5,m6,m7,m8,m9,m10⟩:=HM.out.c11;have c0:=HN.out.blk.cell 0;have c1:=HN.out.blk.cell 1;have c4:=HN.out.blk.cell 4;simp at c0 c1 c4
 go_cut [37] (fun s37 wx=>s37=.bool false/\Below W0.heap.size W0 wx)
 case first=>
  go_quiet (fail)
  go_wp2_with fail
  go_meet
  exact⟨rfl,below_drewN (Below.refl _ _) _⟩
 case rest=>
 obtain⟨rfl,hbx⟩:=hcut;obtain⟨W3,hW3⟩:∃y,y=wc:=⟨_,rfl⟩;subst hW3;have HB3:=aA (HB.out.trans (hbx.mono hs0));have HM3:=aA (HM.out.later hbx);have HN3:=aA (HN.out.later hbx);have HO3:=aA (aH HO.out (fun g hg=>hbx.block g (l7 HO.out hg)));have hs3:=HB3.out.size;clear hbx HB HM HN HO hs0 m0 m1 m2 m3 m4 m5 m6 m7 m8 m9 m10 c0 c1 c4;obtain⟨m0,m1,m2,m3,m4,m5,m6,m7,m8,m9,m10⟩:=HM3.out.c11
 go_upto_region 7 with fail
 refine wp_region_held_drew (S:=(fun w'=>w'.cell? ⟨X,0,Z⟩=Y (I T 3)/\w'.cell? ⟨X,1,Z⟩=Y (I T f)/\w'.cell? ⟨X,2,Z⟩=Y (I T n1)/\w'.cell? ⟨X,3,Z⟩=Y (I T n2)/\w'.cell? ⟨X,4,Z⟩=Y (I T n3)/\w'.cell? ⟨X,5,Z⟩=Y (I T n4)/\w'.cell? ⟨X,6,Z⟩=Y (I T n5)/\w'.cell? ⟨X,7,Z⟩=Y (I T n6)/\w'.cell? ⟨X,8,Z⟩=Y (I T n7)/\w'.cell? ⟨X,9,Z⟩=Y (I T n8)/\w'.cell? ⟨X,10,Z⟩=Y (J la zs.length lc))) (by kernel_rfl) (by(try dsimp only);(first|(and_intros<;>with_reducible assumption)|(and_intros<;>assumption)|go_keep|trivial)) (fun hHeld=>?_);refine tk 0 ?_;refine tk 1 ?_;refine tk 2 ?_;refine tk 3 ?_;refine aG 4 fun K hK=>?_
 (try go_simp)
 go_at_call 196
 refine(HC.out W3.drew X la lc HB3.out.drew hX HM3.out.drew (aH HO3.out (fun _ _=>rfl))).mono ?_;rintro r w4 ⟨k0,f0,e0,b0,a0,p0,s0,q0,l0,v0,rfl,hm4,hc4⟩;have HM4:=aA hm4;have HC4:=aA hc4;clear hm4 hc4;obtain⟨y0,y1,y2,y3,y4,y5,y6,y7,y8,y9,y10⟩:=HM4.out.c11;refine hK.out _ _ ?_ (fun hHeld=>?_)
 ·(try dsimp only);(first|(and_intros<;>with_reducible assumption)|(and_intros<;>assumption)|go_keep|trivial)
 clear hK K
 try simp only[qs]
 refine aG 5 fun K hK=>?_
 (try go_simp)
 go_at_call 195
 refine Calls.mono HC4.out ?_;rintro r w5 ⟨l,rfl,hm5,hq⟩;have HM5:=aA hm5;clear hm5;obtain⟨z0,z1,z2,z3,z4,z5,z6,z7,z8,z9,z10⟩:=HM5.out.c11;refine hK.out _ _ ?_ (fun hHeld=>?_)
 ·(try dsimp only);(first|(and_intros<;>with_reducible assumption)|(and_intros<;>assumption)|go_keep|trivial)
 clear hK K
 try simp only[qs]
 refine aG 6 fun K hK=>?_
 (try go_simp)
 refine hK.out _ _ ?_ (fun hHeld=>?_)
 ·(try dsimp only);(first|(and_intros<;>with_reducible assumption)|(and_intros<;>assumption)|go_keep|trivial)
 clear hK K
 try simp only[qs]
 refine dn ?_;go_wp2;go_ret
 first|exact⟨_,rfl,hq⟩|exact hq
theorem kE(Nd St:Nat)(id nodes nb:Int)(act:Bool)(bs:List UInt8)(vb:Value)(f n1 n2 n3 n4 n5 n6 n7 n8:Int)(zs:List Int)(w:World)(hn:aI w Nd id nodes nb St act)(ht:aJ w)(hr:aR w w.heap.size vb bs)(hD:bD bs 7 f n1 n2 n3 n4 n5 n6 n7 n8 zs 0)(hff:(f==id)=false)(hno:decide (nodes<=f)=false)(Q:Value->World->Prop)(hC:∀W X la lc,Below w.heap.size w W->w.heap.size<=X->aB W X #[I T 7,I T f,I T n1,I T n2,I T n3,I T n4,I T n5,I T n6,I T n7,I T n8,J la zs.length lc] 136->bH W w.heap.size (J la zs.length lc) zs->Calls pG 201 #[P0 (Y ⟨Nd,0,Z⟩),.agg #[I T 7,I T f,I T n1,I T n2,I T n3,I T n4,I T n5,I T n6,I T n7,I T n8,J la zs.length lc]] W fun r W1=>∃k0 f0 e0 b0 a0 p0 s0 q0 l0 v0,r=.returned (.agg #[I T k0,I T f0,I T e0,I T b0,I T a0,I T p0,I T s0,I T q0,I T l0,I T v0,J Z 0 0])/\aB W1 X #[I T 7,I T f,I T n1,I T n2,I T n3,I T n4,I T n5,I T n6,I T n7,I T n8,J la zs.length lc] 136/\Calls pG 195 #[P0 (Y ⟨Nd,0,Z⟩),.agg #[I T 7,I T f,I T n1,I T n2,I T n3,I T n4,I T n5,I T n6,I T n7,I T n8,J la zs.length lc],.agg #[I T k0,I T f0,I T e0,I T b0,I T a0,I T p0,I T s0,I T q0,I T l0,I T v0,J Z 0 0]] W1 fun r2 W2=>∃l,r2=.returned l/\aB W2 X #[I T 7,I T f,I T n1,I T n2,I T n3,I T n4,I T n5,I T n6,I T n7,I T n8,J la zs.length lc] 136/\Q l W2):
  Calls pG 143 #[P0 (Y ⟨Nd,0,Z⟩),vb] w fun r w'=>∃l,r=.returned l/\Q l w':=by
 have HC:=aA hC;clear hC;have HN0:=aA hn;have HD:=aA hD;have HT0:=aA ht;have HR0:=aA hr;clear hn hD ht hr;go_enter Tryz.func143,Tryz.ntmps143
 go_wp2_with fail
 refine(gN bs vb w HT0.out HR0.out 7 f n1 n2 n3 n4 n5 n6 n7 n8 zs 0 HD.out).mono ?_;rintro r w1 ⟨la,lc,rfl,ho1,hb1⟩;have hs1:=hb1.size;have HM:=aA (aB.new w1 #[I T 7,I T f,I T n1,I T n2,I T n3,I T n4,I T n5,I T n6,I T n7,I T n8,J la zs.length lc] 136);have HB:Hid (Below w.heap.size w (w1.alloc (G #[I T 7,I T f,I T n1,I T n2,I T n3,I T n4,I T n5,I T n6,I T n7,I T n8,J la zs.length lc] 136))):=hb1.alloc hs1 _;have HO:Hid (bH (w1.alloc (G #[I T 7,I T f,I T n1,I T n2,I T n3,I T n4,I T n5,I T n6,I T n7,I T n8,J la zs.length lc] 136)) w.heap.size (J la zs.length lc) zs):=World.ownsRow.alloc ho1 _;have HN:=aA (HN0.out.later HB.out);clear ho1 hb1 HT0 HR0 HD HN0
 go_upto_region 2 with fail
 generalize (w1.alloc (G #[I T 7,I T f,I T n1,I T n2,I T n3,I T n4,I T n5,I T n6,I T n7,I T n8,J la zs.length lc] 136))=W0 at*;generalize w1.heap.size=X at*;have hX:w.heap.size<=X:=hs1;have hs0:=HB.out.size;obtain⟨m0,m1,m2,m3,m4,m5,m6,m7,m8,m9,m10⟩:=HM.out.c11;have c0:=HN.out.blk.cell 0;have c1:=HN.out.blk.cell 1;have c4:=HN.out.blk.cell 4;simp at c0 c1 c4
 go_cut [37] (fun s37 wx=>s37=.bool false/\Below W0.heap.size W0 wx)
 case first=>
  go_quiet (fail)
  go_wp2_with fail
  go_meet
  exact⟨rfl,below_drewN (Below.refl _ _) _⟩
 case rest=>
 obtain⟨rfl,hbx⟩:=hcut;obtain⟨W3,hW3⟩:∃y,y=wc:=⟨_,rfl⟩;subst hW3;have HB3:=aA (HB.out.trans (hbx.mono hs0));have HM3:=aA (HM.out.later hbx);have HN3:=aA (HN.out.later hbx);have HO3:=aA (aH HO.out (fun g hg=>hbx.block g (l7 HO.out hg)));have hs3:=HB3.out.size;clear hbx HB HM HN HO hs0 m0 m1 m2 m3 m4 m5 m6 m7 m8 m9 m10 c0 c1 c4;obtain⟨m0,m1,m2,m3,m4,m5,m6,m7,m8,m9,m10⟩:=HM3.out.c11
 go_upto_region 18 with fail
 refine wp_region_held_drew (S:=(fun w'=>w'.cell? ⟨X,0,Z⟩=Y (I T 7)/\w'.cell? ⟨X,1,Z⟩=Y (I T f)/\w'.cell? ⟨X,2,Z⟩=Y (I T n1)/\w'.cell? ⟨X,3,Z⟩=Y (I T n2)/\w'.cell? ⟨X,4,Z⟩=Y (I T n3)/\w'.cell? ⟨X,5,Z⟩=Y (I T n4)/\w'.cell? ⟨X,6,Z⟩=Y (I T n5)/\w'.cell? ⟨X,7,Z⟩=Y (I T n6)/\w'.cell? ⟨X,8,Z⟩=Y (I T n7)/\w'.cell? ⟨X,9,Z⟩=Y (I T n8)/\w'.cell? ⟨X,10,Z⟩=Y (J la zs.length lc))) (by kernel_rfl) (by(try dsimp only);(first|(and_intros<;>with_reducible assumption)|(and_intros<;>assumption)|go_keep|trivial)) (fun hHeld=>?_);refine tk 0 ?_;refine tk 1 ?_;refine tk 2 ?_;refine tk 3 ?_;refine aG 4 fun K hK=>?_
 (try go_simp)
 go_at_call 201
 refine(HC.out W3.drew X la lc HB3.out.drew hX HM3.out.drew (aH HO3.out (fun _ _=>rfl))).mono ?_;rintro r w4 ⟨k0,f0,e0,b0,a0,p0,s0,q0,l0,v0,rfl,hm4,hc4⟩;have HM4:=aA hm4;have HC4:=aA hc4;clear hm4 hc4;obtain⟨y0,y1,y2,y3,y4,y5,y6,y7,y8,y9,y10⟩:=HM4.out.c11;refine hK.out _ _ ?_ (fun hHeld=>?_)
 ·(try dsimp only);(first|(and_intros<;>with_reducible assumption)|(and_intros<;>assumption)|go_keep|trivial)
 clear hK K
 try simp only[qs]
 refine aG 5 fun K hK=>?_
 (try go_simp)
 go_at_call 195
 refine Calls.mono HC4.out ?_;rintro r w5 ⟨l,rfl,hm5,hq⟩;have HM5:=aA hm5;clear hm5;obtain⟨z0,z1,z2,z3,z4,z5,z6,z7,z8,z9,z10⟩:=HM5.out.c11;refine hK.out _ _ ?_ (fun hHeld=>?_)
 ·(try dsimp only);(first|(and_intros<;>with_reducible assumption)|(and_intros<;>assumption)|go_keep|trivial)
 clear hK K
 try simp only[qs]
 refine aG 6 fun K hK=>?_
 (try go_simp)
 refine hK.out _ _ ?_ (fun hHeld=>?_)
 ·(try dsimp only);(first|(and_intros<;>with_reducible assumption)|(and_intros<;>assumption)|go_keep|trivial)
 clear hK K
 try simp only[qs]
 refine dn ?_;go_wp2;go_ret
 first|exact⟨_,rfl,hq⟩|exact hq
theorem kF(Nd St:Nat)(id nodes nb:Int)(act:Bool)(bs:List UInt8)(vb:Value)(f n1 n2 n3 n4 n5 n6 n7 n8:Int)(zs:List Int)(w:World)(hn:aI w Nd id nodes nb St act)(ht:aJ w)(hr:aR w w.heap.size vb bs)(hD:bD bs 9 f n1 n2 n3 n4 n5 n6 n7 n8 zs 0)(hff:(f==id)=false)(hno:decide (nodes<=f)=false)(Q:Value->World->Prop)(hC:∀W X la lc,Below w.heap.size w W->w.heap.size<=X->aB W X #[I T 9,I T f,I T n1,I T n2,I T n3,I T n4,I T n5,I T n6,I T n7,I T n8,J la zs.length lc] 136->bH W w.heap.size (J la zs.length lc) zs->Calls pG 201 #[P0 (Y ⟨Nd,0,Z⟩),.agg #[I T 9,I T f,I T n1,I T n2,I T n3,I T n4,I T n5,I T n6,I T n7,I T n8,J la zs.length lc]] W fun r W1=>∃k0 f0 e0 b0 a0 p0 s0 q0 l0 v0,r=.returned (.agg #[I T k0,I T f0,I T e0,I T b0,I T a0,I T p0,I T s0,I T q0,I T l0,I T v0,J Z 0 0])/\aB W1 X #[I T 9,I T f,I T n1,I T n2,I T n3,I T n4,I T n5,I T n6,I T n7,I T n8,J la zs.length lc] 136/\Calls pG 195 #[P0 (Y ⟨Nd,0,Z⟩),.agg #[I T 9,I T f,I T n1,I T n2,I T n3,I T n4,I T n5,I T n6,I T n7,I T n8,J la zs.length lc],.agg #[I T k0,I T f0,I T e0,I T b0,I T a0,I T p0,I T s0,I T q0,I T l0,I T v0,J Z 0 0]] W1 fun r2 W2=>∃l,r2=.returned l/\aB W2 X #[I T 9,I T f,I T n1,I T n2,I T n3,I T n4,I T n5,I T n6,I T n7,I T n8,J la zs.length lc] 136/\Q l W2):
  Calls pG 143 #[P0 (Y ⟨Nd,0,Z⟩),vb] w fun r w'=>∃l,r=.returned l/\Q l w':=by
 have HC:=aA hC;clear hC;have HN0:=aA hn;have HD:=aA hD;have HT0:=aA ht;have HR0:=aA hr;clear hn hD ht hr;go_enter Tryz.func143,Tryz.ntmps143
 go_wp2_with fail
 refine(gN bs vb w HT0.out HR0.out 9 f n1 n2 n3 n4 n5 n6 n7 n8 zs 0 HD.out).mono ?_;rintro r w1 ⟨la,lc,rfl,ho1,hb1⟩;have hs1:=hb1.size;have HM:=aA (aB.new w1 #[I T 9,I T f,I T n1,I T n2,I T n3,I T n4,I T n5,I T n6,I T n7,I T n8,J la zs.length lc] 136);have HB:Hid (Below w.heap.size w (w1.alloc (G #[I T 9,I T f,I T n1,I T n2,I T n3,I T n4,I T n5,I T n6,I T n7,I T n8,J la zs.length lc] 136))):=hb1.alloc hs1 _;have HO:Hid (bH (w1.alloc (G #[I T 9,I T f,I T n1,I T n2,I T n3,I T n4,I T n5,I T n6,I T n7,I T n8,J la zs.length lc] 136)) w.heap.size (J la zs.length lc) zs):=World.ownsRow.alloc ho1 _;have HN:=aA (HN0.out.later HB.out);clear ho1 hb1 HT0 HR0 HD HN0
 go_upto_region 2 with fail
 generalize (w1.alloc (G #[I T 9,I T f,I T n1,I T n2,I T n3,I T n4,I T n5,I T n6,I T n7,I T n8,J la zs.length lc] 136))=W0 at*;generalize w1.heap.size=X at*;have hX:w.heap.size<=X:=hs1;have hs0:=HB.out.size;obtain⟨m0,m1,m2,m3,m4,m5,m6,m7,m8,m9,m10⟩:=HM.out.c11;have c0:=HN.out.blk.cell 0;have c1:=HN.out.blk.cell 1;have c4:=HN.out.blk.cell 4;simp at c0 c1 c4
 go_cut [37] (fun s37 wx=>s37=.bool false/\Below W0.heap.size W0 wx)
 case first=>
  go_quiet (fail)
  go_wp2_with fail
  go_meet
  exact⟨rfl,below_drewN (Below.refl _ _) _⟩
 case rest=>
 obtain⟨rfl,hbx⟩:=hcut;obtain⟨W3,hW3⟩:∃y,y=wc:=⟨_,rfl⟩;subst hW3;have HB3:=aA (HB.out.trans (hbx.mono hs0));have HM3:=aA (HM.out.later hbx);have HN3:=aA (HN.out.later hbx);have HO3:=aA (aH HO.out (fun g hg=>hbx.block g (l7 HO.out hg)));have hs3:=HB3.out.size;clear hbx HB HM HN HO hs0 m0 m1 m2 m3 m4 m5 m6 m7 m8 m9 m10 c0 c1 c4;obtain⟨m0,m1,m2,m3,m4,m5,m6,m7,m8,m9,m10⟩:=HM3.out.c11
 go_upto_region 18 with fail
 refine wp_region_held_drew (S:=(fun w'=>w'.cell? ⟨X,0,Z⟩=Y (I T 9)/\w'.cell? ⟨X,1,Z⟩=Y (I T f)/\w'.cell? ⟨X,2,Z⟩=Y (I T n1)/\w'.cell? ⟨X,3,Z⟩=Y (I T n2)/\w'.cell? ⟨X,4,Z⟩=Y (I T n3)/\w'.cell? ⟨X,5,Z⟩=Y (I T n4)/\w'.cell? ⟨X,6,Z⟩=Y (I T n5)/\w'.cell? ⟨X,7,Z⟩=Y (I T n6)/\w'.cell? ⟨X,8,Z⟩=Y (I T n7)/\w'.cell? ⟨X,9,Z⟩=Y (I T n8)/\w'.cell? ⟨X,10,Z⟩=Y (J la zs.length lc))) (by kernel_rfl) (by(try dsimp only);(first|(and_intros<;>with_reducible assumption)|(and_intros<;>assumption)|go_keep|trivial)) (fun hHeld=>?_);refine tk 0 ?_;refine tk 1 ?_;refine tk 2 ?_;refine tk 3 ?_;refine aG 4 fun K hK=>?_
 (try go_simp)
 go_at_call 201
 refine(HC.out W3.drew X la lc HB3.out.drew hX HM3.out.drew (aH HO3.out (fun _ _=>rfl))).mono ?_;rintro r w4 ⟨k0,f0,e0,b0,a0,p0,s0,q0,l0,v0,rfl,hm4,hc4⟩;have HM4:=aA hm4;have HC4:=aA hc4;clear hm4 hc4;obtain⟨y0,y1,y2,y3,y4,y5,y6,y7,y8,y9,y10⟩:=HM4.out.c11;refine hK.out _ _ ?_ (fun hHeld=>?_)
 ·(try dsimp only);(first|(and_intros<;>with_reducible assumption)|(and_intros<;>assumption)|go_keep|trivial)
 clear hK K
 try simp only[qs]
 refine aG 5 fun K hK=>?_
 (try go_simp)
 go_at_call 195
 refine Calls.mono HC4.out ?_;rintro r w5 ⟨l,rfl,hm5,hq⟩;have HM5:=aA hm5;clear hm5;obtain⟨z0,z1,z2,z3,z4,z5,z6,z7,z8,z9,z10⟩:=HM5.out.c11;refine hK.out _ _ ?_ (fun hHeld=>?_)
 ·(try dsimp only);(first|(and_intros<;>with_reducible assumption)|(and_intros<;>assumption)|go_keep|trivial)
 clear hK K
 try simp only[qs]
 refine aG 6 fun K hK=>?_
 (try go_simp)
 refine hK.out _ _ ?_ (fun hHeld=>?_)
 ·(try dsimp only);(first|(and_intros<;>with_reducible assumption)|(and_intros<;>assumption)|go_keep|trivial)
 clear hK K
 try simp only[qs]
 refine dn ?_;go_wp2;go_ret
 first|exact⟨_,rfl,hq⟩|exact hq
theorem aJ.kept{A:Nat->Prop}{w w':World}(h:aJ w)(hk:aK A w w')(h0:¬A 0)(h1:¬A 1):aJ w':=by
  have e0:=hk.block 0 (by have:=h.two;omega) h0;have e1:=hk.block 1 (by have:=h.two;omega) h1;refine⟨fun k j hk2 hj=>?_,fun f hf=>?_,Nat.le_trans h.two hk.size⟩
  · have h9:=h.fld k j hk2 hj
    simp only[World.cell?]at h9⊢;rw[e0];exact h9
  · have h9:=h.lim f hf
    simp only[World.cell?]at h9⊢;rw[e1];exact h9
def aZ(w:World)(low Nd:Nat)(id nodes nb:Int)(act:Bool)(St:Nat)(vr:Value)(Mp D H S:Nat)(va:Value)(L:Nat)(P:SD->Prop)(o:Option (Int×List UInt8))(l:Value)(w':World):Prop:=
  (match o with
    |none=>l=J Z 0 0
    | some (dst,x)=>∃v,w'.ownsRow w.heap.size 172 2 l 1 [I T dst,v]/\bJ w' w.heap.size v x)/\
  bT w w' low Nd id nodes nb act St vr Mp D H S va L P
theorem nA{w:World}{low St:Nat}{d:SD}{vr:Value}{Mp D H S:Nat}{va:Value}{fs:List FD}{L:Nat}(h:aF w low St d vr Mp D)(hk:aL w low D H S va fs L)(h1:2<=St)(h2:2<=Mp)(h3:2<=S)(h4:2<=low){g:Nat}(hg:eH St vr Mp S va g):2<=g:=by
  rcases hg with hh|hh|hh|hh|hh
  · omega
  · omega
  · have:=(h.rcs.lt g hh).1;omega
  · omega
  · have:=(hk.ds.row.lt g hh).1;omega
theorem bT.copy{w w':World}{low Nd:Nat}{id nodes nb:Int}{act:Bool}{St:Nat}{vr:Value}{Mp D H S:Nat}{va:Value}{L:Nat}{P:SD->Prop}(h:bT w w' low Nd id nodes nb act St vr Mp D H S va L P):
  ∃vr' va' fs' d',P d'/\aI w' Nd id nodes nb St act/\aF w' low St d' vr' Mp D/\aL w' low D H S va' fs' L/\(∀g,va'.ownBlock=Y g->va.ownBlock=Y g∨w.heap.size<=g)/\(∀g,vr'.ownBlock=Y g->vr.ownBlock=Y g∨w.heap.size<=g)/\aK (fun g=>g=Nd∨eH St vr Mp S va g) w w':=h
theorem fW(fn:FuncId)(low Nd St:Nat)(d:SD)(vr:Value)(Mp D H S:Nat)(va:Value)(fs:List FD)(L L':Nat)(P:SD->Prop)(id nodes nb:Int)(act act':Bool)(K f n1 n2 n3 n4 n5 n6 n7 n8:Int)(zs:List Int)(w:World)(hn:aI w Nd id nodes nb St act)(h:aF w low St d vr Mp D)(hk:aL w low D H S va fs L)(ht:aJ w)(hNd2:2<=Nd)(hSt2:2<=St)(hMp2:2<=Mp)(hS2:2<=S)(hl2:2<=low)(k0 e0 b0 a0 p0 s0 q0 l0 v0:Int)(hn5:nodes<=5)(hF0:0<=f)(hF:f<nodes)(hk0:¬k0=0)(hm:aN k0 id [0,e0,b0,a0,p0,s0,q0,l0,v0,0]=true)(hcall:∀W la lc,Below w.heap.size w W->bH W w.heap.size (J la zs.length lc) zs->Calls pG fn #[P0 (Y ⟨Nd,0,Z⟩),.agg #[I T K,I T f,I T n1,I T n2,I T n3,I T n4,I T n5,I T n6,I T n7,I T n8,J la zs.length lc]] W fun r W1=>r=.returned (.agg #[I T k0,I T 0,I T e0,I T b0,I T a0,I T p0,I T s0,I T q0,I T l0,I T v0,J Z 0 0])/\bT W W1 low Nd id nodes nb act' St vr Mp D H S va L' P):
    ∀W X la lc,Below w.heap.size w W->w.heap.size<=X->aB W X #[I T K,I T f,I T n1,I T n2,I T n3,I T n4,I T n5,I T n6,I T n7,I T n8,J la zs.length lc] 136->bH W w.heap.size (J la zs.length lc) zs->Calls pG fn #[P0 (Y ⟨Nd,0,Z⟩),.agg #[I T K,I T f,I T n1,I T n2,I T n3,I T n4,I T n5,I T n6,I T n7,I T n8,J la zs.length lc]] W fun r W1=>∃k1 f1 e1 b1 a1 p1 s1 q1 l1 v1,r=.returned (.agg #[I T k1,I T f1,I T e1,I T b1,I T a1,I T p1,I T s1,I T q1,I T l1,I T v1,J Z 0 0])/\aB W1 X #[I T K,I T f,I T n1,I T n2,I T n3,I T n4,I T n5,I T n6,I T n7,I T n8,J la zs.length lc] 136/\Calls pG 195 #[P0 (Y ⟨Nd,0,Z⟩),.agg #[I T K,I T f,I T n1,I T n2,I T n3,I T n4,I T n5,I T n6,I T n7,I T n8,J la zs.length lc],.agg #[I T k1,I T f1,I T e1,I T b1,I T a1,I T p1,I T s1,I T q1,I T l1,I T v1,J Z 0 0]] W1 fun r2 W2=>∃l,r2=.returned l/\aB W2 X #[I T K,I T f,I T n1,I T n2,I T n3,I T n4,I T n5,I T n6,I T n7,I T n8,J la zs.length lc] 136/\aZ w low Nd id nodes nb act' St vr Mp D H S va L' P (Y (f,aT k0 id e0 b0 a0 p0 s0 q0 l0 v0 [])) l W2:=by
  intro W X la lc hb hX hM hO;refine(hcall W la lc hb hO).mono ?_;rintro r W1 ⟨rfl,hnow⟩;obtain⟨vr',va',fs',d',g1,g2,g3,g4,g5,g6,g7⟩:=hnow.copy
  have hM1:aB W1 X _ 136:=hM.same (g7.block X hM.lt (by
    rintro(hh|hh)
    · exact hM.ne (hn.later hb).blk (by decide) hh
    · exact gA (h.later hb) (hk.later hb) hM (by decide) (by decide) (by decide) (by decide) hh))
  have ht1:=(ht.below hb ht.two).kept g7
    (by rintro(hh|hh)
        · omega
        · have:=nA h hk hSt2 hMp2 hS2 hl2 hh;omega)
    (by rintro(hh|hh)
        · omega
        · have:=nA h hk hSt2 hMp2 hS2 hl2 hh;omega)
  have hsz:w.heap.size<=W1.heap.size:=Nat.le_trans hb.size g7.size;refine⟨k0,0,e0,b0,a0,p0,s0,q0,l0,v0,rfl,hM1,?_⟩;refine(B8 Nd St id nodes nb act' K f n1 n2 n3 n4 n5 n6 n7 n8 _ k0 0 e0 b0 a0 p0 s0 q0 l0 v0 W1 g2 ht1 ht1.two hn5 hF0 hF hk0 hm).mono ?_;rintro r2 W2 ⟨l,x,rfl,hl,hx,hb2⟩;exact⟨l,rfl,hM1.later hb2,⟨x,cM hl hsz,cM hx hsz⟩,(hnow.pre hb).later hb2⟩
theorem lI(fn:FuncId)(low Nd St:Nat)(d:SD)(vr:Value)(Mp D H S:Nat)(va:Value)(fs:List FD)(L L':Nat)(P:SD->Prop)(id nodes nb:Int)(act act':Bool)(K f n1 n2 n3 n4 n5 n6 n7 n8:Int)(zs:List Int)(w:World)(hn:aI w Nd id nodes nb St act)(h:aF w low St d vr Mp D)(hk:aL w low D H S va fs L)(ht:aJ w)(hNd2:2<=Nd)(hSt2:2<=St)(hMp2:2<=Mp)(hS2:2<=S)(hl2:2<=low)(hcall:∀W la lc,Below w.heap.size w W->bH W w.heap.size (J la zs.length lc) zs->Calls pG fn #[P0 (Y ⟨Nd,0,Z⟩),.agg #[I T K,I T f,I T n1,I T n2,I T n3,I T n4,I T n5,I T n6,I T n7,I T n8,J la zs.length lc]] W fun r W1=>r=.returned (.agg #[I T 0,I T 0,I T 0,I T 0,I T 0,I T 0,I T 0,I T 0,I T 0,I T 0,J Z 0 0])/\bT W W1 low Nd id nodes nb act' St vr Mp D H S va L' P):
    ∀W X la lc,Below w.heap.size w W->w.heap.size<=X->aB W X #[I T K,I T f,I T n1,I T n2,I T n3,I T n4,I T n5,I T n6,I T n7,I T n8,J la zs.length lc] 136->bH W w.heap.size (J la zs.length lc) zs->Calls pG fn #[P0 (Y ⟨Nd,0,Z⟩),.agg #[I T K,I T f,I T n1,I T n2,I T n3,I T n4,I T n5,I T n6,I T n7,I T n8,J la zs.length lc]] W fun r W1=>∃k1 f1 e1 b1 a1 p1 s1 q1 l1 v1,r=.returned (.agg #[I T k1,I T f1,I T e1,I T b1,I T a1,I T p1,I T s1,I T q1,I T l1,I T v1,J Z 0 0])/\aB W1 X #[I T K,I T f,I T n1,I T n2,I T n3,I T n4,I T n5,I T n6,I T n7,I T n8,J la zs.length lc] 136/\Calls pG 195 #[P0 (Y ⟨Nd,0,Z⟩),.agg #[I T K,I T f,I T n1,I T n2,I T n3,I T n4,I T n5,I T n6,I T n7,I T n8,J la zs.length lc],.agg #[I T k1,I T f1,I T e1,I T b1,I T a1,I T p1,I T s1,I T q1,I T l1,I T v1,J Z 0 0]] W1 fun r2 W2=>∃l,r2=.returned l/\aB W2 X #[I T K,I T f,I T n1,I T n2,I T n3,I T n4,I T n5,I T n6,I T n7,I T n8,J la zs.length lc] 136/\aZ w low Nd id nodes nb act' St vr Mp D H S va L' P none l W2:=by
  intro W X la lc hb hX hM hO;refine(hcall W la lc hb hO).mono ?_;rintro r W1 ⟨rfl,hnow⟩;obtain⟨vr',va',fs',d',g1,g2,g3,g4,g5,g6,g7⟩:=hnow.copy
  have hM1:aB W1 X _ 136:=hM.same (g7.block X hM.lt (by
    rintro(hh|hh)
    · exact hM.ne (hn.later hb).blk (by decide) hh
    · exact gA (h.later hb) (hk.later hb) hM (by decide) (by decide) (by decide) (by decide) hh))
  have ht1:=(ht.below hb ht.two).kept g7
    (by rintro(hh|hh)
        · omega
        · have:=nA h hk hSt2 hMp2 hS2 hl2 hh;omega)
    (by rintro(hh|hh)
        · omega
        · have:=nA h hk hSt2 hMp2 hS2 hl2 hh;omega)
  have hsz:w.heap.size<=W1.heap.size:=Nat.le_trans hb.size g7.size;refine⟨0,0,0,0,0,0,0,0,0,0,rfl,hM1,?_⟩;refine(B7 Nd K f n1 n2 n3 n4 n5 n6 n7 n8 _ W1).mono ?_;rintro r2 W2 ⟨rfl,hb2⟩;exact⟨_,rfl,hM1.later hb2,rfl,(hnow.pre hb).later hb2⟩
end
theorem i9{w:World}{low St:Nat}{d:SD}{vr:Value}{Mp D H S:Nat}{va:Value}{fs:List FD}{L:Nat}(h:aF w low St d vr Mp D)(hk:aL w low D H S va fs L){g:Nat}(hg:eH St vr Mp S va g):g<w.heap.size:=by
 rcases hg with hh|hh|hh|hh|hh
 ·rw[hh];exact h.blk.lt
 ·rw[hh];exact h.vot.lt
 ·exact(h.rcs.lt g hh).2
 ·rw[hh];exact hk.ds.lt
 ·exact(hk.ds.row.lt g hh).2
theorem AG(low Nd St:Nat)(d:SD)(vr:Value)(Mp D H S:Nat)(va:Value)(fs:List FD)(L:Nat)(id nodes nb:Int)(act:Bool)(bs:List UInt8)(vb:Value)(f n2 n3 n4 n5 n6 n7 n8:Int)(E:Nat)(zs:List Int)(w:World)(hn:aI w Nd id nodes nb St act)(h:aF w low St d vr Mp D)(hk:aL w low D H S va fs L)(ht:aJ w)(hr:aR w w.heap.size vb bs)(hD:bD bs 1 f (E:Int) n2 n3 n4 n5 n6 n7 n8 zs 0)(hff:(f==id)=false)(hno:decide (nodes<=f)=false)(hNd2:2<=Nd)(hSt2:2<=St)(hMp2:2<=Mp)(hS2:2<=S)(hl2:2<=low)(hn5:nodes<=5)(hF0:0<=f)(hF:f<nodes)(hne:0<d.recs.length)(hlt:d.recs.length<=1300000)(hE:E+1<d.recs.length)(hm:aN 6 id [0,(E:Int),0,0,(d.recs.getD (E+1) ⟨0,0,0⟩).P,(d.recs.getD (E+1) ⟨0,0,0⟩).S,0,0,0,0]=true):
  Calls pG 143 #[P0 (Y ⟨Nd,0,Z⟩),vb] w fun r w'=>∃l,r=.returned l/\(aZ w low Nd id nodes nb act St vr Mp D H S va L (fun d'=>d'=d) (Y (f,aT 6 id (E:Int) 0 0 (d.recs.getD (E+1) ⟨0,0,0⟩).P (d.recs.getD (E+1) ⟨0,0,0⟩).S 0 0 0 []))) l w':=by
 refine mV Nd St id nodes nb act bs vb f (E:Int) n2 n3 n4 n5 n6 n7 n8 zs w hn ht hr hD hff hno (aZ w low Nd id nodes nb act St vr Mp D H S va L (fun d'=>d'=d) (Y (f,aT 6 id (E:Int) 0 0 (d.recs.getD (E+1) ⟨0,0,0⟩).P (d.recs.getD (E+1) ⟨0,0,0⟩).S 0 0 0 []))) ?_;refine fW 196 low Nd St d vr Mp D H S va fs L L (fun d'=>d'=d) id nodes nb act act 1 f (E:Int) n2 n3 n4 n5 n6 n7 n8 zs w hn h hk ht hNd2 hSt2 hMp2 hS2 hl2 6 (E:Int) 0 0 (d.recs.getD (E+1) ⟨0,0,0⟩).P (d.recs.getD (E+1) ⟨0,0,0⟩).S 0 0 0 hn5 hF0 hF (by decide) hm ?_;intro W la lc hb hO;refine(sP low Nd St d vr Mp D id nodes nb act 1 f n2 n3 n4 n5 n6 n7 n8 la zs lc W (hn.later hb) (h.later hb) hne hlt E hE).mono ?_;rintro r W1 ⟨rfl,hb1⟩;exact⟨rfl,bT.still (hn.later hb) (h.later hb) (hk.later hb) hb1 (Nat.le_refl _) rfl⟩
theorem AH(low Nd St:Nat)(d:SD)(vr:Value)(Mp D H S:Nat)(va:Value)(fs:List FD)(L:Nat)(id nodes nb:Int)(act:Bool)(bs:List UInt8)(vb:Value)(f n1 n2 n3 n4 n5 n6 n7 n8:Int)(zs:List Int)(w:World)(hn:aI w Nd id nodes nb St act)(h:aF w low St d vr Mp D)(hk:aL w low D H S va fs L)(ht:aJ w)(hr:aR w w.heap.size vb bs)(hD:bD bs 1 f n1 n2 n3 n4 n5 n6 n7 n8 zs 0)(hff:(f==id)=false)(hno:decide (nodes<=f)=false)(hNd2:2<=Nd)(hSt2:2<=St)(hMp2:2<=Mp)(hS2:2<=S)(hl2:2<=low)(hn5:nodes<=5)(hF0:0<=f)(hF:f<nodes)(hne:0<d.recs.length)(hlt:d.recs.length<=1300000)(he:(d.recs.length:Int) - 1<=n1)(hbb:n2<(aE d.vts n1).pr)(hm:aN 5 id [0,n1,n2,(aE d.vts n1).pr,0,0,0,0,0,0]=true):
  Calls pG 143 #[P0 (Y ⟨Nd,0,Z⟩),vb] w fun r w'=>∃l,r=.returned l/\(aZ w low Nd id nodes nb act St vr Mp D H S va L (fun d'=>d'=d) (Y (f,aT 5 id n1 n2 (aE d.vts n1).pr 0 0 0 0 0 []))) l w':=by
 refine mV Nd St id nodes nb act bs vb f n1 n2 n3 n4 n5 n6 n7 n8 zs w hn ht hr hD hff hno (aZ w low Nd id nodes nb act St vr Mp D H S va L (fun d'=>d'=d) (Y (f,aT 5 id n1 n2 (aE d.vts n1).pr 0 0 0 0 0 []))) ?_;refine fW 196 low Nd St d vr Mp D H S va fs L L (fun d'=>d'=d) id nodes nb act act 1 f n1 n2 n3 n4 n5 n6 n7 n8 zs w hn h hk ht hNd2 hSt2 hMp2 hS2 hl2 5 n1 n2 (aE d.vts n1).pr 0 0 0 0 0 hn5 hF0 hF (by decide) hm ?_;intro W la lc hb hO;refine(sQ low Nd St d vr Mp D id nodes nb act 1 f n1 n2 n3 n4 n5 n6 n7 n8 la zs lc W (hn.later hb) (h.later hb) hne hlt he hbb).mono ?_;rintro r W1 ⟨rfl,hb1⟩;exact⟨rfl,bT.still (hn.later hb) (h.later hb) (hk.later hb) hb1 (Nat.le_refl _) rfl⟩
theorem xX(low Nd St:Nat)(d:SD)(vr:Value)(Mp D H S:Nat)(va:Value)(fs:List FD)(L:Nat)(id nodes nb:Int)(act:Bool)(bs:List UInt8)(vb:Value)(f n1 n2 n3 n4 n5 n6 n7 n8:Int)(zs:List Int)(w:World)(hn:aI w Nd id nodes nb St act)(h:aF w low St d vr Mp D)(hk:aL w low D H S va fs L)(ht:aJ w)(hr:aR w w.heap.size vb bs)(hD:bD bs 1 f n1 n2 n3 n4 n5 n6 n7 n8 zs 0)(hff:(f==id)=false)(hno:decide (nodes<=f)=false)(hNd2:2<=Nd)(hSt2:2<=St)(hMp2:2<=Mp)(hS2:2<=S)(hl2:2<=low)(hn5:nodes<=5)(hF0:0<=f)(hF:f<nodes)(hne:0<d.recs.length)(hlt:d.recs.length<=1300000)(he:(d.recs.length:Int) - 1<=n1)(hbb:¬n2<(aE d.vts n1).pr)(hsame:(aE d.vts n1).after 1 n2 n4 n5=aE d.vts n1)(hm:aN 2 id [0,n1,n2,(aE d.vts n1).ac,(aE d.vts n1).pm,(aE d.vts n1).st,0,0,0,0]=true):
  Calls pG 143 #[P0 (Y ⟨Nd,0,Z⟩),vb] w fun r w'=>∃l,r=.returned l/\(aZ w low Nd id nodes nb act St vr Mp D H S va L (fun d'=>d'=d) (Y (f,aT 2 id n1 n2 (aE d.vts n1).ac (aE d.vts n1).pm (aE d.vts n1).st 0 0 0 []))) l w':=by
 refine mV Nd St id nodes nb act bs vb f n1 n2 n3 n4 n5 n6 n7 n8 zs w hn ht hr hD hff hno (aZ w low Nd id nodes nb act St vr Mp D H S va L (fun d'=>d'=d) (Y (f,aT 2 id n1 n2 (aE d.vts n1).ac (aE d.vts n1).pm (aE d.vts n1).st 0 0 0 []))) ?_;refine fW 196 low Nd St d vr Mp D H S va fs L L (fun d'=>d'=d) id nodes nb act act 1 f n1 n2 n3 n4 n5 n6 n7 n8 zs w hn h hk ht hNd2 hSt2 hMp2 hS2 hl2 2 n1 n2 (aE d.vts n1).ac (aE d.vts n1).pm (aE d.vts n1).st 0 0 0 hn5 hF0 hF (by decide) hm ?_;intro W la lc hb hO;refine(sE low Nd St d vr Mp D id nodes nb act 1 f n1 n2 n3 n4 n5 n6 n7 n8 la zs lc W (hn.later hb) (h.later hb) hne hlt (.inl rfl) he hbb hsame).mono ?_;rintro r W1 ⟨rfl,hb1⟩;exact⟨rfl,bT.still (hn.later hb) (h.later hb) (hk.later hb) hb1 (Nat.le_refl _) rfl⟩
theorem AI(hSO:cU)(hBW:cV)(hBS:cS)(low Nd St:Nat)(d:SD)(vr:Value)(Mp D H S:Nat)(va:Value)(fs:List FD)(L:Nat)(id nodes nb:Int)(act:Bool)(bs:List UInt8)(vb:Value)(f n1 n2 n3 n4 n5 n6 n7 n8:Int)(zs:List Int)(w:World)(hn:aI w Nd id nodes nb St act)(h:aF w low St d vr Mp D)(hk:aL w low D H S va fs L)(ht:aJ w)(hr:aR w w.heap.size vb bs)(hD:bD bs 1 f n1 n2 n3 n4 n5 n6 n7 n8 zs 0)(hff:(f==id)=false)(hno:decide (nodes<=f)=false)(hNd2:2<=Nd)(hSt2:2<=St)(hMp2:2<=Mp)(hS2:2<=S)(hl2:2<=low)(hn5:nodes<=5)(hF0:0<=f)(hF:f<nodes)(hne:0<d.recs.length)(hlt:d.recs.length<=1300000)(hlow:low<=w.heap.size)(hL:L<=1200000000)(hlv:d.vts.length<=1300000)(hln:0<=d.lines/\d.lines<=100000000)(hre:∀r∈d.recs,0<=r.E/\r.E<=10000000000000)(hid:0<=d.id/\d.id<5)(he9:0<=n1/\n1<=1000000000000)(he:(d.recs.length:Int) - 1<=n1)(hbb:¬n2<(aE d.vts n1).pr)(hsame:¬(aE d.vts n1).after 1 n2 n4 n5=aE d.vts n1)(hm:aN 2 id [0,n1,n2,(aE d.vts n1).ac,(aE d.vts n1).pm,(aE d.vts n1).st,0,0,0,0]=true):
  Calls pG 143 #[P0 (Y ⟨Nd,0,Z⟩),vb] w fun r w'=>∃l,r=.returned l/\(aZ w low Nd id nodes nb act St vr Mp D H S va (dD L d) (fun d'=>∃ln,dR d ln/\d'=({d with lines:=ln}:SD).step 1 n1 n2 n4 n5 n6 n7 n8 zs) (Y (f,aT 2 id n1 n2 (aE d.vts n1).ac (aE d.vts n1).pm (aE d.vts n1).st 0 0 0 []))) l w':=by
 refine mV Nd St id nodes nb act bs vb f n1 n2 n3 n4 n5 n6 n7 n8 zs w hn ht hr hD hff hno (aZ w low Nd id nodes nb act St vr Mp D H S va (dD L d) (fun d'=>∃ln,dR d ln/\d'=({d with lines:=ln}:SD).step 1 n1 n2 n4 n5 n6 n7 n8 zs) (Y (f,aT 2 id n1 n2 (aE d.vts n1).ac (aE d.vts n1).pm (aE d.vts n1).st 0 0 0 []))) ?_;refine fW 196 low Nd St d vr Mp D H S va fs L (dD L d) (fun d'=>∃ln,dR d ln/\d'=({d with lines:=ln}:SD).step 1 n1 n2 n4 n5 n6 n7 n8 zs) id nodes nb act act 1 f n1 n2 n3 n4 n5 n6 n7 n8 zs w hn h hk ht hNd2 hSt2 hMp2 hS2 hl2 2 n1 n2 (aE d.vts n1).ac (aE d.vts n1).pm (aE d.vts n1).st 0 0 0 hn5 hF0 hF (by decide) hm ?_;intro W la lc hb hO;have hz:=jF hO;refine(sR hSO hBW hBS low Nd St d vr Mp D id nodes nb act 1 f n1 n2 n3 n4 n5 n6 n7 n8 la zs lc W H S va fs L (hn.later hb) (h.later hb) hne hlt (hk.later hb) (ht.below hb ht.two) hz.1 (Nat.le_trans ht.two hb.size) (Nat.le_trans hlow hb.size) hL hlv hln hSt2 (fun ad ha hh=>by have h1:=hz.2 ad ha;have h2:=h.blk.lt;omega) hre hid he9 (fun ad ha hh=>by have h1:=hz.2 ad ha;have h2:=i9 h hk hh;omega) (.inl rfl) he hbb hsame).mono ?_;rintro r W1 ⟨rfl,hnow⟩;exact⟨rfl,hnow⟩
theorem AJ(low Nd St:Nat)(d:SD)(vr:Value)(Mp D H S:Nat)(va:Value)(fs:List FD)(L:Nat)(id nodes nb:Int)(act:Bool)(bs:List UInt8)(vb:Value)(f n2 n3 n4 n5 n6 n7 n8:Int)(E:Nat)(zs:List Int)(w:World)(hn:aI w Nd id nodes nb St act)(h:aF w low St d vr Mp D)(hk:aL w low D H S va fs L)(ht:aJ w)(hr:aR w w.heap.size vb bs)(hD:bD bs 3 f (E:Int) n2 n3 n4 n5 n6 n7 n8 zs 0)(hff:(f==id)=false)(hno:decide (nodes<=f)=false)(hNd2:2<=Nd)(hSt2:2<=St)(hMp2:2<=Mp)(hS2:2<=S)(hl2:2<=low)(hn5:nodes<=5)(hF0:0<=f)(hF:f<nodes)(hne:0<d.recs.length)(hlt:d.recs.length<=1300000)(hE:E+1<d.recs.length)(hm:aN 6 id [0,(E:Int),0,0,(d.recs.getD (E+1) ⟨0,0,0⟩).P,(d.recs.getD (E+1) ⟨0,0,0⟩).S,0,0,0,0]=true):
  Calls pG 143 #[P0 (Y ⟨Nd,0,Z⟩),vb] w fun r w'=>∃l,r=.returned l/\(aZ w low Nd id nodes nb act St vr Mp D H S va L (fun d'=>d'=d) (Y (f,aT 6 id (E:Int) 0 0 (d.recs.getD (E+1) ⟨0,0,0⟩).P (d.recs.getD (E+1) ⟨0,0,0⟩).S 0 0 0 []))) l w':=by
 refine mW Nd St id nodes nb act bs vb f (E:Int) n2 n3 n4 n5 n6 n7 n8 zs w hn ht hr hD hff hno (aZ w low Nd id nodes nb act St vr Mp D H S va L (fun d'=>d'=d) (Y (f,aT 6 id (E:Int) 0 0 (d.recs.getD (E+1) ⟨0,0,0⟩).P (d.recs.getD (E+1) ⟨0,0,0⟩).S 0 0 0 []))) ?_;refine fW 196 low Nd St d vr Mp D H S va fs L L (fun d'=>d'=d) id nodes nb act act 3 f (E:Int) n2 n3 n4 n5 n6 n7 n8 zs w hn h hk ht hNd2 hSt2 hMp2 hS2 hl2 6 (E:Int) 0 0 (d.recs.getD (E+1) ⟨0,0,0⟩).P (d.recs.getD (E+1) ⟨0,0,0⟩).S 0 0 0 hn5 hF0 hF (by decide) hm ?_;intro W la lc hb hO;refine(sP low Nd St d vr Mp D id nodes nb act 3 f n2 n3 n4 n5 n6 n7 n8 la zs lc W (hn.later hb) (h.later hb) hne hlt E hE).mono ?_;rintro r W1 ⟨rfl,hb1⟩;exact⟨rfl,bT.still (hn.later hb) (h.later hb) (hk.later hb) hb1 (Nat.le_refl _) rfl⟩
theorem AK(low Nd St:Nat)(d:SD)(vr:Value)(Mp D H S:Nat)(va:Value)(fs:List FD)(L:Nat)(id nodes nb:Int)(act:Bool)(bs:List UInt8)(vb:Value)(f n1 n2 n3 n4 n5 n6 n7 n8:Int)(zs:List Int)(w:World)(hn:aI w Nd id nodes nb St act)(h:aF w low St d vr Mp D)(hk:aL w low D H S va fs L)(ht:aJ w)(hr:aR w w.heap.size vb bs)(hD:bD bs 3 f n1 n2 n3 n4 n5 n6 n7 n8 zs 0)(hff:(f==id)=false)(hno:decide (nodes<=f)=false)(hNd2:2<=Nd)(hSt2:2<=St)(hMp2:2<=Mp)(hS2:2<=S)(hl2:2<=low)(hn5:nodes<=5)(hF0:0<=f)(hF:f<nodes)(hne:0<d.recs.length)(hlt:d.recs.length<=1300000)(he:(d.recs.length:Int) - 1<=n1)(hbb:n2<(aE d.vts n1).pr)(hm:aN 5 id [0,n1,n2,(aE d.vts n1).pr,0,0,0,0,0,0]=true):
  Calls pG 143 #[P0 (Y ⟨Nd,0,Z⟩),vb] w fun r w'=>∃l,r=.returned l/\(aZ w low Nd id nodes nb act St vr Mp D H S va L (fun d'=>d'=d) (Y (f,aT 5 id n1 n2 (aE d.vts n1).pr 0 0 0 0 0 []))) l w':=by
 refine mW Nd St id nodes nb act bs vb f n1 n2 n3 n4 n5 n6 n7 n8 zs w hn ht hr hD hff hno (aZ w low Nd id nodes nb act St vr Mp D H S va L (fun d'=>d'=d) (Y (f,aT 5 id n1 n2 (aE d.vts n1).pr 0 0 0 0 0 []))) ?_;refine fW 196 low Nd St d vr Mp D H S va fs L L (fun d'=>d'=d) id nodes nb act act 3 f n1 n2 n3 n4 n5 n6 n7 n8 zs w hn h hk ht hNd2 hSt2 hMp2 hS2 hl2 5 n1 n2 (aE d.vts n1).pr 0 0 0 0 0 hn5 hF0 hF (by decide) hm ?_;intro W la lc hb hO;refine(sQ low Nd St d vr Mp D id nodes nb act 3 f n1 n2 n3 n4 n5 n6 n7 n8 la zs lc W (hn.later hb) (h.later hb) hne hlt he hbb).mono ?_;rintro r W1 ⟨rfl,hb1⟩;exact⟨rfl,bT.still (hn.later hb) (h.later hb) (hk.later hb) hb1 (Nat.le_refl _) rfl⟩
theorem xY(low Nd St:Nat)(d:SD)(vr:Value)(Mp D H S:Nat)(va:Value)(fs:List FD)(L:Nat)(id nodes nb:Int)(act:Bool)(bs:List UInt8)(vb:Value)(f n1 n2 n3 n4 n5 n6 n7 n8:Int)(zs:List Int)(w:World)(hn:aI w Nd id nodes nb St act)(h:aF w low St d vr Mp D)(hk:aL w low D H S va fs L)(ht:aJ w)(hr:aR w w.heap.size vb bs)(hD:bD bs 3 f n1 n2 n3 n4 n5 n6 n7 n8 zs 0)(hff:(f==id)=false)(hno:decide (nodes<=f)=false)(hNd2:2<=Nd)(hSt2:2<=St)(hMp2:2<=Mp)(hS2:2<=S)(hl2:2<=low)(hn5:nodes<=5)(hF0:0<=f)(hF:f<nodes)(hne:0<d.recs.length)(hlt:d.recs.length<=1300000)(he:(d.recs.length:Int) - 1<=n1)(hbb:¬n2<(aE d.vts n1).pr)(hsame:(aE d.vts n1).after 3 n2 n4 n5=aE d.vts n1)(hm:aN 4 id [0,n1,n2,0,0,0,0,0,0,0]=true):
  Calls pG 143 #[P0 (Y ⟨Nd,0,Z⟩),vb] w fun r w'=>∃l,r=.returned l/\(aZ w low Nd id nodes nb act St vr Mp D H S va L (fun d'=>d'=d) (Y (f,aT 4 id n1 n2 0 0 0 0 0 0 []))) l w':=by
 refine mW Nd St id nodes nb act bs vb f n1 n2 n3 n4 n5 n6 n7 n8 zs w hn ht hr hD hff hno (aZ w low Nd id nodes nb act St vr Mp D H S va L (fun d'=>d'=d) (Y (f,aT 4 id n1 n2 0 0 0 0 0 0 []))) ?_;refine fW 196 low Nd St d vr Mp D H S va fs L L (fun d'=>d'=d) id nodes nb act act 3 f n1 n2 n3 n4 n5 n6 n7 n8 zs w hn h hk ht hNd2 hSt2 hMp2 hS2 hl2 4 n1 n2 0 0 0 0 0 0 hn5 hF0 hF (by decide) hm ?_;intro W la lc hb hO;refine(sE low Nd St d vr Mp D id nodes nb act 3 f n1 n2 n3 n4 n5 n6 n7 n8 la zs lc W (hn.later hb) (h.later hb) hne hlt (.inr rfl) he hbb hsame).mono ?_;rintro r W1 ⟨rfl,hb1⟩;exact⟨rfl,bT.still (hn.later hb) (h.later hb) (hk.later hb) hb1 (Nat.le_refl _) rfl⟩
theorem AL(hSO:cU)(hBW:cV)(hBS:cS)(low Nd St:Nat)(d:SD)(vr:Value)(Mp D H S:Nat)(va:Value)(fs:List FD)(L:Nat)(id nodes nb:Int)(act:Bool)(bs:List UInt8)(vb:Value)(f n1 n2 n3 n4 n5 n6 n7 n8:Int)(zs:List Int)(w:World)(hn:aI w Nd id nodes nb St act)(h:aF w low St d vr Mp D)(hk:aL w low D H S va fs L)(ht:aJ w)(hr:aR w w.heap.size vb bs)(hD:bD bs 3 f n1 n2 n3 n4 n5 n6 n7 n8 zs 0)(hff:(f==id)=false)(hno:decide (nodes<=f)=false)(hNd2:2<=Nd)(hSt2:2<=St)(hMp2:2<=Mp)(hS2:2<=S)(hl2:2<=low)(hn5:nodes<=5)(hF0:0<=f)(hF:f<nodes)(hne:0<d.recs.length)(hlt:d.recs.length<=1300000)(hlow:low<=w.heap.size)(hL:L<=1200000000)(hlv:d.vts.length<=1300000)(hln:0<=d.lines/\d.lines<=100000000)(hre:∀r∈d.recs,0<=r.E/\r.E<=10000000000000)(hid:0<=d.id/\d.id<5)(he9:0<=n1/\n1<=1000000000000)(he:(d.recs.length:Int) - 1<=n1)(hbb:¬n2<(aE d.vts n1).pr)(hsame:¬(aE d.vts n1).after 3 n2 n4 n5=aE d.vts n1)(hm:aN 4 id [0,n1,n2,0,0,0,0,0,0,0]=true):
  Calls pG 143 #[P0 (Y ⟨Nd,0,Z⟩),vb] w fun r w'=>∃l,r=.returned l/\(aZ w low Nd id nodes nb act St vr Mp D H S va (dD L d) (fun d'=>∃ln,dR d ln/\d'=({d with lines:=ln}:SD).step 3 n1 n2 n4 n5 n6 n7 n8 zs) (Y (f,aT 4 id n1 n2 0 0 0 0 0 0 []))) l w':=by
 refine mW Nd St id nodes nb act bs vb f n1 n2 n3 n4 n5 n6 n7 n8 zs w hn ht hr hD hff hno (aZ w low Nd id nodes nb act St vr Mp D H S va (dD L d) (fun d'=>∃ln,dR d ln/\d'=({d with lines:=ln}:SD).step 3 n1 n2 n4 n5 n6 n7 n8 zs) (Y (f,aT 4 id n1 n2 0 0 0 0 0 0 []))) ?_;refine fW 196 low Nd St d vr Mp D H S va fs L (dD L d) (fun d'=>∃ln,dR d ln/\d'=({d with lines:=ln}:SD).step 3 n1 n2 n4 n5 n6 n7 n8 zs) id nodes nb act act 3 f n1 n2 n3 n4 n5 n6 n7 n8 zs w hn h hk ht hNd2 hSt2 hMp2 hS2 hl2 4 n1 n2 0 0 0 0 0 0 hn5 hF0 hF (by decide) hm ?_;intro W la lc hb hO;have hz:=jF hO;refine(sR hSO hBW hBS low Nd St d vr Mp D id nodes nb act 3 f n1 n2 n3 n4 n5 n6 n7 n8 la zs lc W H S va fs L (hn.later hb) (h.later hb) hne hlt (hk.later hb) (ht.below hb ht.two) hz.1 (Nat.le_trans ht.two hb.size) (Nat.le_trans hlow hb.size) hL hlv hln hSt2 (fun ad ha hh=>by have h1:=hz.2 ad ha;have h2:=h.blk.lt;omega) hre hid he9 (fun ad ha hh=>by have h1:=hz.2 ad ha;have h2:=i9 h hk hh;omega) (.inr rfl) he hbb hsame).mono ?_;rintro r W1 ⟨rfl,hnow⟩;exact⟨rfl,hnow⟩
end Go.Proofs.YtdcainmlcpafbaaGreatDoor
