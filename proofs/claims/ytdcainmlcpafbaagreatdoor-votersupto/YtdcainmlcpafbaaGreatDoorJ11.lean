import Derived.Test.YtdcainmlcpafbaaGreatDoorJ10
set_option linter.all false
set_option maxHeartbeats 8000000
set_option maxRecDepth 20000
namespace Go.Proofs.YtdcainmlcpafbaaGreatDoor
open Go.RowKit
open Value renaming int->I,slice->J,pointer->P0
open Tryz renaming prog->pG
open IntKind renaming i64->T
open Option renaming none->Z,some->Y
open Obj renaming cells->G
structure SW(w W:World)(low X:Nat)(n:RN)(vr vv vb vs:Value)(ms:Array Value):Prop where
 nd:bO W low X n vr vv vb (J Z 0 0) (J Z 0 0) vs
 ms:aB W w.heap.size ms 136
 bl:Below w.heap.size w W
theorem SW.later{w W W':World}{low X:Nat}{n:RN}{vr vv vb vs:Value}{ms:Array Value}(h:SW w W low X n vr vv vb vs ms)(hb:Below W.heap.size W W'):SW w W' low X n vr vv vb vs ms:=⟨h.nd.later hb,h.ms.later hb,h.bl.trans (hb.mono h.bl.size)⟩
theorem SW.none{w W:World}{low X:Nat}{n n':RN}{vr vv vb vs:Value}{ms:Array Value}{o:Option (Int×List UInt8)}(h:SW w W low X n vr vv vb vs ms)(hn:n'=n)(ho:o=none):eE w low X n' vr vb vs o (.returned (J Z 0 0)) W:=by
 subst hn ho;exact eE.none rfl h.nd h.bl
theorem bdn(W:World)(q:Nat):Below W.heap.size W (W.drewN q):=below_drewN (Below.refl _ _) _
def Sto(n:RN)(k f e b wa p s q bl v:Int)(zs:List Int)(n':RN)(o:Option (Int×List UInt8)):Prop:=∀(low X:Nat) (vr vv vb vs:Value) (a:Option Addr) (c:Nat) (w:World),bO w low X n vr vv vb (J Z 0 0) (J Z 0 0) vs->low<=w.heap.size->n.ok->n.recs.length<=100000000->0<=bl->zs.length<=4->bG w a zs->(∀ad,a=Y ad->ad.block≠X/\vb.ownBlock≠some ad.block)->0<=e->(k=7∨k=9)->Calls pG 167 #[P0 (Y ⟨X,0,Z⟩),.agg #[I T k,I T f,I T e,I T b,I T wa,I T p,I T s,I T q,I T bl,I T v,J a zs.length c]] w fun r w'=>eE w low X n' vr vb vs o r w'
def FitB(n:RN)(k bl:Int)(zs:List Int)(c b:Bool):Prop:=((k==7)=true/\(k==9)=false/\decide ((n.blocks.length:Int)<=bl)=c)∨((k==7)=false/\(k==9)=true/\((zs.length:Int)==(n.blocks.length:Int))=b)
theorem w167{P:Prop}(z:P:=by
 intro low X vr vv vb vs a c w h hlw hok hlt hbl0 hz4 hin hap he0 hk;have hid5:0<=n.id/\n.id<5:=⟨hok.id0,by have:=hok.id1;have:=hok.nodes5;omega⟩;have hne:=hok.ne;have hb4:=hok.b4;have hk7:7<=k:=by omega
 have hk9:k<=9:=by omega
 obtain⟨ab,cb,hvb⟩:=aO h.b;subst hvb;have HW:=aA h;have HIN:=aA hin;have HAP:=aA hap;have HK:=aA hk;clear h hok hin hk hap;rcases hkk with⟨hka,hkb,hq⟩|⟨hka,hkb,hq⟩<;>try cases ac
 all_goals
  go_enter Tryz.func167,Tryz.ntmps167
  go_upto_region 1 with fail
  generalize hA:World.alloc _ _=W0;have H0:Hid (SW w W0 low X n vr vv (J ab n.blocks.length cb) vs #[I T k,I T f,I T e,I T b,I T wa,I T p,I T s,I T q,I T bl,I T v,J a zs.length c]):=⟨HW.out.later (kQ hA),lX hA,kQ hA⟩;clear hA;obtain⟨c0,c1,c2,c3,c4,c5,c6,c7,c8,c9,c10,c11,c12,c13⟩:=H0.out.nd.c14;obtain⟨m0,m1,m2,m3,m4,m5,m6,m7,m8,m9,m10⟩:=H0.out.ms.c11;have hX_:=H0.out.nd.lt;have hM_:=H0.out.ms.lt
  go_quiet (fail)
  have H1:=aA (H0.out.later (bdn W0 nq));generalize W0.drewN nq=W1 at*;clear H0 c0 c1 c2 c3 c4 c5 c6 c7 c8 c9 c10 c11 c12 c13 m0 m1 m2 m3 m4 m5 m6 m7 m8 m9 m10 hX_ hM_
  first
  |have:=t0
   have HQ:=aA (H1.out.none (n':=n) (o:=none) rfl rfl);go_wp2;go_ret;exact HQ.out
  |obtain⟨c0,c1,c2,c3,c4,c5,c6,c7,c8,c9,c10,c11,c12,c13⟩:=H1.out.nd.c14
   have hX_:=H1.out.nd.lt
   go_wp2_with fail
   refine(kV n vr vv (J ab n.blocks.length cb) (J Z 0 0) (J Z 0 0) vs W1 (aP.of_owns H1.out.nd.r) hne (by omega)).mono ?_;rintro r w2 ⟨rfl,hb2⟩;have H2:=aA (H1.out.later hb2);clear hb2 hX_ H1 c0 c1 c2 c3 c4 c5 c6 c7 c8 c9 c10 c11 c12 c13
   go_upto_region 4 with fail
   generalize hA:World.alloc _ _=W3;have H3:=aA (H2.out.later (kQ hA));have HR:=aA (lX hA);clear hA H2;generalize w2.heap.size=R at*;obtain⟨c0,c1,c2,c3,c4,c5,c6,c7,c8,c9,c10,c11,c12,c13⟩:=H3.out.nd.c14;obtain⟨m0,m1,m2,m3,m4,m5,m6,m7,m8,m9,m10⟩:=H3.out.ms.c11;have hX_:=H3.out.nd.lt;have hM_:=H3.out.ms.lt;rw[HA.out]at c7
   go_quiet (fail)
   have H4:=aA (H3.out.later (bdn W3 nq));have HR4:=aA (HR.out.later (bdn W3 nq));generalize W3.drewN nq=W4 at*;clear H3 HR c0 c1 c2 c3 c4 c5 c6 c7 c8 c9 c10 c11 c12 c13 m0 m1 m2 m3 m4 m5 m6 m7 m8 m9 m10 hX_ hM_
   first
   |have:=t1
    have HQ:=aA (H4.out.none (n':=n) (o:=none) rfl rfl);go_wp2;go_ret;exact HQ.out
   |obtain⟨c0,c1,c2,c3,c4,c5,c6,c7,c8,c9,c10,c11,c12,c13⟩:=H4.out.nd.c14
    obtain⟨m0,m1,m2,m3,m4,m5,m6,m7,m8,m9,m10⟩:=H4.out.ms.c11;have hX_:=H4.out.nd.lt;have hM_:=H4.out.ms.lt;obtain⟨r0,r1,r2⟩:=HR4.out.c3;have hR_:=HR4.out.lt
    go_wp2_with fail
    go_quiet (fail)
    have H5:=aA (H4.out.later (bdn W4 nq));have HR5:=aA (HR4.out.later (bdn W4 nq));generalize W4.drewN nq=W5 at*;clear H4 HR4 c0 c1 c2 c3 c4 c5 c6 c7 c8 c9 c10 c11 c12 c13 m0 m1 m2 m3 m4 m5 m6 m7 m8 m9 m10 hX_ hM_ hR_ r0 r1 r2
    first
    |have:=t2
     obtain⟨r0,r1,r2⟩:=HR5.out.c3;obtain⟨m0,m1,m2,m3,m4,m5,m6,m7,m8,m9,m10⟩:=H5.out.ms.c11;have HQ:=aA (H5.out.none (n':=n) (o:=none) rfl rfl);go_wp2;go_ret;exact HQ.out
    |have:=t3
     obtain⟨c0,c1,c2,c3,c4,c5,c6,c7,c8,c9,c10,c11,c12,c13⟩:=H5.out.nd.c14;obtain⟨m0,m1,m2,m3,m4,m5,m6,m7,m8,m9,m10⟩:=H5.out.ms.c11;have hX_:=H5.out.nd.lt;have hM_:=H5.out.ms.lt;obtain⟨r0,r1,r2⟩:=HR5.out.c3;have hR_:=HR5.out.lt;have hD:=qG n vr vv (J ab n.blocks.length cb) (J Z 0 0) (J Z 0 0) vs k f e.toNat b wa p s q bl v (J a zs.length c) W5.drew hid5.1 hid5.2 (aP.of_owns H5.out.nd.drew.r) HE1.out (by omega);rw[Int.toNat_of_nonneg he0]at hD;have HD:=aA hD;clear hD
     go_wp2_with fail
     refine wp_region_held_drew (S:=(fun w'=>w'.cell? ⟨X,0,Z⟩=Y (I T n.id)/\w'.cell? ⟨X,1,Z⟩=Y (I T n.nodes)/\w'.cell? ⟨X,2,Z⟩=Y (vr)/\w'.cell? ⟨X,3,Z⟩=Y (vv)/\w'.cell? ⟨X,4,Z⟩=Y (J ab n.blocks.length cb)/\w'.cell? ⟨X,5,Z⟩=Y (I T n.seen)/\w'.cell? ⟨X,6,Z⟩=Y (I T n.last)/\w'.cell? ⟨X,7,Z⟩=Y (Value.bool n.act)/\w'.cell? ⟨X,8,Z⟩=Y (J Z 0 0)/\w'.cell? ⟨X,9,Z⟩=Y (J Z 0 0)/\w'.cell? ⟨X,10,Z⟩=Y (I T n.ops)/\w'.cell? ⟨X,11,Z⟩=Y (vs)/\w'.cell? ⟨X,12,Z⟩=Y (Value.bool false)/\w'.cell? ⟨X,13,Z⟩=Y (J Z 0 0)/\w'.cell? ⟨w.heap.size,0,Z⟩=Y (I T k)/\w'.cell? ⟨w.heap.size,1,Z⟩=Y (I T f)/\w'.cell? ⟨w.heap.size,2,Z⟩=Y (I T e)/\w'.cell? ⟨w.heap.size,3,Z⟩=Y (I T b)/\w'.cell? ⟨w.heap.size,4,Z⟩=Y (I T wa)/\w'.cell? ⟨w.heap.size,5,Z⟩=Y (I T p)/\w'.cell? ⟨w.heap.size,6,Z⟩=Y (I T s)/\w'.cell? ⟨w.heap.size,7,Z⟩=Y (I T q)/\w'.cell? ⟨w.heap.size,8,Z⟩=Y (I T bl)/\w'.cell? ⟨w.heap.size,9,Z⟩=Y (I T v)/\w'.cell? ⟨w.heap.size,10,Z⟩=Y (J a zs.length c))) (by kernel_rfl) ⟨c0,c1,c2,c3,c4,c5,c6,c7,c8,c9,c10,c11,c12,c13,m0,m1,m2,m3,m4,m5,m6,m7,m8,m9,m10⟩ (fun _=>?_);refine tk 0 ?_;refine tk 1 ?_;refine tk 2 ?_;refine tk 3 ?_;refine aG 4 fun K hK=>?_
     (try go_simp)
     go_at_call 221
     refine HD.out.mono ?_;rintro r wk ⟨g9,rfl,ho9,hbk⟩;have hbk2:Below W5.heap.size W5 wk:=(Below.refl W5.heap.size W5).drew.trans hbk;obtain⟨y0,y1,y2,y3,y4,y5,y6,y7,y8,y9,y10,y11,y12,y13⟩:=(H5.out.later hbk2).nd.c14;obtain⟨z0,z1,z2,z3,z4,z5,z6,z7,z8,z9,z10⟩:=(H5.out.later hbk2).ms.c11;refine k1 hK (fun _=>?_) ⟨y0,y1,y2,y3,y4,y5,y6,y7,y8,y9,y10,y11,y12,y13,z0,z1,z2,z3,z4,z5,z6,z7,z8,z9,z10⟩;clear hK K;refine aG 5 fun K hK=>?_
     (try go_simp)
     refine k1 hK (fun _=>?_) ⟨y0,y1,y2,y3,y4,y5,y6,y7,y8,y9,y10,y11,y12,y13,z0,z1,z2,z3,z4,z5,z6,z7,z8,z9,z10⟩;clear hK K;refine dn ?_;have hq:eE w low X n vr (J ab n.blocks.length cb) vs (Y (f,aT 6 n.id e 0 0 (n.recs.getD (e.toNat+1) ⟨0,0,0⟩).P (n.recs.getD (e.toNat+1) ⟨0,0,0⟩).S 0 0 0 [])) (.returned (J (Y ⟨g9,0,Z⟩) 1 1)) wk:=⟨⟨g9,rfl,Nat.le_trans H5.out.bl.size ho9.1,ho9.2⟩,vr,vv,_,(H5.out.later hbk2).nd,mS (H5.out.later hbk2).bl⟩;have HQ:=aA hq;clear hq ho9 hbk hbk2;go_wp2;go_ret;exact HQ.out
    |obtain⟨c0,c1,c2,c3,c4,c5,c6,c7,c8,c9,c10,c11,c12,c13⟩:=H5.out.nd.c14
     obtain⟨m0,m1,m2,m3,m4,m5,m6,m7,m8,m9,m10⟩:=H5.out.ms.c11;have hX_:=H5.out.nd.lt;have hM_:=H5.out.ms.lt
     go_wp2_with fail
     go_quiet (fail)
     have H6:=aA (H5.out.later (bdn W5 nq));generalize W5.drewN nq=W6 at*;clear H5 c0 c1 c2 c3 c4 c5 c6 c7 c8 c9 c10 c11 c12 c13 m0 m1 m2 m3 m4 m5 m6 m7 m8 m9 m10 hX_ hM_ HR5
     first
     |have:=t4
      have HQ:=aA (H6.out.none (n':=n) (o:=none) rfl rfl);go_wp2;go_ret;exact HQ.out
     |obtain⟨m0,m1,m2,m3,m4,m5,m6,m7,m8,m9,m10⟩:=H6.out.ms.c11
      go_upto_region 13 with fail
      generalize hA:World.alloc _ _=W7;have H7:=aA (H6.out.later (kQ hA));have HO7:=aA (lX hA);have hOw:w.heap.size<=W6.heap.size:=H6.out.bl.size;clear hA H6 m0 m1 m2 m3 m4 m5 m6 m7 m8 m9 m10;generalize W6.heap.size=O at*;obtain⟨c0,c1,c2,c3,c4,c5,c6,c7,c8,c9,c10,c11,c12,c13⟩:=H7.out.nd.c14;obtain⟨m0,m1,m2,m3,m4,m5,m6,m7,m8,m9,m10⟩:=H7.out.ms.c11;have hX_:=H7.out.nd.lt;have hM_:=H7.out.ms.lt
      go_quiet (fail)
      have H8:=aA (H7.out.later (bdn W7 nq));have HO8:=aA (HO7.out.later (bdn W7 nq));generalize W7.drewN nq=W8 at*;clear H7 HO7 c0 c1 c2 c3 c4 c5 c6 c7 c8 c9 c10 c11 c12 c13 m0 m1 m2 m3 m4 m5 m6 m7 m8 m9 m10 hX_ hM_;obtain⟨c0,c1,c2,c3,c4,c5,c6,c7,c8,c9,c10,c11,c12,c13⟩:=H8.out.nd.c14;obtain⟨m0,m1,m2,m3,m4,m5,m6,m7,m8,m9,m10⟩:=H8.out.ms.c11;have hX_:=H8.out.nd.lt;have hM_:=H8.out.ms.lt
      first
      |have:=t5
       obtain⟨o0,o1,o2,o3,o4,o5,o6,o7,o8,o9,o10⟩:=HO8.out.c11;have hO_:=HO8.out.lt
       go_wp2_with fail
       refine wp_region_held_drew (S:=(fun w'=>w'.cell? ⟨X,0,Z⟩=Y (I T n.id)/\w'.cell? ⟨X,1,Z⟩=Y (I T n.nodes)/\w'.cell? ⟨X,2,Z⟩=Y (vr)/\w'.cell? ⟨X,3,Z⟩=Y (vv)/\w'.cell? ⟨X,4,Z⟩=Y (J ab n.blocks.length cb)/\w'.cell? ⟨X,5,Z⟩=Y (I T n.seen)/\w'.cell? ⟨X,6,Z⟩=Y (I T n.last)/\w'.cell? ⟨X,7,Z⟩=Y (Value.bool n.act)/\w'.cell? ⟨X,8,Z⟩=Y (J Z 0 0)/\w'.cell? ⟨X,9,Z⟩=Y (J Z 0 0)/\w'.cell? ⟨X,10,Z⟩=Y (I T n.ops)/\w'.cell? ⟨X,11,Z⟩=Y (vs)/\w'.cell? ⟨X,12,Z⟩=Y (Value.bool false)/\w'.cell? ⟨X,13,Z⟩=Y (J Z 0 0)/\w'.cell? ⟨w.heap.size,1,Z⟩=Y (I T f)/\w'.cell? ⟨O,0,Z⟩=Y (I T (k+1))/\w'.cell? ⟨O,1,Z⟩=Y (I T 0)/\w'.cell? ⟨O,2,Z⟩=Y (I T e)/\w'.cell? ⟨O,3,Z⟩=Y (I T 0)/\w'.cell? ⟨O,4,Z⟩=Y (I T 0)/\w'.cell? ⟨O,5,Z⟩=Y (I T 0)/\w'.cell? ⟨O,6,Z⟩=Y (I T 0)/\w'.cell? ⟨O,7,Z⟩=Y (I T q)/\w'.cell? ⟨O,8,Z⟩=Y (I T 0)/\w'.cell? ⟨O,9,Z⟩=Y (I T 0)/\w'.cell? ⟨O,10,Z⟩=Y (J Z 0 0))) (by kernel_rfl) ⟨c0,c1,c2,c3,c4,c5,c6,c7,c8,c9,c10,c11,c12,c13,m1,o0,o1,o2,o3,o4,o5,o6,o7,o8,o9,o10⟩ (fun _=>?_);refine tk 0 ?_;refine tk 1 ?_;refine tk 2 ?_;refine tk 3 ?_;refine tk 4 ?_;refine tk 5 ?_;refine aG 6 fun K hK=>?_
       (try go_simp)
       go_at_call 222
       refine(kD n vr vv (J ab n.blocks.length cb) (J Z 0 0) (J Z 0 0) vs f (k+1) 0 e 0 0 0 0 q 0 0 none 0 [] W8.drew (by omega) (by omega) hid5.1 hid5.2 (by simp) (fun _=>rfl) (.inl rfl)).mono ?_;rintro r wk ⟨g9,rfl,ho9,hbk⟩;have hbk2:Below W8.heap.size W8 wk:=(Below.refl W8.heap.size W8).drew.trans hbk;obtain⟨y0,y1,y2,y3,y4,y5,y6,y7,y8,y9,y10,y11,y12,y13⟩:=(H8.out.nd.later hbk2).c14;obtain⟨-,y14,-⟩:=(H8.out.ms.later hbk2).c11;obtain⟨z0,z1,z2,z3,z4,z5,z6,z7,z8,z9,z10⟩:=(HO8.out.later hbk2).c11;refine k1 hK (fun _=>?_) ⟨y0,y1,y2,y3,y4,y5,y6,y7,y8,y9,y10,y11,y12,y13,y14,z0,z1,z2,z3,z4,z5,z6,z7,z8,z9,z10⟩;clear hK K;refine aG 7 fun K hK=>?_
       (try go_simp)
       refine k1 hK (fun _=>?_) ⟨y0,y1,y2,y3,y4,y5,y6,y7,y8,y9,y10,y11,y12,y13,y14,z0,z1,z2,z3,z4,z5,z6,z7,z8,z9,z10⟩;clear hK K;refine dn ?_;have HQ:Hid (eE w low X n vr (J ab n.blocks.length cb) vs (Y (f,aT (k+1) n.id e 0 0 0 0 q 0 0 [])) (.returned (J (Y ⟨g9,0,Z⟩) 1 1)) wk):=⟨⟨g9,rfl,Nat.le_trans H8.out.bl.size ho9.1,ho9.2⟩,vr,vv,_,H8.out.nd.later hbk2,mS (H8.out.later hbk2).bl⟩;clear ho9 hbk hbk2;go_wp2;go_ret;exact HQ.out
      |go_wp2_with fail
       go_quiet (fail)
       have H9:=aA (H8.out.later (bdn W8 nq));have HO9:=aA (HO8.out.later (bdn W8 nq));generalize W8.drewN nq=W9 at*;clear H8 HO8 c0 c1 c2 c3 c4 c5 c6 c7 c8 c9 c10 c11 c12 c13 m0 m1 m2 m3 m4 m5 m6 m7 m8 m9 m10 hX_ hM_;obtain⟨c0,c1,c2,c3,c4,c5,c6,c7,c8,c9,c10,c11,c12,c13⟩:=H9.out.nd.c14;obtain⟨m0,m1,m2,m3,m4,m5,m6,m7,m8,m9,m10⟩:=H9.out.ms.c11;have y5:=H9.out.nd.free 5;have y6:=H9.out.nd.free 6;have y7:=H9.out.nd.free 7;have y8:=H9.out.nd.free 8;have y9:=H9.out.nd.free 9;have hXw:X<w.heap.size:=HW.out.lt;have hXM:X≠w.heap.size:=by omega
       have hXO:X≠O:=by omega
       go_upto_region 21 with fail
       generalize hWS:World.setCell _ _ _=WS
       have hBt:aD X W9 WS:=by
        rw[←hWS]
        first
        |have h9:(e==n.seen)=false:=h3
         exact(((((aD.self X W9).set 7 _).set 8 _).set 9 _).set 5 _).set 6 _
        |exact((aD.self X W9).set 5 _).set 6 _
       have hBk:aB WS X #[I T n.id,I T n.nodes,vr,vv,J ab n.blocks.length cb,I T e,I T q,Value.bool (n.wrote k e q bl v zs).act,J Z 0 0,J Z 0 0,I T n.ops,vs,Value.bool false,J Z 0 0] 225:=by
        rw[←hWS];have h9:(n.wrote k e q bl v zs).act=if e=n.seen then n.act else false:=rfl
        rw[h9]
        first
        |rw[if_neg (by simpa using h3)]
         have h8:=(((((aB.mk H9.out.nd.blk).set 7 (Value.bool false)).set 8 (J Z 0 0)).set 9 (J Z 0 0)).set 5 (I T e)).set 6 (I T q)
         simpa using h8
        |rw[if_pos (by simpa using h3)]
         have h8:=((aB.mk H9.out.nd.blk).set 5 (I T e)).set 6 (I T q)
         simpa using h8
       have HS:Hid (bO WS low X {n.wrote k e q bl v zs with blocks:=n.mixed k bl v zs 0} vr vv (J ab n.blocks.length cb) (J Z 0 0) (J Z 0 0) vs):=bO.setX H9.out.nd rfl rfl (tE n k bl v zs hbl0) hBt hBk;have HMS:=aA (H9.out.ms.same (hBt.block _ (Ne.symm hXM)));have HOS9:=aA (HO9.out.same (hBt.block _ (Ne.symm hXO)));have HKS:Hid (aK (fun g=>g=X∨Value.ownBlock (J ab n.blocks.length cb)=Y g) w WS):=(aK.of_below (A:=fun _=>False) H9.out.bl).trans (B:=fun g=>g=X) ⟨hBt.os,hBt.tape,hBt.output,by rw[hBt.size];exact Nat.le_refl _,fun k _ hk=>hBt.block k hk⟩ (fun _ hh=>hh.elim) (fun _ _ hh=>.inl hh);clear hWS hBt hBk H9 HO9 c0 c1 c2 c3 c4 c5 c6 c7 c8 c9 c10 c11 c12 c13 m0 m1 m2 m3 m4 m5 m6 m7 m8 m9 m10 y5 y6 y7 y8 y9 hXM hXO
       go_wp2_with fail
       go_loopw [7] (fun ix wr=>∃t:Nat,t<=n.blocks.length/\ix=I T t/\bO wr low X {n.wrote k e q bl v zs with blocks:=n.mixed k bl v zs t} vr vv (J ab n.blocks.length cb) (J Z 0 0) (J Z 0 0) vs/\aB wr w.heap.size #[I T k,I T f,I T e,I T b,I T wa,I T p,I T s,I T q,I T bl,I T v,J a zs.length c] 136/\aB wr O #[I T (k+1),I T 0,I T e,I T 0,I T 0,I T 0,I T 0,I T q,I T 0,I T 0,J Z 0 0] 136/\aK (fun g=>g=X∨Value.ownBlock (J ab n.blocks.length cb)=Y g) w wr) (fun ix _=>n.blocks.length - (intOf ix).toNat)
       case atStart=>exact⟨0,by omega,rfl,HS.out,HMS.out,HOS9.out,HKS.out⟩
       case round=>
        obtain⟨t,ht,rfl,hN,hM,hO,hKp⟩:=hrel;have HN:=aA hN;have HM:=aA hM;have HO:=aA hO;have HKP:=aA hKp;have hXr:=hN.lt;have hMr:=hM.lt;have hOr:=hO.lt;clear hN hM hO hKp HS HMS HOS9 HKS;obtain⟨c0,c1,c2,c3,c4,c5,c6,c7,c8,c9,c10,c11,c12,c13⟩:=HN.out.c14;obtain⟨m0,m1,m2,m3,m4,m5,m6,m7,m8,m9,m10⟩:=HM.out.c11;obtain⟨o0,o1,o2,o3,o4,o5,o6,o7,o8,o9,o10⟩:=HO.out.c11;have hfs:n.fits k bl zs:=by have:=HFIT.out;unfold cL at this;unfold RN.fits;omega
        by_cases htl:t<n.blocks.length
        ·have htl2:(t:Int)<(n.blocks.length:Int):=by omega
         have hml:=rS n k bl v zs t ht hfs HK.out;obtain⟨g,cap,hv9,hg9,hcc⟩:=(aP.of_owns HN.out.b).at (by show 0<(n.mixed k bl v zs t).length;omega);obtain⟨rfl⟩:ab=Y ⟨g,0,Z⟩:=by have h9:=hv9;simp at h9;exact h9.1
         have hfr:=rR HN.out.b t;obtain⟨oldv,j0⟩:∃x,wr.cell? ⟨g,t,Z⟩=Y (Value.int .i64 x):=⟨(n.mixed k bl v zs t)[t]'(by omega),hcc t _ (by show(List.map _ (n.mixed k bl v zs t))[t]?=_;rw[List.getElem?_map,List.getElem?_eq_getElem (by omega)];rfl)⟩;clear hcc hv9 hml hfs
         have POKE:∀u:Int,n.mixed k bl v zs (t+1)=(n.mixed k bl v zs t).set t u->Hid (bO (wr.setCell ⟨g,t,Z⟩ (I T u)) low X {n.wrote k e q bl v zs with blocks:=n.mixed k bl v zs (t+1)} vr vv (J (Y ⟨g,0,Z⟩) n.blocks.length cb) (J Z 0 0) (J Z 0 0) vs/\aB (wr.setCell ⟨g,t,Z⟩ (I T u)) w.heap.size #[I T k,I T f,I T e,I T b,I T wa,I T p,I T s,I T q,I T bl,I T v,J a zs.length c] 136/\aB (wr.setCell ⟨g,t,Z⟩ (I T u)) O #[I T (k+1),I T 0,I T e,I T 0,I T 0,I T 0,I T 0,I T q,I T 0,I T 0,J Z 0 0] 136/\aK (fun g'=>g'=X∨Value.ownBlock (J (Y ⟨g,0,Z⟩) n.blocks.length cb)=Y g') w (wr.setCell ⟨g,t,Z⟩ (I T u))):=by
          intro u hu;have hP:=HN.out.poke t u;have h8:=(HW.out.b.lt g rfl).2;refine⟨?_,HM.out.grown hP.2 (by intro hh;simp at hh;omega),HO.out.grown hP.2 (by intro hh;simp at hh;omega),HKP.out.trans (B:=fun g'=>g'=g) ⟨hP.2.os,hP.2.tape,hP.2.output,hP.2.size,fun k hk hne=>hP.2.block k hk (by intro hh;simp at hh;exact hne hh)⟩ (fun _ hh=>hh) (fun g' _ hh=>.inr (by simp[Value.ownBlock,hh]))⟩;rw[hu];exact hP.1
         have HPOKE:=aA POKE;clear POKE
         first
         |have hk:k=7:=by simpa using hka
          by_cases hbt:(t:Int)=bl
          ·have hbq:((t:Int)==bl)=true:=by simpa using hbt
           have HP:=HPOKE.out v (by rw[hk,mJ n bl v zs t hbl0,if_pos hbt]);clear hbt HPOKE hk;have j0d:wr.drew.cell? ⟨g,t,Z⟩=Y (Value.int .i64 oldv):=j0;have hfd:wr.drew.frozen? ⟨g,t,Z⟩=false:=hfr;have y4:=HP.out.1.cell 4;have z9:=HP.out.2.1.cell 9;go_wp2;refine wp_region_held_drew (S:=(fun w'=>w'.cell? ⟨X,4,Z⟩=Y (J (Y ⟨g,0,Z⟩) n.blocks.length cb)/\w'.cell? ⟨w.heap.size,9,Z⟩=Y (I T v))) (by kernel_rfl) ⟨c4,m9⟩ (fun _=>?_);refine tk 0 ?_;refine tk 1 ?_;refine tk 2 ?_;refine tk 3 ?_;refine tk 4 ?_;refine tk 5 ?_;refine tk 6 ?_;refine tk 7 ?_;refine tk 8 ?_;refine aG 9 fun K hK=>?_
           (try go_simp)
           refine k1 hK (fun _=>?_) ⟨y4,z9⟩;clear hK K;refine dn ?_;go_wp2
           go_roundw
           case rel=>exact⟨t+1,by omega,by go_num,⟨HP.out.1.blk,HP.out.1.lx,HP.out.1.r,HP.out.1.v,HP.out.1.b⟩,⟨HP.out.2.1.blk⟩,⟨HP.out.2.2.1.blk⟩,⟨HP.out.2.2.2.os,HP.out.2.2.2.tape,HP.out.2.2.2.output,HP.out.2.2.2.size,HP.out.2.2.2.block⟩⟩
           case measure=>simp[intOf];omega
          ·have hbq:((t:Int)==bl)=false:=by simpa using hbt
           have HE:Hid (n.mixed k bl v zs (t+1)=n.mixed k bl v zs t):=by unfold Hid;rw[hk,mJ n bl v zs t hbl0,if_neg hbt]
           clear hbt HPOKE hk;go_wp2
           go_roundw
           case rel=>exact⟨t+1,by omega,by go_num,by rw[HE.out];exact HN.out,HM.out,HO.out,HKP.out⟩
           case measure=>simp[intOf];omega
         |have hk:k=9:=by simpa using hkb
          have hzl:zs.length=n.blocks.length:=by have:=HFIT.out;unfold cL at this;omega
          have htz:t<zs.length:=by omega
          have htz2:(t:Int)<(zs.length:Int):=by omega
          obtain⟨gz,oz,ha9,hgz,hzc⟩:=HIN.out.resolve_left (by intro hh;rw[hh]at htz;simp at htz);have hap9:=HAP.out _ ha9;rw[ha9]at m10;have jz:wr.cell? ⟨gz,oz+t,Z⟩=Y (Value.int .i64 zs[t]):=(World.cell?_of_block (w:=w) (a:=⟨gz,oz+t,Z⟩) (HKP.out.block gz hgz (fun hh=>hh.elim (fun h8=>hap9.1 h8) (fun h8=>hap9.2 h8)))).trans (hzc t htz);have HP:=HPOKE.out zs[t] (by rw[hk];exact qJ n bl v zs t htl hzl);have hgg:g≠gz:=fun hh=>hap9.2 (congrArg some hh);clear hzc hap9 HPOKE hzl hk;generalize zs[t]=zt at*;have j0d:wr.drew.cell? ⟨g,t,Z⟩=Y (Value.int .i64 oldv):=j0;have hfd:wr.drew.frozen? ⟨g,t,Z⟩=false:=hfr;have y4:=HP.out.1.cell 4;have z10:=HP.out.2.1.cell 10;rw[ha9]at z10;have zg:(wr.setCell ⟨g,t,Z⟩ (I T zt)).cell? ⟨gz,oz+t,Z⟩=Y (I T zt):=(World.cell?_setCell_other _ _ _ _ (fun hh=>hgg (congrArg Addr.block hh))).trans jz;clear ha9;go_wp2;refine wp_region_held_drew (S:=(fun w'=>w'.cell? ⟨X,4,Z⟩=Y (J (Y ⟨g,0,Z⟩) n.blocks.length cb)/\w'.cell? ⟨w.heap.size,10,Z⟩=Y (J (Y ⟨gz,oz,Z⟩) zs.length c)/\w'.cell? ⟨gz,oz+t,Z⟩=Y (I T zt))) (by kernel_rfl) ⟨c4,m10,jz⟩ (fun _=>?_);refine tk 0 ?_;refine tk 1 ?_;refine tk 2 ?_;refine tk 3 ?_;refine tk 4 ?_;refine tk 5 ?_;refine tk 6 ?_;refine tk 7 ?_;refine tk 8 ?_;refine tk 9 ?_;refine tk 10 ?_;refine tk 11 ?_;refine aG 12 fun K hK=>?_
          (try go_simp)
          refine k1 hK (fun _=>?_) ⟨y4,z10,zg⟩;clear hK K;refine dn ?_;go_wp2
          go_roundw
          case rel=>exact⟨t+1,by omega,by go_num,⟨HP.out.1.blk,HP.out.1.lx,HP.out.1.r,HP.out.1.v,HP.out.1.b⟩,⟨HP.out.2.1.blk⟩,⟨HP.out.2.2.1.blk⟩,⟨HP.out.2.2.2.os,HP.out.2.2.2.tape,HP.out.2.2.2.output,HP.out.2.2.2.size,HP.out.2.2.2.block⟩⟩
          case measure=>simp[intOf];omega
        ·obtain rfl:t=n.blocks.length:=by omega
         have HNN:Hid ({n.wrote k e q bl v zs with blocks:=n.mixed k bl v zs n.blocks.length}=n.wrote k e q bl v zs):=by unfold Hid;rw[rT n k e q bl v zs hfs HK.out hbl0]
         have HN2:Hid (bO wr low X (n.wrote k e q bl v zs) vr vv (J ab n.blocks.length cb) (J Z 0 0) (J Z 0 0) vs):=by unfold Hid;rw[←HNN.out];exact HN.out
         clear hfs
         go_wp2_with fail
         refine wp_region_held_drew (S:=(fun w'=>w'.cell? ⟨X,0,Z⟩=Y (I T n.id)/\w'.cell? ⟨X,1,Z⟩=Y (I T n.nodes)/\w'.cell? ⟨X,2,Z⟩=Y (vr)/\w'.cell? ⟨X,3,Z⟩=Y (vv)/\w'.cell? ⟨X,4,Z⟩=Y (J ab n.blocks.length cb)/\w'.cell? ⟨X,5,Z⟩=Y (I T e)/\w'.cell? ⟨X,6,Z⟩=Y (I T q)/\w'.cell? ⟨X,7,Z⟩=Y (Value.bool (n.wrote k e q bl v zs).act)/\w'.cell? ⟨X,8,Z⟩=Y (J Z 0 0)/\w'.cell? ⟨X,9,Z⟩=Y (J Z 0 0)/\w'.cell? ⟨X,10,Z⟩=Y (I T n.ops)/\w'.cell? ⟨X,11,Z⟩=Y (vs)/\w'.cell? ⟨X,12,Z⟩=Y (Value.bool false)/\w'.cell? ⟨X,13,Z⟩=Y (J Z 0 0)/\w'.cell? ⟨w.heap.size,1,Z⟩=Y (I T f)/\w'.cell? ⟨O,0,Z⟩=Y (I T (k+1))/\w'.cell? ⟨O,1,Z⟩=Y (I T 0)/\w'.cell? ⟨O,2,Z⟩=Y (I T e)/\w'.cell? ⟨O,3,Z⟩=Y (I T 0)/\w'.cell? ⟨O,4,Z⟩=Y (I T 0)/\w'.cell? ⟨O,5,Z⟩=Y (I T 0)/\w'.cell? ⟨O,6,Z⟩=Y (I T 0)/\w'.cell? ⟨O,7,Z⟩=Y (I T q)/\w'.cell? ⟨O,8,Z⟩=Y (I T 0)/\w'.cell? ⟨O,9,Z⟩=Y (I T 0)/\w'.cell? ⟨O,10,Z⟩=Y (J Z 0 0))) (by kernel_rfl) ⟨c0,c1,c2,c3,c4,c5,c6,c7,c8,c9,c10,c11,c12,c13,m1,o0,o1,o2,o3,o4,o5,o6,o7,o8,o9,o10⟩ (fun _=>?_);refine tk 0 ?_;refine tk 1 ?_;refine tk 2 ?_;refine tk 3 ?_;refine tk 4 ?_;refine tk 5 ?_;refine aG 6 fun K hK=>?_
         (try go_simp)
         go_at_call 222
         refine(kD (n.wrote k e q bl v zs) vr vv (J ab n.blocks.length cb) (J Z 0 0) (J Z 0 0) vs f (k+1) 0 e 0 0 0 0 q 0 0 none 0 [] wr.drew (by omega) (by omega) hid5.1 hid5.2 (by simp) (fun _=>rfl) (.inl rfl)).mono ?_;rintro r wk ⟨g9,rfl,ho9,hbk⟩;have hbk2:Below wr.heap.size wr wk:=(Below.refl wr.heap.size wr).drew.trans hbk;obtain⟨y0,y1,y2,y3,y4,y5,y6,y7,y8,y9,y10,y11,y12,y13⟩:=(HN2.out.later hbk2).c14;obtain⟨-,y14,-⟩:=(HM.out.later hbk2).c11;obtain⟨z0,z1,z2,z3,z4,z5,z6,z7,z8,z9,z10⟩:=(HO.out.later hbk2).c11;refine k1 hK (fun _=>?_) ⟨y0,y1,y2,y3,y4,y5,y6,y7,y8,y9,y10,y11,y12,y13,y14,z0,z1,z2,z3,z4,z5,z6,z7,z8,z9,z10⟩;clear hK K;refine aG 7 fun K hK=>?_
         (try go_simp)
         refine k1 hK (fun _=>?_) ⟨y0,y1,y2,y3,y4,y5,y6,y7,y8,y9,y10,y11,y12,y13,y14,z0,z1,z2,z3,z4,z5,z6,z7,z8,z9,z10⟩;clear hK K;refine dn ?_;have HQ:Hid (eE w low X (n.wrote k e q bl v zs) vr (J ab n.blocks.length cb) vs (Y (f,aT (k+1) n.id e 0 0 0 0 q 0 0 [])) (.returned (J (Y ⟨g9,0,Z⟩) 1 1)) wk):=⟨⟨g9,rfl,Nat.le_trans HKP.out.size ho9.1,ho9.2⟩,vr,vv,_,HN2.out.later hbk2,HKP.out.trans (aK.of_below (A:=fun _=>False) hbk2) (fun _ hh=>hh.elim .inl (fun h9=>.inr (.inr h9))) (fun _ _ hh=>hh.elim)⟩;clear ho9 hbk hbk2;go_wp2;go_ret;exact HQ.out):P:=z
theorem st0{n:RN}{k f e b wa p s q bl v:Int}{zs:List Int}(t0:True)(hkk:FitB n k bl zs true false):Sto n k f e b wa p s q bl v zs n none:=w167
theorem st1{n:RN}{k f e b wa p s q bl v:Int}{zs:List Int}(t1:True)(hkk:FitB n k bl zs false true)(HA:Hid (n.act=true))(h3:(e==n.seen)=true):Sto n k f e b wa p s q bl v zs n none:=w167
theorem st2{n:RN}{k f e b wa p s q bl v:Int}{zs:List Int}(ac:Bool)(t2:True)(hkk:FitB n k bl zs false true)(HA:Hid (n.act=ac))(h3:(e==n.seen)=false)(hds:decide (e<n.seen)=true)(hdl:decide (e<n.lastR.E)=false):Sto n k f e b wa p s q bl v zs n none:=w167
theorem st3{n:RN}{k f e b wa p s q bl v:Int}{zs:List Int}(ac:Bool)(t3:True)(hkk:FitB n k bl zs false true)(HA:Hid (n.act=ac))(h3:(e==n.seen)=false)(hds:decide (e<n.seen)=true)(hdl:decide (e<n.lastR.E)=true)(HE1:Hid (e.toNat+1<n.recs.length)):Sto n k f e b wa p s q bl v zs n (Y (f,aT 6 n.id e 0 0 (n.recs.getD (e.toNat+1) ⟨0,0,0⟩).P (n.recs.getD (e.toNat+1) ⟨0,0,0⟩).S 0 0 0 [])):=w167
theorem st4{n:RN}{k f e b wa p s q bl v:Int}{zs:List Int}(t4:True)(hkk:FitB n k bl zs false true)(HA:Hid (n.act=false))(h3:(e==n.seen)=true)(hds:decide (e<n.seen)=false)(hqd:decide (q<n.last)=true):Sto n k f e b wa p s q bl v zs n none:=w167
theorem st5{n:RN}{k f e b wa p s q bl v:Int}{zs:List Int}(t5:True)(hkk:FitB n k bl zs false true)(HA:Hid (n.act=false))(h3:(e==n.seen)=true)(hds:decide (e<n.seen)=false)(hqd:decide (q<n.last)=false)(hqe:(q==n.last)=true):Sto n k f e b wa p s q bl v zs n (Y (f,aT (k+1) n.id e 0 0 0 0 q 0 0 [])):=w167
theorem st6{n:RN}{k f e b wa p s q bl v:Int}{zs:List Int}(hkk:FitB n k bl zs false true)(HA:Hid (n.act=false))(h3:(e==n.seen)=false)(hds:decide (e<n.seen)=false)(HFIT:Hid (cL n k bl zs)):Sto n k f e b wa p s q bl v zs (n.wrote k e q bl v zs) (Y (f,aT (k+1) n.id e 0 0 0 0 q 0 0 [])):=w167
theorem st7{n:RN}{k f e b wa p s q bl v:Int}{zs:List Int}(hkk:FitB n k bl zs false true)(HA:Hid (n.act=true))(h3:(e==n.seen)=false)(hds:decide (e<n.seen)=false)(HFIT:Hid (cL n k bl zs)):Sto n k f e b wa p s q bl v zs (n.wrote k e q bl v zs) (Y (f,aT (k+1) n.id e 0 0 0 0 q 0 0 [])):=w167
theorem st8{n:RN}{k f e b wa p s q bl v:Int}{zs:List Int}(hkk:FitB n k bl zs false true)(HA:Hid (n.act=false))(h3:(e==n.seen)=true)(hds:decide (e<n.seen)=false)(hqd:decide (q<n.last)=false)(hqe:(q==n.last)=false)(HFIT:Hid (cL n k bl zs)):Sto n k f e b wa p s q bl v zs (n.wrote k e q bl v zs) (Y (f,aT (k+1) n.id e 0 0 0 0 q 0 0 [])):=w167
theorem zQ(low X:Nat)(n:RN)(vr vv vb vs:Value)(k f e b wa p s q bl v:Int)(a:Option Addr)(c:Nat)(zs:List Int)(w:World)(h:bO w low X n vr vv vb (J Z 0 0) (J Z 0 0) vs)(hlw:low<=w.heap.size)(hok:n.ok)(hlt:n.recs.length<=100000000)(hk:k=7∨k=9)(hbl0:0<=bl)(hz4:zs.length<=4)(hin:bG w a zs)(hap:∀ad,a=Y ad->ad.block≠X/\vb.ownBlock≠some ad.block)(he0:0<=e):
 Calls pG 167 #[P0 (Y ⟨X,0,Z⟩),.agg #[I T k,I T f,I T e,I T b,I T wa,I T p,I T s,I T q,I T bl,I T v,J a zs.length c]] w fun r w'=>eE w low X (if cL n k bl zs then(if hZ n e q then n else n.wrote k e q bl v zs) else n) vr vb vs (if cL n k bl zs then n.storedO k f e q else none) r w':=by
 refine(?_:Sto n k f e b wa p s q bl v zs (if cL n k bl zs then(if hZ n e q then n else n.wrote k e q bl v zs) else n) (if cL n k bl zs then n.storedO k f e q else none)) low X vr vv vb vs a c w h hlw hok hlt hbl0 hz4 hin hap he0 hk
 by_cases hfit:cL n k bl zs
 rotate_left
 ·rw[if_neg hfit,if_neg hfit];refine st0 ⟨⟩ ?_;unfold cL at hfit;rcases hk with rfl|rfl
  ·exact .inl ⟨rfl,rfl,by simp;omega⟩
  ·exact .inr ⟨rfl,rfl,by rw[beq_eq_false_iff_ne];omega⟩
 rw[if_pos hfit,if_pos hfit]
 have hkk:FitB n k bl zs false true:=by
  have hf:=hfit;unfold cL at hf;rcases hk with rfl|rfl
  ·exact .inl ⟨rfl,rfl,by simp;omega⟩
  ·exact .inr ⟨rfl,rfl,by rw[beq_iff_eq];omega⟩
 unfold RN.storedO
 by_cases h3:e=n.seen
 ·have g3:(e==n.seen)=true:=by simpa using h3
  have hds:decide (e<n.seen)=false:=by simp;omega
  by_cases hA:n.act=true
  ·have s1:hZ n e q:=.inl ⟨hA,h3⟩;have c1:n.act=true/\e=n.seen:=⟨hA,h3⟩;rw[if_pos s1,if_pos c1];exact st1 ⟨⟩ hkk hA g3
  have hB:n.act=false:=by simpa using hA
  have c1:¬(n.act=true/\e=n.seen):=fun x=>hA x.1;have c2:¬e<n.seen:=by omega
  rw[if_neg c1,if_neg c2]
  by_cases hq1:q<n.last
  ·have s1:hZ n e q:=.inr (.inr ⟨h3,by omega⟩);have c3:e=n.seen/\q<n.last:=⟨h3,hq1⟩;rw[if_pos s1,if_pos c3];exact st4 ⟨⟩ hkk hB g3 hds (by simpa using hq1)
  have c3:¬(e=n.seen/\q<n.last):=fun x=>hq1 x.2;rw[if_neg c3];have hqd:decide (q<n.last)=false:=by simpa using hq1
  by_cases hq2:q=n.last
  ·have s1:hZ n e q:=.inr (.inr ⟨h3,by omega⟩);rw[if_pos s1];exact st5 ⟨⟩ hkk hB g3 hds hqd (by simpa using hq2)
  ·have s1:¬hZ n e q:=by rintro(x|x|x);exact c1 x;omega;omega
   rw[if_neg s1];exact st8 hkk hB g3 hds hqd (by simpa using hq2) hfit
 ·have g3:(e==n.seen)=false:=by simpa using h3
  have c1:¬(n.act=true/\e=n.seen):=fun x=>h3 x.2;rw[if_neg c1]
  by_cases h2:e<n.seen
  ·have hds:decide (e<n.seen)=true:=by simpa using h2
   have s1:hZ n e q:=.inr (.inl h2);rw[if_pos s1,if_pos h2]
   by_cases h4:e<n.lastR.E
   ·rw[if_pos h4];exact st3 n.act ⟨⟩ hkk rfl g3 hds (by simpa using h4) (by have:=hok.lastE;unfold Hid;omega)
   ·rw[if_neg h4];exact st2 n.act ⟨⟩ hkk rfl g3 hds (by simpa using h4)
  ·have hds:decide (e<n.seen)=false:=by simpa using h2
   have s1:¬hZ n e q:=by rintro(x|x|x);exact c1 x;omega;omega
   have c3:¬(e=n.seen/\q<n.last):=fun x=>h3 x.1;rw[if_neg s1,if_neg h2,if_neg c3]
   by_cases hA:n.act=true
   ·exact st7 hkk hA g3 hds hfit
   ·exact st6 hkk (show n.act=false by simpa using hA) g3 hds hfit
end Go.Proofs.YtdcainmlcpafbaaGreatDoor
