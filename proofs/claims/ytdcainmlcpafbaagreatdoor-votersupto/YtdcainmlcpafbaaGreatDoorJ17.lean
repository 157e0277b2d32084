import Derived.Test.YtdcainmlcpafbaaGreatDoorJ16
set_option linter.all false
set_option maxHeartbeats 8000000
set_option maxRecDepth 20000
namespace Go.Proofs.YtdcainmlcpafbaaGreatDoor
open Go.RowKit
open Value renaming int->I,slice->J,pointer->P0
open Tryz renaming prog->pG
open IntKind renaming i64->T
open Option renaming none->Z,some->Y
open Obj renaming cells->G
open Value (bool)
theorem bT.actsTo{w w1 w2:World}{low Nd:Nat}{id nodes nb:Int}{act act':Bool}{St:Nat}{vr:Value}{Mp D H S:Nat}{va:Value}{L:Nat}{P:SD->Prop}(h:bT w w1 low Nd id nodes nb act St vr Mp D H S va L P)(hn:aI w2 Nd id nodes nb St act')(hb:aD Nd w1 w2):bT w w2 low Nd id nodes nb act' St vr Mp D H S va L P:=by
 obtain⟨vr',va',fs',d',h1,h2,h3,h4,h5,h6,h7⟩:=h;refine⟨vr',va',fs',d',h1,hn,⟨h3.blk.same (hb.block St (h3.blk.ne h2.blk (by decide))),aH h3.rcs (fun g hg=>hb.block g (fun hh=>aW h3.rcs h2.blk.blk (by decide) (by rw[←hh];exact hg))),h3.vot.same (hb.block Mp (h3.vot.ne h2.blk))⟩,h4.but h2.blk (by decide) (by decide) (by decide) (by decide) hb,h5,h6,?_⟩;exact⟨hb.os.trans h7.os,hb.tape.trans h7.tape,hb.output.trans h7.output,by rw[hb.size];exact h7.size,fun k hk hA=>(hb.block k (fun hh=>hA (.inl hh))).trans (h7.block k hk hA)⟩
theorem xU(low Nd St:Nat)(d:SD)(vr:Value)(Mp D:Nat)(id nodes nb:Int)(act:Bool)(f e b wa p s q bl v:Int)(a:Option Addr)(zs:List Int)(c:Nat)(w:World)(hn:aI w Nd id nodes nb St act)(h:aF w low St d vr Mp D)(hne:0<d.recs.length)(hlt:d.recs.length<=1300000)(he9:0<=e/\e<=1000000000000)(hE1:-9223372036854775808<=d.lastR.E)(hE2:d.lastR.E<=9223372036854775807)(hno:gM d.lastR.E d.lastR.P d.lastR.S (e+1) p s=false):
  Calls pG 200 #[P0 (Y ⟨Nd,0,Z⟩),.agg #[I T 6,I T f,I T e,I T b,I T wa,I T p,I T s,I T q,I T bl,I T v,J a zs.length c]] w fun r w'=>r=.returned (.bool false)/\Below w.heap.size w w':=by
 have hb0:=(Below.refl w.heap.size w).alloc (Nat.le_refl _) (G #[I T 6,I T f,I T e,I T b,I T wa,I T p,I T s,I T q,I T bl,I T v,J a zs.length c] 136);have HM:=aA (aB.new w #[I T 6,I T f,I T e,I T b,I T wa,I T p,I T s,I T q,I T bl,I T v,J a zs.length c] 136);have HB:=aA hb0;have HN0:=aA hn;have HS0:=aA h;clear hb0 hn h;go_enter Tryz.func200,Tryz.ntmps200
 go_upto_region 1 with fail
 generalize (w.alloc (G #[I T 6,I T f,I T e,I T b,I T wa,I T p,I T s,I T q,I T bl,I T v,J a zs.length c] 136))=W0 at*;have hs0:=HB.out.size;obtain⟨m0,m1,m2,m3,m4,m5,m6,m7,m8,m9,m10⟩:=HM.out.c11
 go_wp2_with fail
 refine(nR 6 f e b wa p s q bl v _ W0 he9.1 he9.2).mono ?_;rintro r w1 ⟨rfl,hb1⟩;have HX0:=aB.new w1 #[I T (e+1),I T p,I T s] 66;have HB2:Hid (Below w.heap.size w (w1.alloc (G #[I T (e+1),I T p,I T s] 66))):=(HB.out.trans (hb1.mono hs0)).alloc (Nat.le_trans hs0 hb1.size) _;have HM2:Hid (aB (w1.alloc (G #[I T (e+1),I T p,I T s] 66)) w.heap.size #[I T 6,I T f,I T e,I T b,I T wa,I T p,I T s,I T q,I T bl,I T v,J a zs.length c] 136):=(HM.out.later hb1).old _;have hX1:w.heap.size<=w1.heap.size:=Nat.le_trans hs0 hb1.size;have HXh:=aA HX0;clear hb1 HX0 m0 m1 m2 m3 m4 m5 m6 m7 m8 m9 m10 HM HB
 go_upto_region 2 with fail
 generalize (w1.alloc (G #[I T (e+1),I T p,I T s] 66))=W2 at*;generalize w1.heap.size=X at*;have HX:=aA HXh.out;clear HXh;have HN2:=aA (HN0.out.later HB2.out);have HS2:=aA (HS0.out.later HB2.out);have hs2:=HB2.out.size;have x0:=HX.out.cell 0;have x1:=HX.out.cell 1;have x2:=HX.out.cell 2;simp at x0 x1 x2
 go_cut [13] (fun s13 wx=>s13=.bool true/\Below W2.heap.size W2 wx)
 case first=>
  refine eN (S:=(fun w'=>w'.cell? ⟨X,0,Z⟩=Y (I T (e+1))/\w'.cell? ⟨X,1,Z⟩=Y (I T p)/\w'.cell? ⟨X,2,Z⟩=Y (I T s))) fun _=>?_;refine tk 0 ?_;refine tk 2 ?_;refine aG 1 fun K hK=>?_
  (try go_simp)
  go_at_call 133
  refine(rW low St Nd d vr Mp D id nodes nb act W2.drew HN2.out.drew HS2.out.drew hne (by omega)).mono ?_;rintro r w3 ⟨rfl,hb3⟩;have HX3:=aA (HX.out.drew.later hb3);have y0:=HX3.out.cell 0;have y1:=HX3.out.cell 1;have y2:=HX3.out.cell 2;simp at y0 y1 y2;refine k1 hK fun _=>?_;clear hK K;refine aG 3 fun K hK=>?_
  (try go_simp)
  go_at_call 134
  refine(qC d.lastR.E d.lastR.P d.lastR.S (e+1) p s w3 hE1 hE2).mono ?_;rintro r w4 ⟨rfl,hb4⟩;have HX4:=aA (HX3.out.later hb4);have z0:=HX4.out.cell 0;have z1:=HX4.out.cell 1;have z2:=HX4.out.cell 2;simp at z0 z1 z2;refine k1 hK fun _=>?_;clear hK K;refine aG 4 fun K hK=>?_
  (try go_simp)
  refine k1 hK fun _=>?_;clear hK K;refine dn ?_
  go_wp2_with fail
  go_meet
  exact⟨rfl,((Below.refl W2.heap.size W2).drew.trans hb3).trans (hb4.mono (by exact hb3.size))⟩
 case rest=>
  obtain⟨rfl,hbx⟩:=hcut;have HB3:=aA (HB2.out.trans (hbx.mono hs2));clear hbx;go_wp2;go_ret;exact⟨rfl,HB3.out⟩
theorem xV(hSO:cU)(hBW:cV)(hBS:cS)(low Nd St:Nat)(d:SD)(vr:Value)(Mp D:Nat)(id nodes nb:Int)(act:Bool)(f e b wa p s q bl v:Int)(a:Option Addr)(zs:List Int)(c:Nat)(w:World)(H S:Nat)(va:Value)(fs:List FD)(L:Nat)(hn:aI w Nd id nodes nb St act)(h:aF w low St d vr Mp D)(hne:0<d.recs.length)(hlt:d.recs.length<=1300000)(hk:aL w low D H S va fs L)(ht:aJ w)(hz:bG w a zs)(hw2:2<=w.heap.size)(hlow:low<=w.heap.size)(hL:L<=1200000000)(hlv:d.vts.length<=1300000)(hln:0<=d.lines/\d.lines<=100000000)(hSt2:2<=St)(hzS:∀ad,a=Y ad->ad.block≠St)(hre:∀r∈d.recs,0<=r.E/\r.E<=10000000000000)(hid:0<=d.id/\d.id<5)(he9:0<=e/\e<=1000000000000)(hzf:∀ad,a=Y ad->¬eH St vr Mp S va ad.block)(hE1:-9223372036854775808<=d.lastR.E)(hE2:d.lastR.E<=9223372036854775807)(hyes:gM d.lastR.E d.lastR.P d.lastR.S (e+1) p s=true):
  Calls pG 200 #[P0 (Y ⟨Nd,0,Z⟩),.agg #[I T 6,I T f,I T e,I T b,I T wa,I T p,I T s,I T q,I T bl,I T v,J a zs.length c]] w fun r w'=>r=.returned (.bool true)/\bT w w' low Nd id nodes nb (d.takes (e+1) p) St vr Mp D H S va (dD L d) (fun d'=>∃ln,dR d ln/\d'=({d with lines:=ln}:SD).step 6 e b p s q bl v zs):=by
 have HK0:=aA hk;have HT0:=aA ht;have HZ0:=aA hz;clear hk ht hz;have hb0:=(Below.refl w.heap.size w).alloc (Nat.le_refl _) (G #[I T 6,I T f,I T e,I T b,I T wa,I T p,I T s,I T q,I T bl,I T v,J a zs.length c] 136);have HM:=aA (aB.new w #[I T 6,I T f,I T e,I T b,I T wa,I T p,I T s,I T q,I T bl,I T v,J a zs.length c] 136);have HB:=aA hb0;have HN0:=aA hn;have HS0:=aA h;clear hb0 hn h;go_enter Tryz.func200,Tryz.ntmps200
 go_upto_region 1 with fail
 generalize (w.alloc (G #[I T 6,I T f,I T e,I T b,I T wa,I T p,I T s,I T q,I T bl,I T v,J a zs.length c] 136))=W0 at*;have hs0:=HB.out.size;obtain⟨m0,m1,m2,m3,m4,m5,m6,m7,m8,m9,m10⟩:=HM.out.c11
 go_wp2_with fail
 refine(nR 6 f e b wa p s q bl v _ W0 he9.1 he9.2).mono ?_;rintro r w1 ⟨rfl,hb1⟩;have HX0:=aB.new w1 #[I T (e+1),I T p,I T s] 66;have HB2:Hid (Below w.heap.size w (w1.alloc (G #[I T (e+1),I T p,I T s] 66))):=(HB.out.trans (hb1.mono hs0)).alloc (Nat.le_trans hs0 hb1.size) _;have HM2:Hid (aB (w1.alloc (G #[I T (e+1),I T p,I T s] 66)) w.heap.size #[I T 6,I T f,I T e,I T b,I T wa,I T p,I T s,I T q,I T bl,I T v,J a zs.length c] 136):=(HM.out.later hb1).old _;have hX1:w.heap.size<=w1.heap.size:=Nat.le_trans hs0 hb1.size;have HXh:=aA HX0;clear hb1 HX0 m0 m1 m2 m3 m4 m5 m6 m7 m8 m9 m10 HM HB
 go_upto_region 2 with fail
 generalize (w1.alloc (G #[I T (e+1),I T p,I T s] 66))=W2 at*;generalize w1.heap.size=X at*;have HX:=aA HXh.out;clear HXh;have HN2:=aA (HN0.out.later HB2.out);have HS2:=aA (HS0.out.later HB2.out);have hs2:=HB2.out.size;have x0:=HX.out.cell 0;have x1:=HX.out.cell 1;have x2:=HX.out.cell 2;simp at x0 x1 x2
 go_cut [13] (fun s13 wx=>s13=.bool false/\Below W2.heap.size W2 wx)
 case first=>
  refine eN (S:=(fun w'=>w'.cell? ⟨X,0,Z⟩=Y (I T (e+1))/\w'.cell? ⟨X,1,Z⟩=Y (I T p)/\w'.cell? ⟨X,2,Z⟩=Y (I T s))) fun _=>?_;refine tk 0 ?_;refine tk 2 ?_;refine aG 1 fun K hK=>?_
  (try go_simp)
  go_at_call 133
  refine(rW low St Nd d vr Mp D id nodes nb act W2.drew HN2.out.drew HS2.out.drew hne (by omega)).mono ?_;rintro r w3 ⟨rfl,hb3⟩;have HX3:=aA (HX.out.drew.later hb3);have y0:=HX3.out.cell 0;have y1:=HX3.out.cell 1;have y2:=HX3.out.cell 2;simp at y0 y1 y2;refine k1 hK fun _=>?_;clear hK K;refine aG 3 fun K hK=>?_
  (try go_simp)
  go_at_call 134
  refine(qC d.lastR.E d.lastR.P d.lastR.S (e+1) p s w3 hE1 hE2).mono ?_;rintro r w4 ⟨rfl,hb4⟩;have HX4:=aA (HX3.out.later hb4);have z0:=HX4.out.cell 0;have z1:=HX4.out.cell 1;have z2:=HX4.out.cell 2;simp at z0 z1 z2;refine k1 hK fun _=>?_;clear hK K;refine aG 4 fun K hK=>?_
  (try go_simp)
  refine k1 hK fun _=>?_;clear hK K;refine dn ?_
  go_wp2_with fail
  go_meet
  exact⟨rfl,((Below.refl W2.heap.size W2).drew.trans hb3).trans (hb4.mono (by exact hb3.size))⟩
 case rest=>
  obtain⟨rfl,hbx⟩:=hcut;obtain⟨W3,hW3⟩:∃y,y=wc:=⟨_,rfl⟩;subst hW3;have HB3:=aA (HB2.out.trans (hbx.mono hs2));have HX3:=aA (HX.out.later hbx);have HM3:=aA (HM2.out.later hbx);have HN3:=aA (HN2.out.later hbx);have HS3:=aA (HS2.out.later hbx);have hs3:=HB3.out.size;clear hbx HB2 HX HM2 HN2 HS2 x0 x1 x2;have x0:=HX3.out.cell 0;have x1:=HX3.out.cell 1;have x2:=HX3.out.cell 2;simp at x0 x1 x2;have c3:=HN3.out.blk.cell 3;simp at c3
  go_upto_region 4 with fail
  go_cut [6] (fun s6 wx=>s6=.bool (d.takes (e+1) p)/\Below W3.heap.size W3 wx)
  case first=>
   refine eN (S:=(fun w'=>w'.cell? ⟨Nd,3,Z⟩=Y (P0 (Y ⟨St,0,Z⟩))/\w'.cell? ⟨X,0,Z⟩=Y (I T (e+1))/\w'.cell? ⟨X,1,Z⟩=Y (I T p)/\w'.cell? ⟨X,2,Z⟩=Y (I T s))) fun _=>?_;refine tk 0 ?_;refine tk 1 ?_;refine tk 2 ?_;refine tk 3 ?_;refine tk 4 ?_;refine tk 5 ?_;refine tk 6 ?_;refine aG 7 fun K hK=>?_
   (try go_simp)
   go_at_call 246
   refine(rX low St d vr Mp D (e+1) p s W3.drew HS3.out.drew hid).mono ?_;rintro r w4 ⟨rfl,hb4⟩;have HX4:=aA (HX3.out.drew.later hb4);have HN4:=aA (HN3.out.drew.later hb4);have y0:=HX4.out.cell 0;have y1:=HX4.out.cell 1;have y2:=HX4.out.cell 2;simp at y0 y1 y2;have n3:=HN4.out.blk.cell 3;simp at n3;refine k1 hK fun _=>?_;clear hK K;refine aG 8 fun K hK=>?_
   (try go_simp)
   refine k1 hK fun _=>?_;clear hK K;refine dn ?_
   go_wp2_with fail
   go_meet
   exact⟨rfl,(Below.refl W3.heap.size W3).drew.trans hb4⟩
  case rest=>
  obtain⟨rfl,hbx⟩:=hcut;have HB4:=aA (HB3.out.trans (hbx.mono hs3));have HM4:=aA (HM3.out.later hbx);have HN4:=aA (HN3.out.later hbx);have HS4:=aA (HS3.out.later hbx);have hs4:=HB4.out.size;clear hbx HB3 HX3 HM3 HN3 HS3 x0 x1 x2 c3;generalize htk:d.takes (e+1) p=tk at*;have HTK:=aA htk;clear htk;obtain⟨m0,m1,m2,m3,m4,m5,m6,m7,m8,m9,m10⟩:=HM4.out.c11
  go_wp2_with fail
  refine(lS hSO hBW hBS Nd id nodes nb act low St d vr Mp D H S va fs L 6 f e b wa p s q bl v a zs c wc HS4.out (HK0.out.later HB4.out) (HT0.out.below HB4.out hw2) (HZ0.out.later HB4.out) (by omega) (by omega) hL hlt hlv hln hSt2 hzS hne hre hid he9 (.inr (.inr (.inl rfl))) hzf HN4.out).mono ?_;rintro r w5 ⟨rfl,hnow⟩;have HNOW:=aA (hnow.pre HB4.out);have HN5:Hid (aI w5 Nd id nodes nb St act):=by obtain⟨_,_,_,_,_,h9,_⟩:=hnow;exact h9
  clear hnow m0 m1 m2 m3 m4 m5 m6 m7 m8 m9 m10 HM4 HN4 HS4
  go_wp2_with fail
  refine(sC Nd St id nodes nb act w5 HN5.out).mono ?_;rintro r w6 ⟨rfl,hn6,hbu6⟩;have HN6:=aA hn6;have HNOW6:=aA (HNOW.out.actsTo hn6 hbu6);clear hn6 hbu6 HNOW HN5;have c5:=HN6.out.blk.cell 5;simp at c5;have hf5:=HN6.out.blk.free 5;have HN7:Hid (aI (w6.setCell ⟨Nd,5,Z⟩ (bool tk)) Nd id nodes nb St tk):=⟨by have h9:=HN6.out.blk.set 5 (bool tk);simpa using h9⟩;have HNOW7:Hid (bT w (w6.setCell ⟨Nd,5,Z⟩ (bool tk)) low Nd id nodes nb tk St vr Mp D H S va (dD L d) (fun d'=>∃ln,dR d ln/\d'=({d with lines:=ln}:SD).step 6 e b p s q bl v zs)):=HNOW6.out.actsTo HN7.out (aD.setCell w6 ⟨Nd,5,Z⟩ _);go_wp2;go_ret;rw[HTK.out];exact⟨rfl,HNOW7.out⟩
theorem qO(hSO:cU)(hBW:cV)(hBS:cS)(low Nd St:Nat)(d:SD)(vr:Value)(Mp D:Nat)(id nodes nb:Int)(act:Bool)(k f e b wa p s q bl v:Int)(a:Option Addr)(zs:List Int)(c:Nat)(w:World)(H S:Nat)(va:Value)(fs:List FD)(L:Nat)(hn:aI w Nd id nodes nb St act)(h:aF w low St d vr Mp D)(hne:0<d.recs.length)(hlt:d.recs.length<=1300000)(hkd:aL w low D H S va fs L)(ht:aJ w)(hz:bG w a zs)(hw2:2<=w.heap.size)(hlow:low<=w.heap.size)(hL:L<=1200000000)(hlv:d.vts.length<=1300000)(hln:0<=d.lines/\d.lines<=100000000)(hSt2:2<=St)(hzS:∀ad,a=Y ad->ad.block≠St)(hre:∀r∈d.recs,0<=r.E/\r.E<=10000000000000)(hid:0<=d.id/\d.id<5)(he9:0<=e/\e<=1000000000000)(hfit:gG k bl zs.length)(hzf:∀ad,a=Y ad->¬eH St vr Mp S va ad.block)(hk:k=7∨k=9)(hft:eC k nb bl zs.length=true)(hac:act=false)(hes:e=d.seen)(hql:d.last<q):
  Calls pG 201 #[P0 (Y ⟨Nd,0,Z⟩),.agg #[I T k,I T f,I T e,I T b,I T wa,I T p,I T s,I T q,I T bl,I T v,J a zs.length c]] w fun r w'=>r=.returned (.agg #[I T (kM k),I T 0,I T e,I T 0,I T 0,I T 0,I T 0,I T q,I T 0,I T 0,J Z 0 0])/\bT w w' low Nd id nodes nb act St vr Mp D H S va (dD L d) (fun d'=>∃ln,dR d ln/\d'=({d with lines:=ln}:SD).step k e b p s q bl v zs):=by
 have hes2:(e==d.seen)=true:=by simp[hes]
 have hes3:decide (e<d.seen)=false:=by simp;omega
 have hes4:(e != d.seen)=false:=by simp[hes]
 have hql2:decide (q<d.last)=false:=by simp;omega
 have hq9:(q==d.last)=false:=by simp;omega
 have hnq:∀w',(binOp BinOp.neq 196 (Value.agg #[I T e,I T q]) (Value.agg #[I T d.seen,I T d.last])).run pG w'=.ok (.bool true) w':=fun w'=>by rw[pH,hq9];simp
 have HES:=aA hes;clear hes hql;have HK0:=aA hkd;have HT0:=aA ht;have HZ0:=aA hz;clear hkd ht hz;have hb0:=(((Below.refl w.heap.size w).alloc (Nat.le_refl _) (G #[I T k,I T f,I T e,I T b,I T wa,I T p,I T s,I T q,I T bl,I T v,J a zs.length c] 136)).alloc (by simp) (G #[I T 0,I T 0,I T 0,I T 0,I T 0,I T 0,I T 0,I T 0,I T 0,I T 0,J Z 0 0] 136)).alloc (by simp;omega) (G #[I T e,I T q] 196);have HM:Hid (aB (((w.alloc (G #[I T k,I T f,I T e,I T b,I T wa,I T p,I T s,I T q,I T bl,I T v,J a zs.length c] 136)).alloc (G #[I T 0,I T 0,I T 0,I T 0,I T 0,I T 0,I T 0,I T 0,I T 0,I T 0,J Z 0 0] 136)).alloc (G #[I T e,I T q] 196)) w.heap.size #[I T k,I T f,I T e,I T b,I T wa,I T p,I T s,I T q,I T bl,I T v,J a zs.length c] 136):=((aB.new _ _ _).old _).old _;have HR:Hid (aB (((w.alloc (G #[I T k,I T f,I T e,I T b,I T wa,I T p,I T s,I T q,I T bl,I T v,J a zs.length c] 136)).alloc (G #[I T 0,I T 0,I T 0,I T 0,I T 0,I T 0,I T 0,I T 0,I T 0,I T 0,J Z 0 0] 136)).alloc (G #[I T e,I T q] 196)) (w.heap.size+1) #[I T 0,I T 0,I T 0,I T 0,I T 0,I T 0,I T 0,I T 0,I T 0,I T 0,J Z 0 0] 136):=by have h9:=(aB.new (w.alloc (G #[I T k,I T f,I T e,I T b,I T wa,I T p,I T s,I T q,I T bl,I T v,J a zs.length c] 136)) #[I T 0,I T 0,I T 0,I T 0,I T 0,I T 0,I T 0,I T 0,I T 0,I T 0,J Z 0 0] 136).old (G #[I T e,I T q] 196);unfold Hid;simpa using h9
 have HP:Hid (aB (((w.alloc (G #[I T k,I T f,I T e,I T b,I T wa,I T p,I T s,I T q,I T bl,I T v,J a zs.length c] 136)).alloc (G #[I T 0,I T 0,I T 0,I T 0,I T 0,I T 0,I T 0,I T 0,I T 0,I T 0,J Z 0 0] 136)).alloc (G #[I T e,I T q] 196)) (w.heap.size+2) #[I T e,I T q] 196):=by have h9:=aB.new ((w.alloc (G #[I T k,I T f,I T e,I T b,I T wa,I T p,I T s,I T q,I T bl,I T v,J a zs.length c] 136)).alloc (G #[I T 0,I T 0,I T 0,I T 0,I T 0,I T 0,I T 0,I T 0,I T 0,I T 0,J Z 0 0] 136)) #[I T e,I T q] 196;unfold Hid;simpa using h9
 have HB:=aA hb0;have HN0:=aA hn;have HS0:=aA h;clear hb0 hn h;go_enter Tryz.func201,Tryz.ntmps201
 go_upto_region 2 with fail
 generalize (((w.alloc (G #[I T k,I T f,I T e,I T b,I T wa,I T p,I T s,I T q,I T bl,I T v,J a zs.length c] 136)).alloc (G #[I T 0,I T 0,I T 0,I T 0,I T 0,I T 0,I T 0,I T 0,I T 0,I T 0,J Z 0 0] 136)).alloc (G #[I T e,I T q] 196))=W0 at*;have HN:=aA (HN0.out.later HB.out);have HS:=aA (HS0.out.later HB.out);have c3:=HN.out.blk.cell 3;simp at c3;have hs0:=HB.out.size
 go_wp2_with fail
 refine(jX low St d vr Mp D W0 HS.out).mono ?_;rintro r w1 ⟨rfl,hb1⟩;have HQ0:=aB.new w1 #[I T d.seen,I T d.last] 196;have hb2:Below W0.heap.size W0 (w1.alloc (G #[I T d.seen,I T d.last] 196)):=hb1.alloc hb1.size _;have HB2:=aA (HB.out.trans (hb2.mono hs0));have HM2:=aA (HM.out.later hb2);have HR2:=aA (HR.out.later hb2);have HP2:=aA (HP.out.later hb2);have HQ2:=aA HQ0;clear hb1 hb2 HQ0 HM HR HP HB HN HS c3
 go_upto_region 3 with fail
 generalize (w1.alloc (G #[I T d.seen,I T d.last] 196))=W2 at*;generalize w1.heap.size=Y1 at*;have HN2:=aA (HN0.out.later HB2.out);have HS2:=aA (HS0.out.later HB2.out);have hs2:=HB2.out.size;obtain⟨m0,m1,m2,m3,m4,m5,m6,m7,m8,m9,m10⟩:=HM2.out.c11;have c5:=HN2.out.blk.cell 5;simp at c5
 go_wp2_with fail
 refine(jY Nd St id nodes nb act k f e b wa p s q bl v a zs c W2 HN2.out hk).mono ?_;rintro r w3 ⟨rfl,hb3⟩;have HB3:=aA (HB2.out.trans (hb3.mono hs2));have HM3:=aA (HM2.out.later hb3);have HR3:=aA (HR2.out.later hb3);have HP3:=aA (HP2.out.later hb3);have HQ3:=aA (HQ2.out.later hb3);have HN3:=aA (HN0.out.later HB3.out);have HS3:=aA (HS0.out.later HB3.out);have hs3:=HB3.out.size;clear hb3 HB2 HM2 HR2 HP2 HQ2 HN2 HS2 hs2 m0 m1 m2 m3 m4 m5 m6 m7 m8 m9 m10 c5;obtain⟨m0,m1,m2,m3,m4,m5,m6,m7,m8,m9,m10⟩:=HM3.out.c11;have c5:=HN3.out.blk.cell 5;simp at c5;have i0:=HP3.out.cell 0;have i1:=HP3.out.cell 1;simp at i0 i1;have j0:=HQ3.out.cell 0;have j1:=HQ3.out.cell 1;simp at j0 j1;rw[hft]
 go_upto_region 7 with fail
 go_wp2_with fail
 refine(lS hSO hBW hBS Nd id nodes nb act low St d vr Mp D H S va fs L k f e b wa p s q bl v a zs c w3 HS3.out (HK0.out.later HB3.out) (HT0.out.below HB3.out hw2) (HZ0.out.later HB3.out) (by omega) (by omega) hL hlt hlv hln hSt2 hzS hne hre hid he9 hfit hzf HN3.out).mono ?_;rintro r w4 ⟨rfl,hnow⟩;have HKP:aK (fun g=>g=Nd∨eH St vr Mp S va g) w3 w4:=by obtain⟨_,_,_,_,_,_,_,_,_,_,h9⟩:=hnow;exact h9
 have hKP:∀(B:Nat) (cs:Array Value) (ty:TypeId),aB w3 B cs ty->ty≠192->ty≠200->ty≠66->ty≠98->ty≠107->aB w4 B cs ty:=fun B cs ty hB t1 t2 t3 t4 t5=>hB.same (HKP.block B hB.lt (fun hh=>hh.elim (fun h9=>hB.ne HN3.out.blk t1 h9) (gA HS3.out (HK0.out.later HB3.out) hB t2 t3 t4 t5)));have HM4:Hid (aB w4 w.heap.size #[I T k,I T f,I T e,I T b,I T wa,I T p,I T s,I T q,I T bl,I T v,J a zs.length c] 136):=hKP _ _ _ HM3.out (by decide) (by decide) (by decide) (by decide) (by decide);have HR4:Hid (aB w4 (w.heap.size+1) #[I T 0,I T 0,I T 0,I T 0,I T 0,I T 0,I T 0,I T 0,I T 0,I T 0,J Z 0 0] 136):=hKP _ _ _ HR3.out (by decide) (by decide) (by decide) (by decide) (by decide);have HP4:Hid (aB w4 (w.heap.size+2) #[I T e,I T q] 196):=hKP _ _ _ HP3.out (by decide) (by decide) (by decide) (by decide) (by decide);have HQ4:Hid (aB w4 Y1 #[I T d.seen,I T d.last] 196):=hKP _ _ _ HQ3.out (by decide) (by decide) (by decide) (by decide) (by decide);have HNOW:=aA (hnow.pre HB3.out);have HN4:Hid (aI w4 Nd id nodes nb St act):=by obtain⟨_,_,_,_,_,h9,_⟩:=hnow;exact h9
 clear hnow HKP hKP HM3 HR3 HP3 HQ3 HN3 HS3 HB3 m0 m1 m2 m3 m4 m5 m6 m7 m8 m9 m10 i0 i1 j0 j1 c5;obtain⟨m0,m1,m2,m3,m4,m5,m6,m7,m8,m9,m10⟩:=HM4.out.c11;have i0:=HP4.out.cell 0;have i1:=HP4.out.cell 1;simp at i0 i1;have j0:=HQ4.out.cell 0;have j1:=HQ4.out.cell 1;simp at j0 j1
 go_upto_region 11 with fail
 refine kL (S:=(fun w'=>w'.cell? ⟨w.heap.size,0,Z⟩=Y (I T k)/\w'.cell? ⟨w.heap.size,1,Z⟩=Y (I T f)/\w'.cell? ⟨w.heap.size,2,Z⟩=Y (I T e)/\w'.cell? ⟨w.heap.size,3,Z⟩=Y (I T b)/\w'.cell? ⟨w.heap.size,4,Z⟩=Y (I T wa)/\w'.cell? ⟨w.heap.size,5,Z⟩=Y (I T p)/\w'.cell? ⟨w.heap.size,6,Z⟩=Y (I T s)/\w'.cell? ⟨w.heap.size,7,Z⟩=Y (I T q)/\w'.cell? ⟨w.heap.size,8,Z⟩=Y (I T bl)/\w'.cell? ⟨w.heap.size,9,Z⟩=Y (I T v)/\w'.cell? ⟨w.heap.size,10,Z⟩=Y (J a zs.length c))) fun _=>?_;refine tk 0 ?_;refine tk 2 ?_;refine tk 3 ?_;refine tk 4 ?_;refine tk 5 ?_;refine aG 1 fun K hK=>?_
 (try go_simp)
 go_at_call 249
 refine(nT k f e b wa p s q bl v _ w4.drew).mono ?_;rintro r wk ⟨rfl,hbk⟩;have HMk:=aA (HM4.out.drew.later hbk);have HRk:=aA (HR4.out.drew.later hbk);generalize hka:(kM k)=ka at*;have HKA:=aA hka.symm;clear hka;obtain⟨y0,y1,y2,y3,y4,y5,y6,y7,y8,y9,y10⟩:=HMk.out.c11;obtain⟨r0,r1,r2,r3,r4,r5,r6,r7,r8,r9,r10⟩:=HRk.out.c11;have hf0:=HRk.out.free 0;have hf1:=HRk.out.free 1;have hf2:=HRk.out.free 2;have hf3:=HRk.out.free 3;have hf4:=HRk.out.free 4;have hf5:=HRk.out.free 5;have hf6:=HRk.out.free 6;have hf7:=HRk.out.free 7;have hf8:=HRk.out.free 8;have hf9:=HRk.out.free 9;have hf10:=HRk.out.free 10;refine k2 hK fun _=>?_;clear hK K;refine aG 6 fun K hK=>?_
 (try go_simp)
 refine k2 hK fun _=>?_;clear hK K;refine aG 7 fun K hK=>?_
 (try go_simp)
 have HBF:=aA (mA wk (w.heap.size+1) (I T ka) (I T 0) (I T e) (I T 0) (I T 0) (I T 0) (I T 0) (I T q) (I T 0) (I T 0) (J Z 0 0));have HRF:=aA (HRk.out.s11 (I T ka) (I T 0) (I T e) (I T 0) (I T 0) (I T 0) (I T 0) (I T q) (I T 0) (I T 0) (J Z 0 0));generalize World.setCell _ _ _=W9 at*;have HMF:Hid (aB W9 w.heap.size _ 136):=HMk.out.same (HBF.out.block _ (by omega));obtain⟨g0,g1,g2,g3,g4,g5,g6,g7,g8,g9,g10⟩:=HMF.out.c11;refine k2 hK fun _=>?_;clear hK K;refine dn ?_;go_wp2;obtain⟨q0,q1,q2,q3,q4,q5,q6,q7,q8,q9,q10⟩:=HRF.out.c11;exact bodyPost_ret (v:=.agg #[I T ka,I T 0,I T e,I T 0,I T 0,I T 0,I T 0,I T q,I T 0,I T 0,J Z 0 0]) (by simp[results,Tryz.results201,go_sem,q0,q1,q2,q3,q4,q5,q6,q7,q8,q9,q10]) rfl ⟨by rw[HKA.out],(HNOW.out.later ((Below.refl _ w4).drew.trans hbk)).but HRk.out (by omega) (by decide) (by decide) (by decide) (by decide) (by decide) (by decide) (by decide) HBF.out⟩
theorem qP(hSO:cU)(hBW:cV)(hBS:cS)(low Nd St:Nat)(d:SD)(vr:Value)(Mp D:Nat)(id nodes nb:Int)(act:Bool)(k f e b wa p s q bl v:Int)(a:Option Addr)(zs:List Int)(c:Nat)(w:World)(H S:Nat)(va:Value)(fs:List FD)(L:Nat)(hn:aI w Nd id nodes nb St act)(h:aF w low St d vr Mp D)(hne:0<d.recs.length)(hlt:d.recs.length<=1300000)(hkd:aL w low D H S va fs L)(ht:aJ w)(hz:bG w a zs)(hw2:2<=w.heap.size)(hlow:low<=w.heap.size)(hL:L<=1200000000)(hlv:d.vts.length<=1300000)(hln:0<=d.lines/\d.lines<=100000000)(hSt2:2<=St)(hzS:∀ad,a=Y ad->ad.block≠St)(hre:∀r∈d.recs,0<=r.E/\r.E<=10000000000000)(hid:0<=d.id/\d.id<5)(he9:0<=e/\e<=1000000000000)(hfit:gG k bl zs.length)(hzf:∀ad,a=Y ad->¬eH St vr Mp S va ad.block)(hk:k=7∨k=9)(hft:eC k nb bl zs.length=true)(hes:d.seen<e):
  Calls pG 201 #[P0 (Y ⟨Nd,0,Z⟩),.agg #[I T k,I T f,I T e,I T b,I T wa,I T p,I T s,I T q,I T bl,I T v,J a zs.length c]] w fun r w'=>r=.returned (.agg #[I T (kM k),I T 0,I T e,I T 0,I T 0,I T 0,I T 0,I T q,I T 0,I T 0,J Z 0 0])/\bT w w' low Nd id nodes nb false St vr Mp D H S va (dD L d) (fun d'=>∃ln,dR d ln/\d'=({d with lines:=ln}:SD).step k e b p s q bl v zs):=by
 have hes2:(e==d.seen)=false:=by simp;omega
 have hes3:decide (e<d.seen)=false:=by simp;omega
 have hes4:(e != d.seen)=true:=by simp;omega
 have hnq:∀w',(binOp BinOp.neq 196 (Value.agg #[I T e,I T q]) (Value.agg #[I T d.seen,I T d.last])).run pG w'=.ok (.bool true) w':=fun w'=>by rw[pH,hes2];simp
 have HES:=aA hes;clear hes;have HK0:=aA hkd;have HT0:=aA ht;have HZ0:=aA hz;clear hkd ht hz;have hb0:=(((Below.refl w.heap.size w).alloc (Nat.le_refl _) (G #[I T k,I T f,I T e,I T b,I T wa,I T p,I T s,I T q,I T bl,I T v,J a zs.length c] 136)).alloc (by simp) (G #[I T 0,I T 0,I T 0,I T 0,I T 0,I T 0,I T 0,I T 0,I T 0,I T 0,J Z 0 0] 136)).alloc (by simp;omega) (G #[I T e,I T q] 196);have HM:Hid (aB (((w.alloc (G #[I T k,I T f,I T e,I T b,I T wa,I T p,I T s,I T q,I T bl,I T v,J a zs.length c] 136)).alloc (G #[I T 0,I T 0,I T 0,I T 0,I T 0,I T 0,I T 0,I T 0,I T 0,I T 0,J Z 0 0] 136)).alloc (G #[I T e,I T q] 196)) w.heap.size #[I T k,I T f,I T e,I T b,I T wa,I T p,I T s,I T q,I T bl,I T v,J a zs.length c] 136):=((aB.new _ _ _).old _).old _;have HR:Hid (aB (((w.alloc (G #[I T k,I T f,I T e,I T b,I T wa,I T p,I T s,I T q,I T bl,I T v,J a zs.length c] 136)).alloc (G #[I T 0,I T 0,I T 0,I T 0,I T 0,I T 0,I T 0,I T 0,I T 0,I T 0,J Z 0 0] 136)).alloc (G #[I T e,I T q] 196)) (w.heap.size+1) #[I T 0,I T 0,I T 0,I T 0,I T 0,I T 0,I T 0,I T 0,I T 0,I T 0,J Z 0 0] 136):=by have h9:=(aB.new (w.alloc (G #[I T k,I T f,I T e,I T b,I T wa,I T p,I T s,I T q,I T bl,I T v,J a zs.length c] 136)) #[I T 0,I T 0,I T 0,I T 0,I T 0,I T 0,I T 0,I T 0,I T 0,I T 0,J Z 0 0] 136).old (G #[I T e,I T q] 196);unfold Hid;simpa using h9
 have HP:Hid (aB (((w.alloc (G #[I T k,I T f,I T e,I T b,I T wa,I T p,I T s,I T q,I T bl,I T v,J a zs.length c] 136)).alloc (G #[I T 0,I T 0,I T 0,I T 0,I T 0,I T 0,I T 0,I T 0,I T 0,I T 0,J Z 0 0] 136)).alloc (G #[I T e,I T q] 196)) (w.heap.size+2) #[I T e,I T q] 196):=by have h9:=aB.new ((w.alloc (G #[I T k,I T f,I T e,I T b,I T wa,I T p,I T s,I T q,I T bl,I T v,J a zs.length c] 136)).alloc (G #[I T 0,I T 0,I T 0,I T 0,I T 0,I T 0,I T 0,I T 0,I T 0,I T 0,J Z 0 0] 136)) #[I T e,I T q] 196;unfold Hid;simpa using h9
 have HB:=aA hb0;have HN0:=aA hn;have HS0:=aA h;clear hb0 hn h;go_enter Tryz.func201,Tryz.ntmps201
 go_upto_region 2 with fail
 generalize (((w.alloc (G #[I T k,I T f,I T e,I T b,I T wa,I T p,I T s,I T q,I T bl,I T v,J a zs.length c] 136)).alloc (G #[I T 0,I T 0,I T 0,I T 0,I T 0,I T 0,I T 0,I T 0,I T 0,I T 0,J Z 0 0] 136)).alloc (G #[I T e,I T q] 196))=W0 at*;have HN:=aA (HN0.out.later HB.out);have HS:=aA (HS0.out.later HB.out);have c3:=HN.out.blk.cell 3;simp at c3;have hs0:=HB.out.size
 go_wp2_with fail
 refine(jX low St d vr Mp D W0 HS.out).mono ?_;rintro r w1 ⟨rfl,hb1⟩;have HQ0:=aB.new w1 #[I T d.seen,I T d.last] 196;have hb2:Below W0.heap.size W0 (w1.alloc (G #[I T d.seen,I T d.last] 196)):=hb1.alloc hb1.size _;have HB2:=aA (HB.out.trans (hb2.mono hs0));have HM2:=aA (HM.out.later hb2);have HR2:=aA (HR.out.later hb2);have HP2:=aA (HP.out.later hb2);have HQ2:=aA HQ0;clear hb1 hb2 HQ0 HM HR HP HB HN HS c3
 go_upto_region 3 with fail
 generalize (w1.alloc (G #[I T d.seen,I T d.last] 196))=W2 at*;generalize w1.heap.size=Y1 at*;have HN2:=aA (HN0.out.later HB2.out);have HS2:=aA (HS0.out.later HB2.out);have hs2:=HB2.out.size;obtain⟨m0,m1,m2,m3,m4,m5,m6,m7,m8,m9,m10⟩:=HM2.out.c11;have c5:=HN2.out.blk.cell 5;simp at c5
 go_wp2_with fail
 refine(jY Nd St id nodes nb act k f e b wa p s q bl v a zs c W2 HN2.out hk).mono ?_;rintro r w3 ⟨rfl,hb3⟩;have HB3:=aA (HB2.out.trans (hb3.mono hs2));have HM3:=aA (HM2.out.later hb3);have HR3:=aA (HR2.out.later hb3);have HP3:=aA (HP2.out.later hb3);have HQ3:=aA (HQ2.out.later hb3);have HN3:=aA (HN0.out.later HB3.out);have HS3:=aA (HS0.out.later HB3.out);have hs3:=HB3.out.size;clear hb3 HB2 HM2 HR2 HP2 HQ2 HN2 HS2 hs2 m0 m1 m2 m3 m4 m5 m6 m7 m8 m9 m10 c5;obtain⟨m0,m1,m2,m3,m4,m5,m6,m7,m8,m9,m10⟩:=HM3.out.c11;have c5:=HN3.out.blk.cell 5;simp at c5;have i0:=HP3.out.cell 0;have i1:=HP3.out.cell 1;simp at i0 i1;have j0:=HQ3.out.cell 0;have j1:=HQ3.out.cell 1;simp at j0 j1;rw[hft]
 go_upto_region 7 with fail
 go_wp2_with fail
 refine(lS hSO hBW hBS Nd id nodes nb act low St d vr Mp D H S va fs L k f e b wa p s q bl v a zs c w3 HS3.out (HK0.out.later HB3.out) (HT0.out.below HB3.out hw2) (HZ0.out.later HB3.out) (by omega) (by omega) hL hlt hlv hln hSt2 hzS hne hre hid he9 hfit hzf HN3.out).mono ?_;rintro r w4 ⟨rfl,hnow⟩;have HKP:aK (fun g=>g=Nd∨eH St vr Mp S va g) w3 w4:=by obtain⟨_,_,_,_,_,_,_,_,_,_,h9⟩:=hnow;exact h9
 have hKP:∀(B:Nat) (cs:Array Value) (ty:TypeId),aB w3 B cs ty->ty≠192->ty≠200->ty≠66->ty≠98->ty≠107->aB w4 B cs ty:=fun B cs ty hB t1 t2 t3 t4 t5=>hB.same (HKP.block B hB.lt (fun hh=>hh.elim (fun h9=>hB.ne HN3.out.blk t1 h9) (gA HS3.out (HK0.out.later HB3.out) hB t2 t3 t4 t5)));have HM4:Hid (aB w4 w.heap.size #[I T k,I T f,I T e,I T b,I T wa,I T p,I T s,I T q,I T bl,I T v,J a zs.length c] 136):=hKP _ _ _ HM3.out (by decide) (by decide) (by decide) (by decide) (by decide);have HR4:Hid (aB w4 (w.heap.size+1) #[I T 0,I T 0,I T 0,I T 0,I T 0,I T 0,I T 0,I T 0,I T 0,I T 0,J Z 0 0] 136):=hKP _ _ _ HR3.out (by decide) (by decide) (by decide) (by decide) (by decide);have HP4:Hid (aB w4 (w.heap.size+2) #[I T e,I T q] 196):=hKP _ _ _ HP3.out (by decide) (by decide) (by decide) (by decide) (by decide);have HQ4:Hid (aB w4 Y1 #[I T d.seen,I T d.last] 196):=hKP _ _ _ HQ3.out (by decide) (by decide) (by decide) (by decide) (by decide);have HNOW:=aA (hnow.pre HB3.out);have HN4:Hid (aI w4 Nd id nodes nb St act):=by obtain⟨_,_,_,_,_,h9,_⟩:=hnow;exact h9
 clear hnow HKP hKP HM3 HR3 HP3 HQ3 HN3 HS3 HB3 m0 m1 m2 m3 m4 m5 m6 m7 m8 m9 m10 i0 i1 j0 j1 c5;obtain⟨m0,m1,m2,m3,m4,m5,m6,m7,m8,m9,m10⟩:=HM4.out.c11;have i0:=HP4.out.cell 0;have i1:=HP4.out.cell 1;simp at i0 i1;have j0:=HQ4.out.cell 0;have j1:=HQ4.out.cell 1;simp at j0 j1
 go_upto_region 10 with fail
 go_wp2_with fail
 refine(sC Nd St id nodes nb act w4 HN4.out).mono ?_;rintro r w5 ⟨rfl,hn5,hbu5⟩;have HNOW5:=aA (HNOW.out.actsTo hn5 hbu5);have HM5:Hid (aB w5 w.heap.size #[I T k,I T f,I T e,I T b,I T wa,I T p,I T s,I T q,I T bl,I T v,J a zs.length c] 136):=HM4.out.same (hbu5.block _ (HM4.out.ne HN4.out.blk (by decide)));have HR5:Hid (aB w5 (w.heap.size+1) #[I T 0,I T 0,I T 0,I T 0,I T 0,I T 0,I T 0,I T 0,I T 0,I T 0,J Z 0 0] 136):=HR4.out.same (hbu5.block _ (HR4.out.ne HN4.out.blk (by decide)));clear hn5 hbu5 HNOW HM4 HR4 HP4 HQ4 HN4 m0 m1 m2 m3 m4 m5 m6 m7 m8 m9 m10 i0 i1 j0 j1;obtain⟨m0,m1,m2,m3,m4,m5,m6,m7,m8,m9,m10⟩:=HM5.out.c11
 go_upto_region 11 with fail
 refine kL (S:=(fun w'=>w'.cell? ⟨w.heap.size,0,Z⟩=Y (I T k)/\w'.cell? ⟨w.heap.size,1,Z⟩=Y (I T f)/\w'.cell? ⟨w.heap.size,2,Z⟩=Y (I T e)/\w'.cell? ⟨w.heap.size,3,Z⟩=Y (I T b)/\w'.cell? ⟨w.heap.size,4,Z⟩=Y (I T wa)/\w'.cell? ⟨w.heap.size,5,Z⟩=Y (I T p)/\w'.cell? ⟨w.heap.size,6,Z⟩=Y (I T s)/\w'.cell? ⟨w.heap.size,7,Z⟩=Y (I T q)/\w'.cell? ⟨w.heap.size,8,Z⟩=Y (I T bl)/\w'.cell? ⟨w.heap.size,9,Z⟩=Y (I T v)/\w'.cell? ⟨w.heap.size,10,Z⟩=Y (J a zs.length c))) fun _=>?_;refine tk 0 ?_;refine tk 2 ?_;refine tk 3 ?_;refine tk 4 ?_;refine tk 5 ?_;refine aG 1 fun K hK=>?_
 (try go_simp)
 go_at_call 249
 refine(nT k f e b wa p s q bl v _ w5.drew).mono ?_;rintro r wk ⟨rfl,hbk⟩;have HMk:=aA (HM5.out.drew.later hbk);have HRk:=aA (HR5.out.drew.later hbk);generalize hka:(kM k)=ka at*;have HKA:=aA hka.symm;clear hka;obtain⟨y0,y1,y2,y3,y4,y5,y6,y7,y8,y9,y10⟩:=HMk.out.c11;obtain⟨r0,r1,r2,r3,r4,r5,r6,r7,r8,r9,r10⟩:=HRk.out.c11;have hf0:=HRk.out.free 0;have hf1:=HRk.out.free 1;have hf2:=HRk.out.free 2;have hf3:=HRk.out.free 3;have hf4:=HRk.out.free 4;have hf5:=HRk.out.free 5;have hf6:=HRk.out.free 6;have hf7:=HRk.out.free 7;have hf8:=HRk.out.free 8;have hf9:=HRk.out.free 9;have hf10:=HRk.out.free 10;refine k2 hK fun _=>?_;clear hK K;refine aG 6 fun K hK=>?_
 (try go_simp)
 refine k2 hK fun _=>?_;clear hK K;refine aG 7 fun K hK=>?_
 (try go_simp)
 have HBF:=aA (mA wk (w.heap.size+1) (I T ka) (I T 0) (I T e) (I T 0) (I T 0) (I T 0) (I T 0) (I T q) (I T 0) (I T 0) (J Z 0 0));have HRF:=aA (HRk.out.s11 (I T ka) (I T 0) (I T e) (I T 0) (I T 0) (I T 0) (I T 0) (I T q) (I T 0) (I T 0) (J Z 0 0));generalize World.setCell _ _ _=W9 at*;have HMF:Hid (aB W9 w.heap.size _ 136):=HMk.out.same (HBF.out.block _ (by omega));obtain⟨g0,g1,g2,g3,g4,g5,g6,g7,g8,g9,g10⟩:=HMF.out.c11;refine k2 hK fun _=>?_;clear hK K;refine dn ?_;go_wp2;obtain⟨q0,q1,q2,q3,q4,q5,q6,q7,q8,q9,q10⟩:=HRF.out.c11;exact bodyPost_ret (v:=.agg #[I T ka,I T 0,I T e,I T 0,I T 0,I T 0,I T 0,I T q,I T 0,I T 0,J Z 0 0]) (by simp[results,Tryz.results201,go_sem,q0,q1,q2,q3,q4,q5,q6,q7,q8,q9,q10]) rfl ⟨by rw[HKA.out],(HNOW5.out.later ((Below.refl _ w5).drew.trans hbk)).but HRk.out (by omega) (by decide) (by decide) (by decide) (by decide) (by decide) (by decide) (by decide) HBF.out⟩
theorem l4:(Tryz.prog.info? 172).map (fun i=>(i.zero,i.size,i.bytes))=Y (Y (.agg #[I T 0,J Z 0 0]),2,32):=by kernel_rfl
theorem IP(Nd St:Nat)(id nodes nb:Int)(act:Bool)(k f e b wa p s q bl v:Int)(w:World)(hn:aI w Nd id nodes nb St act)(ht:aJ w)(hw2:2<=w.heap.size)(hn5:nodes<=5)(hF:0<nodes)(hm:aN k id [0,e,b,wa,p,s,q,bl,v,0]=true):
  Calls pG 140 #[P0 (Y ⟨Nd,0,Z⟩),I T 1,.agg #[I T k,I T f,I T e,I T b,I T wa,I T p,I T s,I T q,I T bl,I T v,J Z 0 0]] w fun r w'=>∃l x,r=.returned l/\w'.ownsRow w.heap.size 172 2 l 1 [I T 0,x]/\bJ w' w.heap.size x (aT k id e b wa p s q bl v [])/\Below w.heap.size w w':=by
 obtain⟨i0,hi0,hz0,hz1,hz2⟩:=info_parts l4;have hb0:=(Below.refl w.heap.size w).alloc (Nat.le_refl _) (G #[I T k,I T id,I T e,I T b,I T wa,I T p,I T s,I T q,I T bl,I T v,J Z 0 0] 136);have HM:=aA (aB.new w #[I T k,I T id,I T e,I T b,I T wa,I T p,I T s,I T q,I T bl,I T v,J Z 0 0] 136);have HB:=aA hb0;have HN:=aA (hn.later hb0);have HT:=aA ht;have HMS:=aA hm;have hNd:=hn.blk.lt;have c0:=hn.blk.cell 0;have c1:=hn.blk.cell 1;simp at c0 c1;clear hb0 ht hm hn;go_enter Tryz.func140,Tryz.ntmps140
 go_upto_region 4 with fail
 generalize (w.alloc (G #[I T k,I T id,I T e,I T b,I T wa,I T p,I T s,I T q,I T bl,I T v,J Z 0 0] 136))=W1 at*;have hs1:=HB.out.size
 go_loopw [7,20] (fun s7 s20 wr=>∃t:Nat,(t:Int)<=nodes/\s20=I T (t:Int)/\((t<=0/\s7=J Z 0 0)∨(0<t/\∃x,wr.ownsRow w.heap.size 172 2 s7 1 [I T 0,x]/\bJ wr w.heap.size x (aT k id e b wa p s q bl v [])))/\aB wr w.heap.size #[I T k,I T id,I T e,I T b,I T wa,I T p,I T s,I T q,I T bl,I T v,J Z 0 0] 136/\Below w.heap.size w wr) (fun s7 s20 wr=>nodes.toNat - (intOf s20).toNat)
 case atStart=>exact⟨0,by omega,rfl,.inl ⟨Nat.zero_le _,rfl⟩,HM.out,HB.out⟩
 case round=>
  obtain⟨t,htn,rfl,hst,hmb,hbr⟩:=hrel;have HBR:=aA hbr;have HMB:=aA hmb;have hz:=hbr.size;clear hmb hbr
  by_cases htl:(t:Int)<nodes
  ·have ht5:t=0∨t=1∨t=2∨t=3∨t=4:=by omega
   rcases ht5 with rfl|rfl|rfl|rfl|rfl
   ·rcases hst with⟨_,rfl⟩|⟨h9,_⟩
    ·have m0:=HMB.out.cell 0;have m1:=HMB.out.cell 1;have m2:=HMB.out.cell 2;have m3:=HMB.out.cell 3;have m4:=HMB.out.cell 4;have m5:=HMB.out.cell 5;have m6:=HMB.out.cell 6;have m7:=HMB.out.cell 7;have m8:=HMB.out.cell 8;have m9:=HMB.out.cell 9;have m10:=HMB.out.cell 10;simp at m0 m1 m2 m3 m4 m5 m6 m7 m8 m9 m10
     go_wp2_with fail
     refine(jW k id e b wa p s q bl v none [] 0 wr (HT.out.below HBR.out hw2) (.inl rfl) HMS.out).mono ?_;rintro r w3 ⟨x,rfl,hx0,hb3⟩;have hx:bJ w3 wr.heap.size x (aT k id e b wa p s q bl v []):=hx0;clear hx0;generalize hBS:(aT k id e b wa p s q bl v [])=BSS at hx;have HBS:=aA hBS;clear hBS;obtain⟨xa,xc,rfl⟩:=aO hx;have HX:=aA (cM hx hz);have HB3:=aA (HBR.out.trans (hb3.mono hz));have HM3:=aA (HMB.out.later hb3);have hz3:=HB3.out.size;clear hx hb3 m0 m1 m2 m3 m4 m5 m6 m7 m8 m9 m10
     go_wp2_with(at_builtin;go_loud (refine wpList_append_own _ rfl _ _ 118 rfl w.heap.size 172 i0 (.agg #[I T 0,J Z 0 0]) 2 32 Tryz.underlying118 hi0 hz0 hz1 hz2 rfl (by decide) _ 0 [] rfl (World.ownsRow_nil _ _ _ _) ⟨w3.heap.size,0,Z⟩ 1 1 [I T 0,J xa BSS.length xc] rfl rfl ?c1 ?c2 ?c3 ?c4 ?c5 ?_))
     case c1=>first|exact fun j u hu=>hu|exact jG w3 w3.heap.size rfl _ 172
     case c2=>intro u hu;simp at hu;rcases hu with rfl|rfl<;>rfl
     case c3=>unfold maxLen;omega
     case c4=>omega
     case c5=>first|omega|(simp;omega)
     intro v' w4 ho4 hg4 hnil;have HB4:=aA ((HB3.out.alloc hz3 _).grown hg4 (by simp;omega) (fun g hg=>by simp[Value.ownBlock]at hg));have HM4:=aA ((HM3.out.old _).grown hg4 (by simp[Value.ownBlock]));have HX4:Hid (bJ w4 w.heap.size (J xa BSS.length xc) BSS):=aH HX.out (fun g hg=>(hg4.block g (by have:=(HX.out.lt g hg).2;simp;omega) (by simp[Value.ownBlock])).trans (heap_alloc_old _ _ (HX.out.lt g hg).2))
     go_wp2_with fail
     go_roundw
     case rel=>exact⟨1,by omega,rfl,.inr ⟨by omega,_,ho4,by rw[HBS.out];exact HX4.out⟩,HM4.out,HB4.out⟩
     case measure=>simp[intOf];omega
    ·omega
   ·rcases hst with⟨h9,_⟩|⟨_,x,hr,ho⟩
    ·omega
    ·obtain⟨la,lc,rfl⟩:=aO hr;have HR:Hid _:=hr;have HO:Hid _:=ho;clear hr ho
     go_wp2_with fail
     go_roundw
     case rel=>exact⟨2,by omega,rfl,.inr ⟨by omega,x,HR.out,HO.out⟩,HMB.out,HBR.out⟩
     case measure=>simp[intOf];omega
   ·rcases hst with⟨h9,_⟩|⟨_,x,hr,ho⟩
    ·omega
    ·obtain⟨la,lc,rfl⟩:=aO hr;have HR:Hid _:=hr;have HO:Hid _:=ho;clear hr ho
     go_wp2_with fail
     go_roundw
     case rel=>exact⟨3,by omega,rfl,.inr ⟨by omega,x,HR.out,HO.out⟩,HMB.out,HBR.out⟩
     case measure=>simp[intOf];omega
   ·rcases hst with⟨h9,_⟩|⟨_,x,hr,ho⟩
    ·omega
    ·obtain⟨la,lc,rfl⟩:=aO hr;have HR:Hid _:=hr;have HO:Hid _:=ho;clear hr ho
     go_wp2_with fail
     go_roundw
     case rel=>exact⟨4,by omega,rfl,.inr ⟨by omega,x,HR.out,HO.out⟩,HMB.out,HBR.out⟩
     case measure=>simp[intOf];omega
   ·rcases hst with⟨h9,_⟩|⟨_,x,hr,ho⟩
    ·omega
    ·obtain⟨la,lc,rfl⟩:=aO hr;have HR:Hid _:=hr;have HO:Hid _:=ho;clear hr ho
     go_wp2_with fail
     go_roundw
     case rel=>exact⟨5,by omega,rfl,.inr ⟨by omega,x,HR.out,HO.out⟩,HMB.out,HBR.out⟩
     case measure=>simp[intOf];omega
  ·have hFt:0<t:=by omega
   rcases hst with⟨h9,_⟩|⟨_,x,hr,ho⟩
   ·omega
   ·obtain⟨la,lc,rfl⟩:=aO hr;go_wp2;go_ret
    first|exact⟨_,x,rfl,hr,ho,HBR.out⟩|exact⟨_,rfl,x,hr,ho,HBR.out⟩
theorem IQ(Nd St:Nat)(id nodes nb:Int)(act:Bool)(k f e b wa p s q bl v:Int)(w:World)(hn:aI w Nd id nodes nb St act)(ht:aJ w)(hw2:2<=w.heap.size)(hn5:nodes<=5)(hF:1<nodes)(hm:aN k id [0,e,b,wa,p,s,q,bl,v,0]=true):
  Calls pG 140 #[P0 (Y ⟨Nd,0,Z⟩),I T 2,.agg #[I T k,I T f,I T e,I T b,I T wa,I T p,I T s,I T q,I T bl,I T v,J Z 0 0]] w fun r w'=>∃l x,r=.returned l/\w'.ownsRow w.heap.size 172 2 l 1 [I T 1,x]/\bJ w' w.heap.size x (aT k id e b wa p s q bl v [])/\Below w.heap.size w w':=by
 obtain⟨i0,hi0,hz0,hz1,hz2⟩:=info_parts l4;have hb0:=(Below.refl w.heap.size w).alloc (Nat.le_refl _) (G #[I T k,I T id,I T e,I T b,I T wa,I T p,I T s,I T q,I T bl,I T v,J Z 0 0] 136);have HM:=aA (aB.new w #[I T k,I T id,I T e,I T b,I T wa,I T p,I T s,I T q,I T bl,I T v,J Z 0 0] 136);have HB:=aA hb0;have HN:=aA (hn.later hb0);have HT:=aA ht;have HMS:=aA hm;have hNd:=hn.blk.lt;have c0:=hn.blk.cell 0;have c1:=hn.blk.cell 1;simp at c0 c1;clear hb0 ht hm hn;go_enter Tryz.func140,Tryz.ntmps140
 go_upto_region 4 with fail
 generalize (w.alloc (G #[I T k,I T id,I T e,I T b,I T wa,I T p,I T s,I T q,I T bl,I T v,J Z 0 0] 136))=W1 at*;have hs1:=HB.out.size
 go_loopw [7,20] (fun s7 s20 wr=>∃t:Nat,(t:Int)<=nodes/\s20=I T (t:Int)/\((t<=1/\s7=J Z 0 0)∨(1<t/\∃x,wr.ownsRow w.heap.size 172 2 s7 1 [I T 1,x]/\bJ wr w.heap.size x (aT k id e b wa p s q bl v [])))/\aB wr w.heap.size #[I T k,I T id,I T e,I T b,I T wa,I T p,I T s,I T q,I T bl,I T v,J Z 0 0] 136/\Below w.heap.size w wr) (fun s7 s20 wr=>nodes.toNat - (intOf s20).toNat)
 case atStart=>exact⟨0,by omega,rfl,.inl ⟨Nat.zero_le _,rfl⟩,HM.out,HB.out⟩
 case round=>
  obtain⟨t,htn,rfl,hst,hmb,hbr⟩:=hrel;have HBR:=aA hbr;have HMB:=aA hmb;have hz:=hbr.size;clear hmb hbr
  by_cases htl:(t:Int)<nodes
  ·have ht5:t=0∨t=1∨t=2∨t=3∨t=4:=by omega
   rcases ht5 with rfl|rfl|rfl|rfl|rfl
   ·rcases hst with⟨_,rfl⟩|⟨h9,_⟩
    ·go_wp2_with fail
     go_roundw
     case rel=>exact⟨1,by omega,rfl,.inl ⟨by omega,rfl⟩,HMB.out,HBR.out⟩
     case measure=>simp[intOf];omega
    ·omega
   ·rcases hst with⟨_,rfl⟩|⟨h9,_⟩
    ·have m0:=HMB.out.cell 0;have m1:=HMB.out.cell 1;have m2:=HMB.out.cell 2;have m3:=HMB.out.cell 3;have m4:=HMB.out.cell 4;have m5:=HMB.out.cell 5;have m6:=HMB.out.cell 6;have m7:=HMB.out.cell 7;have m8:=HMB.out.cell 8;have m9:=HMB.out.cell 9;have m10:=HMB.out.cell 10;simp at m0 m1 m2 m3 m4 m5 m6 m7 m8 m9 m10
     go_wp2_with fail
     refine(jW k id e b wa p s q bl v none [] 0 wr (HT.out.below HBR.out hw2) (.inl rfl) HMS.out).mono ?_;rintro r w3 ⟨x,rfl,hx0,hb3⟩;have hx:bJ w3 wr.heap.size x (aT k id e b wa p s q bl v []):=hx0;clear hx0;generalize hBS:(aT k id e b wa p s q bl v [])=BSS at hx;have HBS:=aA hBS;clear hBS;obtain⟨xa,xc,rfl⟩:=aO hx;have HX:=aA (cM hx hz);have HB3:=aA (HBR.out.trans (hb3.mono hz));have HM3:=aA (HMB.out.later hb3);have hz3:=HB3.out.size;clear hx hb3 m0 m1 m2 m3 m4 m5 m6 m7 m8 m9 m10
     go_wp2_with(at_builtin;go_loud (refine wpList_append_own _ rfl _ _ 118 rfl w.heap.size 172 i0 (.agg #[I T 0,J Z 0 0]) 2 32 Tryz.underlying118 hi0 hz0 hz1 hz2 rfl (by decide) _ 0 [] rfl (World.ownsRow_nil _ _ _ _) ⟨w3.heap.size,0,Z⟩ 1 1 [I T 1,J xa BSS.length xc] rfl rfl ?c1 ?c2 ?c3 ?c4 ?c5 ?_))
     case c1=>first|exact fun j u hu=>hu|exact jG w3 w3.heap.size rfl _ 172
     case c2=>intro u hu;simp at hu;rcases hu with rfl|rfl<;>rfl
     case c3=>unfold maxLen;omega
     case c4=>omega
     case c5=>first|omega|(simp;omega)
     intro v' w4 ho4 hg4 hnil;have HB4:=aA ((HB3.out.alloc hz3 _).grown hg4 (by simp;omega) (fun g hg=>by simp[Value.ownBlock]at hg));have HM4:=aA ((HM3.out.old _).grown hg4 (by simp[Value.ownBlock]));have HX4:Hid (bJ w4 w.heap.size (J xa BSS.length xc) BSS):=aH HX.out (fun g hg=>(hg4.block g (by have:=(HX.out.lt g hg).2;simp;omega) (by simp[Value.ownBlock])).trans (heap_alloc_old _ _ (HX.out.lt g hg).2))
     go_wp2_with fail
     go_roundw
     case rel=>exact⟨2,by omega,rfl,.inr ⟨by omega,_,ho4,by rw[HBS.out];exact HX4.out⟩,HM4.out,HB4.out⟩
     case measure=>simp[intOf];omega
    ·omega
   ·rcases hst with⟨h9,_⟩|⟨_,x,hr,ho⟩
    ·omega
    ·obtain⟨la,lc,rfl⟩:=aO hr;have HR:Hid _:=hr;have HO:Hid _:=ho;clear hr ho
     go_wp2_with fail
     go_roundw
     case rel=>exact⟨3,by omega,rfl,.inr ⟨by omega,x,HR.out,HO.out⟩,HMB.out,HBR.out⟩
     case measure=>simp[intOf];omega
   ·rcases hst with⟨h9,_⟩|⟨_,x,hr,ho⟩
    ·omega
    ·obtain⟨la,lc,rfl⟩:=aO hr;have HR:Hid _:=hr;have HO:Hid _:=ho;clear hr ho
     go_wp2_with fail
     go_roundw
     case rel=>exact⟨4,by omega,rfl,.inr ⟨by omega,x,HR.out,HO.out⟩,HMB.out,HBR.out⟩
     case measure=>simp[intOf];omega
   ·rcases hst with⟨h9,_⟩|⟨_,x,hr,ho⟩
    ·omega
    ·obtain⟨la,lc,rfl⟩:=aO hr;have HR:Hid _:=hr;have HO:Hid _:=ho;clear hr ho
     go_wp2_with fail
     go_roundw
     case rel=>exact⟨5,by omega,rfl,.inr ⟨by omega,x,HR.out,HO.out⟩,HMB.out,HBR.out⟩
     case measure=>simp[intOf];omega
  ·have hFt:1<t:=by omega
   rcases hst with⟨h9,_⟩|⟨_,x,hr,ho⟩
   ·omega
   ·obtain⟨la,lc,rfl⟩:=aO hr;go_wp2;go_ret
    first|exact⟨_,x,rfl,hr,ho,HBR.out⟩|exact⟨_,rfl,x,hr,ho,HBR.out⟩
theorem IR(Nd St:Nat)(id nodes nb:Int)(act:Bool)(k f e b wa p s q bl v:Int)(w:World)(hn:aI w Nd id nodes nb St act)(ht:aJ w)(hw2:2<=w.heap.size)(hn5:nodes<=5)(hF:2<nodes)(hm:aN k id [0,e,b,wa,p,s,q,bl,v,0]=true):
  Calls pG 140 #[P0 (Y ⟨Nd,0,Z⟩),I T 4,.agg #[I T k,I T f,I T e,I T b,I T wa,I T p,I T s,I T q,I T bl,I T v,J Z 0 0]] w fun r w'=>∃l x,r=.returned l/\w'.ownsRow w.heap.size 172 2 l 1 [I T 2,x]/\bJ w' w.heap.size x (aT k id e b wa p s q bl v [])/\Below w.heap.size w w':=by
 obtain⟨i0,hi0,hz0,hz1,hz2⟩:=info_parts l4;have hb0:=(Below.refl w.heap.size w).alloc (Nat.le_refl _) (G #[I T k,I T id,I T e,I T b,I T wa,I T p,I T s,I T q,I T bl,I T v,J Z 0 0] 136);have HM:=aA (aB.new w #[I T k,I T id,I T e,I T b,I T wa,I T p,I T s,I T q,I T bl,I T v,J Z 0 0] 136);have HB:=aA hb0;have HN:=aA (hn.later hb0);have HT:=aA ht;have HMS:=aA hm;have hNd:=hn.blk.lt;have c0:=hn.blk.cell 0;have c1:=hn.blk.cell 1;simp at c0 c1;clear hb0 ht hm hn;go_enter Tryz.func140,Tryz.ntmps140
 go_upto_region 4 with fail
 generalize (w.alloc (G #[I T k,I T id,I T e,I T b,I T wa,I T p,I T s,I T q,I T bl,I T v,J Z 0 0] 136))=W1 at*;have hs1:=HB.out.size
 go_loopw [7,20] (fun s7 s20 wr=>∃t:Nat,(t:Int)<=nodes/\s20=I T (t:Int)/\((t<=2/\s7=J Z 0 0)∨(2<t/\∃x,wr.ownsRow w.heap.size 172 2 s7 1 [I T 2,x]/\bJ wr w.heap.size x (aT k id e b wa p s q bl v [])))/\aB wr w.heap.size #[I T k,I T id,I T e,I T b,I T wa,I T p,I T s,I T q,I T bl,I T v,J Z 0 0] 136/\Below w.heap.size w wr) (fun s7 s20 wr=>nodes.toNat - (intOf s20).toNat)
 case atStart=>exact⟨0,by omega,rfl,.inl ⟨Nat.zero_le _,rfl⟩,HM.out,HB.out⟩
 case round=>
  obtain⟨t,htn,rfl,hst,hmb,hbr⟩:=hrel;have HBR:=aA hbr;have HMB:=aA hmb;have hz:=hbr.size;clear hmb hbr
  by_cases htl:(t:Int)<nodes
  ·have ht5:t=0∨t=1∨t=2∨t=3∨t=4:=by omega
   rcases ht5 with rfl|rfl|rfl|rfl|rfl
   ·rcases hst with⟨_,rfl⟩|⟨h9,_⟩
    ·go_wp2_with fail
     go_roundw
     case rel=>exact⟨1,by omega,rfl,.inl ⟨by omega,rfl⟩,HMB.out,HBR.out⟩
     case measure=>simp[intOf];omega
    ·omega
   ·rcases hst with⟨_,rfl⟩|⟨h9,_⟩
    ·go_wp2_with fail
     go_roundw
     case rel=>exact⟨2,by omega,rfl,.inl ⟨by omega,rfl⟩,HMB.out,HBR.out⟩
     case measure=>simp[intOf];omega
    ·omega
   ·rcases hst with⟨_,rfl⟩|⟨h9,_⟩
    ·have m0:=HMB.out.cell 0;have m1:=HMB.out.cell 1;have m2:=HMB.out.cell 2;have m3:=HMB.out.cell 3;have m4:=HMB.out.cell 4;have m5:=HMB.out.cell 5;have m6:=HMB.out.cell 6;have m7:=HMB.out.cell 7;have m8:=HMB.out.cell 8;have m9:=HMB.out.cell 9;have m10:=HMB.out.cell 10;simp at m0 m1 m2 m3 m4 m5 m6 m7 m8 m9 m10
     go_wp2_with fail
     refine(jW k id e b wa p s q bl v none [] 0 wr (HT.out.below HBR.out hw2) (.inl rfl) HMS.out).mono ?_;rintro r w3 ⟨x,rfl,hx0,hb3⟩;have hx:bJ w3 wr.heap.size x (aT k id e b wa p s q bl v []):=hx0;clear hx0;generalize hBS:(aT k id e b wa p s q bl v [])=BSS at hx;have HBS:=aA hBS;clear hBS;obtain⟨xa,xc,rfl⟩:=aO hx;have HX:=aA (cM hx hz);have HB3:=aA (HBR.out.trans (hb3.mono hz));have HM3:=aA (HMB.out.later hb3);have hz3:=HB3.out.size;clear hx hb3 m0 m1 m2 m3 m4 m5 m6 m7 m8 m9 m10
     go_wp2_with(at_builtin;go_loud (refine wpList_append_own _ rfl _ _ 118 rfl w.heap.size 172 i0 (.agg #[I T 0,J Z 0 0]) 2 32 Tryz.underlying118 hi0 hz0 hz1 hz2 rfl (by decide) _ 0 [] rfl (World.ownsRow_nil _ _ _ _) ⟨w3.heap.size,0,Z⟩ 1 1 [I T 2,J xa BSS.length xc] rfl rfl ?c1 ?c2 ?c3 ?c4 ?c5 ?_))
     case c1=>first|exact fun j u hu=>hu|exact jG w3 w3.heap.size rfl _ 172
     case c2=>intro u hu;simp at hu;rcases hu with rfl|rfl<;>rfl
     case c3=>unfold maxLen;omega
     case c4=>omega
     case c5=>first|omega|(simp;omega)
     intro v' w4 ho4 hg4 hnil;have HB4:=aA ((HB3.out.alloc hz3 _).grown hg4 (by simp;omega) (fun g hg=>by simp[Value.ownBlock]at hg));have HM4:=aA ((HM3.out.old _).grown hg4 (by simp[Value.ownBlock]));have HX4:Hid (bJ w4 w.heap.size (J xa BSS.length xc) BSS):=aH HX.out (fun g hg=>(hg4.block g (by have:=(HX.out.lt g hg).2;simp;omega) (by simp[Value.ownBlock])).trans (heap_alloc_old _ _ (HX.out.lt g hg).2))
     go_wp2_with fail
     go_roundw
     case rel=>exact⟨3,by omega,rfl,.inr ⟨by omega,_,ho4,by rw[HBS.out];exact HX4.out⟩,HM4.out,HB4.out⟩
     case measure=>simp[intOf];omega
    ·omega
   ·rcases hst with⟨h9,_⟩|⟨_,x,hr,ho⟩
    ·omega
    ·obtain⟨la,lc,rfl⟩:=aO hr;have HR:Hid _:=hr;have HO:Hid _:=ho;clear hr ho
     go_wp2_with fail
     go_roundw
     case rel=>exact⟨4,by omega,rfl,.inr ⟨by omega,x,HR.out,HO.out⟩,HMB.out,HBR.out⟩
     case measure=>simp[intOf];omega
   ·rcases hst with⟨h9,_⟩|⟨_,x,hr,ho⟩
    ·omega
    ·obtain⟨la,lc,rfl⟩:=aO hr;have HR:Hid _:=hr;have HO:Hid _:=ho;clear hr ho
     go_wp2_with fail
     go_roundw
     case rel=>exact⟨5,by omega,rfl,.inr ⟨by omega,x,HR.out,HO.out⟩,HMB.out,HBR.out⟩
     case measure=>simp[intOf];omega
  ·have hFt:2<t:=by omega
   rcases hst with⟨h9,_⟩|⟨_,x,hr,ho⟩
   ·omega
   ·obtain⟨la,lc,rfl⟩:=aO hr;go_wp2;go_ret
    first|exact⟨_,x,rfl,hr,ho,HBR.out⟩|exact⟨_,rfl,x,hr,ho,HBR.out⟩
theorem IS(Nd St:Nat)(id nodes nb:Int)(act:Bool)(k f e b wa p s q bl v:Int)(w:World)(hn:aI w Nd id nodes nb St act)(ht:aJ w)(hw2:2<=w.heap.size)(hn5:nodes<=5)(hF:3<nodes)(hm:aN k id [0,e,b,wa,p,s,q,bl,v,0]=true):
  Calls pG 140 #[P0 (Y ⟨Nd,0,Z⟩),I T 8,.agg #[I T k,I T f,I T e,I T b,I T wa,I T p,I T s,I T q,I T bl,I T v,J Z 0 0]] w fun r w'=>∃l x,r=.returned l/\w'.ownsRow w.heap.size 172 2 l 1 [I T 3,x]/\bJ w' w.heap.size x (aT k id e b wa p s q bl v [])/\Below w.heap.size w w':=by
 obtain⟨i0,hi0,hz0,hz1,hz2⟩:=info_parts l4;have hb0:=(Below.refl w.heap.size w).alloc (Nat.le_refl _) (G #[I T k,I T id,I T e,I T b,I T wa,I T p,I T s,I T q,I T bl,I T v,J Z 0 0] 136);have HM:=aA (aB.new w #[I T k,I T id,I T e,I T b,I T wa,I T p,I T s,I T q,I T bl,I T v,J Z 0 0] 136);have HB:=aA hb0;have HN:=aA (hn.later hb0);have HT:=aA ht;have HMS:=aA hm;have hNd:=hn.blk.lt;have c0:=hn.blk.cell 0;have c1:=hn.blk.cell 1;simp at c0 c1;clear hb0 ht hm hn;go_enter Tryz.func140,Tryz.ntmps140
 go_upto_region 4 with fail
 generalize (w.alloc (G #[I T k,I T id,I T e,I T b,I T wa,I T p,I T s,I T q,I T bl,I T v,J Z 0 0] 136))=W1 at*;have hs1:=HB.out.size
 go_loopw [7,20] (fun s7 s20 wr=>∃t:Nat,(t:Int)<=nodes/\s20=I T (t:Int)/\((t<=3/\s7=J Z 0 0)∨(3<t/\∃x,wr.ownsRow w.heap.size 172 2 s7 1 [I T 3,x]/\bJ wr w.heap.size x (aT k id e b wa p s q bl v [])))/\aB wr w.heap.size #[I T k,I T id,I T e,I T b,I T wa,I T p,I T s,I T q,I T bl,I T v,J Z 0 0] 136/\Below w.heap.size w wr) (fun s7 s20 wr=>nodes.toNat - (intOf s20).toNat)
 case atStart=>exact⟨0,by omega,rfl,.inl ⟨Nat.zero_le _,rfl⟩,HM.out,HB.out⟩
 case round=>
  obtain⟨t,htn,rfl,hst,hmb,hbr⟩:=hrel;have HBR:=aA hbr;have HMB:=aA hmb;have hz:=hbr.size;clear hmb hbr
  by_cases htl:(t:Int)<nodes
  ·have ht5:t=0∨t=1∨t=2∨t=3∨t=4:=by omega
   rcases ht5 with rfl|rfl|rfl|rfl|rfl
   ·rcases hst with⟨_,rfl⟩|⟨h9,_⟩
    ·go_wp2_with fail
     go_roundw
     case rel=>exact⟨1,by omega,rfl,.inl ⟨by omega,rfl⟩,HMB.out,HBR.out⟩
     case measure=>simp[intOf];omega
    ·omega
   ·rcases hst with⟨_,rfl⟩|⟨h9,_⟩
    ·go_wp2_with fail
     go_roundw
     case rel=>exact⟨2,by omega,rfl,.inl ⟨by omega,rfl⟩,HMB.out,HBR.out⟩
     case measure=>simp[intOf];omega
    ·omega
   ·rcases hst with⟨_,rfl⟩|⟨h9,_⟩
    ·go_wp2_with fail
     go_roundw
     case rel=>exact⟨3,by omega,rfl,.inl ⟨by omega,rfl⟩,HMB.out,HBR.out⟩
     case measure=>simp[intOf];omega
    ·omega
   ·rcases hst with⟨_,rfl⟩|⟨h9,_⟩
    ·have m0:=HMB.out.cell 0;have m1:=HMB.out.cell 1;have m2:=HMB.out.cell 2;have m3:=HMB.out.cell 3;have m4:=HMB.out.cell 4;have m5:=HMB.out.cell 5;have m6:=HMB.out.cell 6;have m7:=HMB.out.cell 7;have m8:=HMB.out.cell 8;have m9:=HMB.out.cell 9;have m10:=HMB.out.cell 10;simp at m0 m1 m2 m3 m4 m5 m6 m7 m8 m9 m10
     go_wp2_with fail
     refine(jW k id e b wa p s q bl v none [] 0 wr (HT.out.below HBR.out hw2) (.inl rfl) HMS.out).mono ?_;rintro r w3 ⟨x,rfl,hx0,hb3⟩;have hx:bJ w3 wr.heap.size x (aT k id e b wa p s q bl v []):=hx0;clear hx0;generalize hBS:(aT k id e b wa p s q bl v [])=BSS at hx;have HBS:=aA hBS;clear hBS;obtain⟨xa,xc,rfl⟩:=aO hx;have HX:=aA (cM hx hz);have HB3:=aA (HBR.out.trans (hb3.mono hz));have HM3:=aA (HMB.out.later hb3);have hz3:=HB3.out.size;clear hx hb3 m0 m1 m2 m3 m4 m5 m6 m7 m8 m9 m10
     go_wp2_with(at_builtin;go_loud (refine wpList_append_own _ rfl _ _ 118 rfl w.heap.size 172 i0 (.agg #[I T 0,J Z 0 0]) 2 32 Tryz.underlying118 hi0 hz0 hz1 hz2 rfl (by decide) _ 0 [] rfl (World.ownsRow_nil _ _ _ _) ⟨w3.heap.size,0,Z⟩ 1 1 [I T 3,J xa BSS.length xc] rfl rfl ?c1 ?c2 ?c3 ?c4 ?c5 ?_))
     case c1=>first|exact fun j u hu=>hu|exact jG w3 w3.heap.size rfl _ 172
     case c2=>intro u hu;simp at hu;rcases hu with rfl|rfl<;>rfl
     case c3=>unfold maxLen;omega
     case c4=>omega
     case c5=>first|omega|(simp;omega)
     intro v' w4 ho4 hg4 hnil;have HB4:=aA ((HB3.out.alloc hz3 _).grown hg4 (by simp;omega) (fun g hg=>by simp[Value.ownBlock]at hg));have HM4:=aA ((HM3.out.old _).grown hg4 (by simp[Value.ownBlock]));have HX4:Hid (bJ w4 w.heap.size (J xa BSS.length xc) BSS):=aH HX.out (fun g hg=>(hg4.block g (by have:=(HX.out.lt g hg).2;simp;omega) (by simp[Value.ownBlock])).trans (heap_alloc_old _ _ (HX.out.lt g hg).2))
     go_wp2_with fail
     go_roundw
     case rel=>exact⟨4,by omega,rfl,.inr ⟨by omega,_,ho4,by rw[HBS.out];exact HX4.out⟩,HM4.out,HB4.out⟩
     case measure=>simp[intOf];omega
    ·omega
   ·rcases hst with⟨h9,_⟩|⟨_,x,hr,ho⟩
    ·omega
    ·obtain⟨la,lc,rfl⟩:=aO hr;have HR:Hid _:=hr;have HO:Hid _:=ho;clear hr ho
     go_wp2_with fail
     go_roundw
     case rel=>exact⟨5,by omega,rfl,.inr ⟨by omega,x,HR.out,HO.out⟩,HMB.out,HBR.out⟩
     case measure=>simp[intOf];omega
  ·have hFt:3<t:=by omega
   rcases hst with⟨h9,_⟩|⟨_,x,hr,ho⟩
   ·omega
   ·obtain⟨la,lc,rfl⟩:=aO hr;go_wp2;go_ret
    first|exact⟨_,x,rfl,hr,ho,HBR.out⟩|exact⟨_,rfl,x,hr,ho,HBR.out⟩
theorem IT(Nd St:Nat)(id nodes nb:Int)(act:Bool)(k f e b wa p s q bl v:Int)(w:World)(hn:aI w Nd id nodes nb St act)(ht:aJ w)(hw2:2<=w.heap.size)(hn5:nodes<=5)(hF:4<nodes)(hm:aN k id [0,e,b,wa,p,s,q,bl,v,0]=true):
  Calls pG 140 #[P0 (Y ⟨Nd,0,Z⟩),I T 16,.agg #[I T k,I T f,I T e,I T b,I T wa,I T p,I T s,I T q,I T bl,I T v,J Z 0 0]] w fun r w'=>∃l x,r=.returned l/\w'.ownsRow w.heap.size 172 2 l 1 [I T 4,x]/\bJ w' w.heap.size x (aT k id e b wa p s q bl v [])/\Below w.heap.size w w':=by
 obtain⟨i0,hi0,hz0,hz1,hz2⟩:=info_parts l4;have hb0:=(Below.refl w.heap.size w).alloc (Nat.le_refl _) (G #[I T k,I T id,I T e,I T b,I T wa,I T p,I T s,I T q,I T bl,I T v,J Z 0 0] 136);have HM:=aA (aB.new w #[I T k,I T id,I T e,I T b,I T wa,I T p,I T s,I T q,I T bl,I T v,J Z 0 0] 136);have HB:=aA hb0;have HN:=aA (hn.later hb0);have HT:=aA ht;have HMS:=aA hm;have hNd:=hn.blk.lt;have c0:=hn.blk.cell 0;have c1:=hn.blk.cell 1;simp at c0 c1;clear hb0 ht hm hn;go_enter Tryz.func140,Tryz.ntmps140
 go_upto_region 4 with fail
 generalize (w.alloc (G #[I T k,I T id,I T e,I T b,I T wa,I T p,I T s,I T q,I T bl,I T v,J Z 0 0] 136))=W1 at*;have hs1:=HB.out.size
 go_loopw [7,20] (fun s7 s20 wr=>∃t:Nat,(t:Int)<=nodes/\s20=I T (t:Int)/\((t<=4/\s7=J Z 0 0)∨(4<t/\∃x,wr.ownsRow w.heap.size 172 2 s7 1 [I T 4,x]/\bJ wr w.heap.size x (aT k id e b wa p s q bl v [])))/\aB wr w.heap.size #[I T k,I T id,I T e,I T b,I T wa,I T p,I T s,I T q,I T bl,I T v,J Z 0 0] 136/\Below w.heap.size w wr) (fun s7 s20 wr=>nodes.toNat - (intOf s20).toNat)
 case atStart=>exact⟨0,by omega,rfl,.inl ⟨Nat.zero_le _,rfl⟩,HM.out,HB.out⟩
 case round=>
  obtain⟨t,htn,rfl,hst,hmb,hbr⟩:=hrel;have HBR:=aA hbr;have HMB:=aA hmb;have hz:=hbr.size;clear hmb hbr
  by_cases htl:(t:Int)<nodes
  ·have ht5:t=0∨t=1∨t=2∨t=3∨t=4:=by omega
   rcases ht5 with rfl|rfl|rfl|rfl|rfl
   ·rcases hst with⟨_,rfl⟩|⟨h9,_⟩
    ·go_wp2_with fail
     go_roundw
     case rel=>exact⟨1,by omega,rfl,.inl ⟨by omega,rfl⟩,HMB.out,HBR.out⟩
     case measure=>simp[intOf];omega
    ·omega
   ·rcases hst with⟨_,rfl⟩|⟨h9,_⟩
    ·go_wp2_with fail
     go_roundw
     case rel=>exact⟨2,by omega,rfl,.inl ⟨by omega,rfl⟩,HMB.out,HBR.out⟩
     case measure=>simp[intOf];omega
    ·omega
   ·rcases hst with⟨_,rfl⟩|⟨h9,_⟩
    ·go_wp2_with fail
     go_roundw
     case rel=>exact⟨3,by omega,rfl,.inl ⟨by omega,rfl⟩,HMB.out,HBR.out⟩
     case measure=>simp[intOf];omega
    ·omega
   ·rcases hst with⟨_,rfl⟩|⟨h9,_⟩
    ·go_wp2_with fail
     go_roundw
     case rel=>exact⟨4,by omega,rfl,.inl ⟨by omega,rfl⟩,HMB.out,HBR.out⟩
     case measure=>simp[intOf];omega
    ·omega
   ·rcases hst with⟨_,rfl⟩|⟨h9,_⟩
    ·have m0:=HMB.out.cell 0;have m1:=HMB.out.cell 1;have m2:=HMB.out.cell 2;have m3:=HMB.out.cell 3;have m4:=HMB.out.cell 4;have m5:=HMB.out.cell 5;have m6:=HMB.out.cell 6;have m7:=HMB.out.cell 7;have m8:=HMB.out.cell 8;have m9:=HMB.out.cell 9;have m10:=HMB.out.cell 10;simp at m0 m1 m2 m3 m4 m5 m6 m7 m8 m9 m10
     go_wp2_with fail
     refine(jW k id e b wa p s q bl v none [] 0 wr (HT.out.below HBR.out hw2) (.inl rfl) HMS.out).mono ?_;rintro r w3 ⟨x,rfl,hx0,hb3⟩;have hx:bJ w3 wr.heap.size x (aT k id e b wa p s q bl v []):=hx0;clear hx0;generalize hBS:(aT k id e b wa p s q bl v [])=BSS at hx;have HBS:=aA hBS;clear hBS;obtain⟨xa,xc,rfl⟩:=aO hx;have HX:=aA (cM hx hz);have HB3:=aA (HBR.out.trans (hb3.mono hz));have HM3:=aA (HMB.out.later hb3);have hz3:=HB3.out.size;clear hx hb3 m0 m1 m2 m3 m4 m5 m6 m7 m8 m9 m10
     go_wp2_with(at_builtin;go_loud (refine wpList_append_own _ rfl _ _ 118 rfl w.heap.size 172 i0 (.agg #[I T 0,J Z 0 0]) 2 32 Tryz.underlying118 hi0 hz0 hz1 hz2 rfl (by decide) _ 0 [] rfl (World.ownsRow_nil _ _ _ _) ⟨w3.heap.size,0,Z⟩ 1 1 [I T 4,J xa BSS.length xc] rfl rfl ?c1 ?c2 ?c3 ?c4 ?c5 ?_))
     case c1=>first|exact fun j u hu=>hu|exact jG w3 w3.heap.size rfl _ 172
     case c2=>intro u hu;simp at hu;rcases hu with rfl|rfl<;>rfl
     case c3=>unfold maxLen;omega
     case c4=>omega
     case c5=>first|omega|(simp;omega)
     intro v' w4 ho4 hg4 hnil;have HB4:=aA ((HB3.out.alloc hz3 _).grown hg4 (by simp;omega) (fun g hg=>by simp[Value.ownBlock]at hg));have HM4:=aA ((HM3.out.old _).grown hg4 (by simp[Value.ownBlock]));have HX4:Hid (bJ w4 w.heap.size (J xa BSS.length xc) BSS):=aH HX.out (fun g hg=>(hg4.block g (by have:=(HX.out.lt g hg).2;simp;omega) (by simp[Value.ownBlock])).trans (heap_alloc_old _ _ (HX.out.lt g hg).2))
     go_wp2_with fail
     go_roundw
     case rel=>exact⟨5,by omega,rfl,.inr ⟨by omega,_,ho4,by rw[HBS.out];exact HX4.out⟩,HM4.out,HB4.out⟩
     case measure=>simp[intOf];omega
    ·omega
  ·have hFt:4<t:=by omega
   rcases hst with⟨h9,_⟩|⟨_,x,hr,ho⟩
   ·omega
   ·obtain⟨la,lc,rfl⟩:=aO hr;go_wp2;go_ret
    first|exact⟨_,x,rfl,hr,ho,HBR.out⟩|exact⟨_,rfl,x,hr,ho,HBR.out⟩
end Go.Proofs.YtdcainmlcpafbaaGreatDoor
