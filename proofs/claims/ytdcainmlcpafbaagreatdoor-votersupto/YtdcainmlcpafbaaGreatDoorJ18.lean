import Derived.Test.YtdcainmlcpafbaaGreatDoorJ17
set_option linter.all false
set_option maxHeartbeats 8000000
set_option maxRecDepth 20000
namespace Go.Proofs.YtdcainmlcpafbaaGreatDoor
open Go.RowKit
open Value renaming int->I,slice->J,pointer->P0
open Tryz renaming prog->pG
open IntKind renaming i64->T
open Option renaming none->Z,some->Y
open Obj renaming cells->G
open Value (bool)
theorem B7(Nd:Nat)(K F E B WA P SS Q BL V:Int)(ms:Value)(w:World):
  Calls pG 195 #[P0 (Y ⟨Nd,0,Z⟩),.agg #[I T K,I T F,I T E,I T B,I T WA,I T P,I T SS,I T Q,I T BL,I T V,ms],.agg #[I T 0,I T 0,I T 0,I T 0,I T 0,I T 0,I T 0,I T 0,I T 0,I T 0,J Z 0 0]] w fun r w'=>r=.returned (J Z 0 0)/\Below w.heap.size w w':=by
 have hb0:=((Below.refl w.heap.size w).alloc (Nat.le_refl _) (G #[I T K,I T F,I T E,I T B,I T WA,I T P,I T SS,I T Q,I T BL,I T V,ms] 136)).alloc (by simp) (G #[I T 0,I T 0,I T 0,I T 0,I T 0,I T 0,I T 0,I T 0,I T 0,I T 0,J Z 0 0] 136);go_enter Tryz.func195,Tryz.ntmps195;go_wp2;go_ret;exact⟨rfl,hb0⟩
theorem F1(Nd St:Nat)(id nodes nb:Int)(act:Bool)(K E B WA P SS Q BL V:Int)(ms:Value)(k f e b wa p s q bl v:Int)(w:World)(hn:aI w Nd id nodes nb St act)(ht:aJ w)(hw2:2<=w.heap.size)(hn5:nodes<=5)(hF:0<nodes)(hk0:¬k=0)(hm:aN k id [0,e,b,wa,p,s,q,bl,v,0]=true):
  Calls pG 195 #[P0 (Y ⟨Nd,0,Z⟩),.agg #[I T K,I T 0,I T E,I T B,I T WA,I T P,I T SS,I T Q,I T BL,I T V,ms],.agg #[I T k,I T f,I T e,I T b,I T wa,I T p,I T s,I T q,I T bl,I T v,J Z 0 0]] w fun r w'=>∃l x,r=.returned l/\w'.ownsRow w.heap.size 172 2 l 1 [I T 0,x]/\bJ w' w.heap.size x (aT k id e b wa p s q bl v [])/\Below w.heap.size w w':=by
 have hb0:=((Below.refl w.heap.size w).alloc (Nat.le_refl _) (G #[I T K,I T 0,I T E,I T B,I T WA,I T P,I T SS,I T Q,I T BL,I T V,ms] 136)).alloc (by simp) (G #[I T k,I T f,I T e,I T b,I T wa,I T p,I T s,I T q,I T bl,I T v,J Z 0 0] 136);have HA:Hid (aB ((w.alloc (G #[I T K,I T 0,I T E,I T B,I T WA,I T P,I T SS,I T Q,I T BL,I T V,ms] 136)).alloc (G #[I T k,I T f,I T e,I T b,I T wa,I T p,I T s,I T q,I T bl,I T v,J Z 0 0] 136)) w.heap.size #[I T K,I T 0,I T E,I T B,I T WA,I T P,I T SS,I T Q,I T BL,I T V,ms] 136):=(aB.new _ _ _).old _;have HM:Hid (aB ((w.alloc (G #[I T K,I T 0,I T E,I T B,I T WA,I T P,I T SS,I T Q,I T BL,I T V,ms] 136)).alloc (G #[I T k,I T f,I T e,I T b,I T wa,I T p,I T s,I T q,I T bl,I T v,J Z 0 0] 136)) (w.heap.size+1) #[I T k,I T f,I T e,I T b,I T wa,I T p,I T s,I T q,I T bl,I T v,J Z 0 0] 136):=by have h9:=aB.new (w.alloc (G #[I T K,I T 0,I T E,I T B,I T WA,I T P,I T SS,I T Q,I T BL,I T V,ms] 136)) #[I T k,I T f,I T e,I T b,I T wa,I T p,I T s,I T q,I T bl,I T v,J Z 0 0] 136;unfold Hid;simpa using h9
 have HB:=aA hb0;have HN:=aA (hn.later hb0);have HT:=aA (ht.below hb0 hw2);have HMS:=aA hm;clear hb0 ht hm hn;go_enter Tryz.func195,Tryz.ntmps195
 go_upto_region 1 with fail
 generalize ((w.alloc (G #[I T K,I T 0,I T E,I T B,I T WA,I T P,I T SS,I T Q,I T BL,I T V,ms] 136)).alloc (G #[I T k,I T f,I T e,I T b,I T wa,I T p,I T s,I T q,I T bl,I T v,J Z 0 0] 136))=W0 at*;have hs0:=HB.out.size;have hw20:2<=W0.heap.size:=by omega
 obtain⟨m0,m1,m2,m3,m4,m5,m6,m7,m8,m9,m10⟩:=HM.out.c11;have a1:=HA.out.cell 1;simp at a1
 go_upto_region 3 with fail
 refine eN (S:=(fun w'=>w'.cell? ⟨w.heap.size,1,Z⟩=Y (I T 0)/\w'.cell? ⟨w.heap.size+1,0,Z⟩=Y (I T k)/\w'.cell? ⟨w.heap.size+1,1,Z⟩=Y (I T f)/\w'.cell? ⟨w.heap.size+1,2,Z⟩=Y (I T e)/\w'.cell? ⟨w.heap.size+1,3,Z⟩=Y (I T b)/\w'.cell? ⟨w.heap.size+1,4,Z⟩=Y (I T wa)/\w'.cell? ⟨w.heap.size+1,5,Z⟩=Y (I T p)/\w'.cell? ⟨w.heap.size+1,6,Z⟩=Y (I T s)/\w'.cell? ⟨w.heap.size+1,7,Z⟩=Y (I T q)/\w'.cell? ⟨w.heap.size+1,8,Z⟩=Y (I T bl)/\w'.cell? ⟨w.heap.size+1,9,Z⟩=Y (I T v)/\w'.cell? ⟨w.heap.size+1,10,Z⟩=Y (J Z 0 0))) fun _=>?_;refine tk 0 ?_;refine tk 1 ?_;refine tk 2 ?_;refine tk 3 ?_;refine tk 4 ?_;refine aG 5 fun K hK=>?_
 (try go_simp)
 go_at_call 140
 refine(IP Nd St id nodes nb act k f e b wa p s q bl v W0.drew HN.out.drew (HT.out.drewT) (by exact hw20) hn5 hF HMS.out).mono ?_;rintro r w3 ⟨l,x,rfl,hl,hx,hb3⟩;obtain⟨la,lc,rfl⟩:=aO hl;have HL:=aA (cM hl (by exact hs0));have HX:=aA (cM hx (by exact hs0));have HB3:=aA (HB.out.drew.trans (hb3.mono hs0));have HA3:=aA (HA.out.drew.later hb3);have HM3:=aA (HM.out.drew.later hb3);clear hl hx hb3;obtain⟨y0,y1,y2,y3,y4,y5,y6,y7,y8,y9,y10⟩:=HM3.out.c11;have a1:=HA3.out.cell 1;simp at a1;refine k1 hK fun _=>?_;clear hK K;refine aG 6 fun K hK=>?_
 (try go_simp)
 refine k1 hK fun _=>?_;clear hK K;refine dn ?_;go_wp2;go_ret
 first|exact⟨_,x,rfl,HL.out,HX.out,HB3.out⟩|exact⟨_,rfl,x,HL.out,HX.out,HB3.out⟩
theorem F2(Nd St:Nat)(id nodes nb:Int)(act:Bool)(K E B WA P SS Q BL V:Int)(ms:Value)(k f e b wa p s q bl v:Int)(w:World)(hn:aI w Nd id nodes nb St act)(ht:aJ w)(hw2:2<=w.heap.size)(hn5:nodes<=5)(hF:1<nodes)(hk0:¬k=0)(hm:aN k id [0,e,b,wa,p,s,q,bl,v,0]=true):
  Calls pG 195 #[P0 (Y ⟨Nd,0,Z⟩),.agg #[I T K,I T 1,I T E,I T B,I T WA,I T P,I T SS,I T Q,I T BL,I T V,ms],.agg #[I T k,I T f,I T e,I T b,I T wa,I T p,I T s,I T q,I T bl,I T v,J Z 0 0]] w fun r w'=>∃l x,r=.returned l/\w'.ownsRow w.heap.size 172 2 l 1 [I T 1,x]/\bJ w' w.heap.size x (aT k id e b wa p s q bl v [])/\Below w.heap.size w w':=by
 have hb0:=((Below.refl w.heap.size w).alloc (Nat.le_refl _) (G #[I T K,I T 1,I T E,I T B,I T WA,I T P,I T SS,I T Q,I T BL,I T V,ms] 136)).alloc (by simp) (G #[I T k,I T f,I T e,I T b,I T wa,I T p,I T s,I T q,I T bl,I T v,J Z 0 0] 136);have HA:Hid (aB ((w.alloc (G #[I T K,I T 1,I T E,I T B,I T WA,I T P,I T SS,I T Q,I T BL,I T V,ms] 136)).alloc (G #[I T k,I T f,I T e,I T b,I T wa,I T p,I T s,I T q,I T bl,I T v,J Z 0 0] 136)) w.heap.size #[I T K,I T 1,I T E,I T B,I T WA,I T P,I T SS,I T Q,I T BL,I T V,ms] 136):=(aB.new _ _ _).old _;have HM:Hid (aB ((w.alloc (G #[I T K,I T 1,I T E,I T B,I T WA,I T P,I T SS,I T Q,I T BL,I T V,ms] 136)).alloc (G #[I T k,I T f,I T e,I T b,I T wa,I T p,I T s,I T q,I T bl,I T v,J Z 0 0] 136)) (w.heap.size+1) #[I T k,I T f,I T e,I T b,I T wa,I T p,I T s,I T q,I T bl,I T v,J Z 0 0] 136):=by have h9:=aB.new (w.alloc (G #[I T K,I T 1,I T E,I T B,I T WA,I T P,I T SS,I T Q,I T BL,I T V,ms] 136)) #[I T k,I T f,I T e,I T b,I T wa,I T p,I T s,I T q,I T bl,I T v,J Z 0 0] 136;unfold Hid;simpa using h9
 have HB:=aA hb0;have HN:=aA (hn.later hb0);have HT:=aA (ht.below hb0 hw2);have HMS:=aA hm;clear hb0 ht hm hn;go_enter Tryz.func195,Tryz.ntmps195
 go_upto_region 1 with fail
 generalize ((w.alloc (G #[I T K,I T 1,I T E,I T B,I T WA,I T P,I T SS,I T Q,I T BL,I T V,ms] 136)).alloc (G #[I T k,I T f,I T e,I T b,I T wa,I T p,I T s,I T q,I T bl,I T v,J Z 0 0] 136))=W0 at*;have hs0:=HB.out.size;have hw20:2<=W0.heap.size:=by omega
 obtain⟨m0,m1,m2,m3,m4,m5,m6,m7,m8,m9,m10⟩:=HM.out.c11;have a1:=HA.out.cell 1;simp at a1
 go_upto_region 3 with fail
 refine eN (S:=(fun w'=>w'.cell? ⟨w.heap.size,1,Z⟩=Y (I T 1)/\w'.cell? ⟨w.heap.size+1,0,Z⟩=Y (I T k)/\w'.cell? ⟨w.heap.size+1,1,Z⟩=Y (I T f)/\w'.cell? ⟨w.heap.size+1,2,Z⟩=Y (I T e)/\w'.cell? ⟨w.heap.size+1,3,Z⟩=Y (I T b)/\w'.cell? ⟨w.heap.size+1,4,Z⟩=Y (I T wa)/\w'.cell? ⟨w.heap.size+1,5,Z⟩=Y (I T p)/\w'.cell? ⟨w.heap.size+1,6,Z⟩=Y (I T s)/\w'.cell? ⟨w.heap.size+1,7,Z⟩=Y (I T q)/\w'.cell? ⟨w.heap.size+1,8,Z⟩=Y (I T bl)/\w'.cell? ⟨w.heap.size+1,9,Z⟩=Y (I T v)/\w'.cell? ⟨w.heap.size+1,10,Z⟩=Y (J Z 0 0))) fun _=>?_;refine tk 0 ?_;refine tk 1 ?_;refine tk 2 ?_;refine tk 3 ?_;refine tk 4 ?_;refine aG 5 fun K hK=>?_
 (try go_simp)
 go_at_call 140
 refine(IQ Nd St id nodes nb act k f e b wa p s q bl v W0.drew HN.out.drew (HT.out.drewT) (by exact hw20) hn5 hF HMS.out).mono ?_;rintro r w3 ⟨l,x,rfl,hl,hx,hb3⟩;obtain⟨la,lc,rfl⟩:=aO hl;have HL:=aA (cM hl (by exact hs0));have HX:=aA (cM hx (by exact hs0));have HB3:=aA (HB.out.drew.trans (hb3.mono hs0));have HA3:=aA (HA.out.drew.later hb3);have HM3:=aA (HM.out.drew.later hb3);clear hl hx hb3;obtain⟨y0,y1,y2,y3,y4,y5,y6,y7,y8,y9,y10⟩:=HM3.out.c11;have a1:=HA3.out.cell 1;simp at a1;refine k1 hK fun _=>?_;clear hK K;refine aG 6 fun K hK=>?_
 (try go_simp)
 refine k1 hK fun _=>?_;clear hK K;refine dn ?_;go_wp2;go_ret
 first|exact⟨_,x,rfl,HL.out,HX.out,HB3.out⟩|exact⟨_,rfl,x,HL.out,HX.out,HB3.out⟩
theorem F3(Nd St:Nat)(id nodes nb:Int)(act:Bool)(K E B WA P SS Q BL V:Int)(ms:Value)(k f e b wa p s q bl v:Int)(w:World)(hn:aI w Nd id nodes nb St act)(ht:aJ w)(hw2:2<=w.heap.size)(hn5:nodes<=5)(hF:2<nodes)(hk0:¬k=0)(hm:aN k id [0,e,b,wa,p,s,q,bl,v,0]=true):
  Calls pG 195 #[P0 (Y ⟨Nd,0,Z⟩),.agg #[I T K,I T 2,I T E,I T B,I T WA,I T P,I T SS,I T Q,I T BL,I T V,ms],.agg #[I T k,I T f,I T e,I T b,I T wa,I T p,I T s,I T q,I T bl,I T v,J Z 0 0]] w fun r w'=>∃l x,r=.returned l/\w'.ownsRow w.heap.size 172 2 l 1 [I T 2,x]/\bJ w' w.heap.size x (aT k id e b wa p s q bl v [])/\Below w.heap.size w w':=by
 have hb0:=((Below.refl w.heap.size w).alloc (Nat.le_refl _) (G #[I T K,I T 2,I T E,I T B,I T WA,I T P,I T SS,I T Q,I T BL,I T V,ms] 136)).alloc (by simp) (G #[I T k,I T f,I T e,I T b,I T wa,I T p,I T s,I T q,I T bl,I T v,J Z 0 0] 136);have HA:Hid (aB ((w.alloc (G #[I T K,I T 2,I T E,I T B,I T WA,I T P,I T SS,I T Q,I T BL,I T V,ms] 136)).alloc (G #[I T k,I T f,I T e,I T b,I T wa,I T p,I T s,I T q,I T bl,I T v,J Z 0 0] 136)) w.heap.size #[I T K,I T 2,I T E,I T B,I T WA,I T P,I T SS,I T Q,I T BL,I T V,ms] 136):=(aB.new _ _ _).old _;have HM:Hid (aB ((w.alloc (G #[I T K,I T 2,I T E,I T B,I T WA,I T P,I T SS,I T Q,I T BL,I T V,ms] 136)).alloc (G #[I T k,I T f,I T e,I T b,I T wa,I T p,I T s,I T q,I T bl,I T v,J Z 0 0] 136)) (w.heap.size+1) #[I T k,I T f,I T e,I T b,I T wa,I T p,I T s,I T q,I T bl,I T v,J Z 0 0] 136):=by have h9:=aB.new (w.alloc (G #[I T K,I T 2,I T E,I T B,I T WA,I T P,I T SS,I T Q,I T BL,I T V,ms] 136)) #[I T k,I T f,I T e,I T b,I T wa,I T p,I T s,I T q,I T bl,I T v,J Z 0 0] 136;unfold Hid;simpa using h9
 have HB:=aA hb0;have HN:=aA (hn.later hb0);have HT:=aA (ht.below hb0 hw2);have HMS:=aA hm;clear hb0 ht hm hn;go_enter Tryz.func195,Tryz.ntmps195
 go_upto_region 1 with fail
 generalize ((w.alloc (G #[I T K,I T 2,I T E,I T B,I T WA,I T P,I T SS,I T Q,I T BL,I T V,ms] 136)).alloc (G #[I T k,I T f,I T e,I T b,I T wa,I T p,I T s,I T q,I T bl,I T v,J Z 0 0] 136))=W0 at*;have hs0:=HB.out.size;have hw20:2<=W0.heap.size:=by omega
 obtain⟨m0,m1,m2,m3,m4,m5,m6,m7,m8,m9,m10⟩:=HM.out.c11;have a1:=HA.out.cell 1;simp at a1
 go_upto_region 3 with fail
 refine eN (S:=(fun w'=>w'.cell? ⟨w.heap.size,1,Z⟩=Y (I T 2)/\w'.cell? ⟨w.heap.size+1,0,Z⟩=Y (I T k)/\w'.cell? ⟨w.heap.size+1,1,Z⟩=Y (I T f)/\w'.cell? ⟨w.heap.size+1,2,Z⟩=Y (I T e)/\w'.cell? ⟨w.heap.size+1,3,Z⟩=Y (I T b)/\w'.cell? ⟨w.heap.size+1,4,Z⟩=Y (I T wa)/\w'.cell? ⟨w.heap.size+1,5,Z⟩=Y (I T p)/\w'.cell? ⟨w.heap.size+1,6,Z⟩=Y (I T s)/\w'.cell? ⟨w.heap.size+1,7,Z⟩=Y (I T q)/\w'.cell? ⟨w.heap.size+1,8,Z⟩=Y (I T bl)/\w'.cell? ⟨w.heap.size+1,9,Z⟩=Y (I T v)/\w'.cell? ⟨w.heap.size+1,10,Z⟩=Y (J Z 0 0))) fun _=>?_;refine tk 0 ?_;refine tk 1 ?_;refine tk 2 ?_;refine tk 3 ?_;refine tk 4 ?_;refine aG 5 fun K hK=>?_
 (try go_simp)
 go_at_call 140
 refine(IR Nd St id nodes nb act k f e b wa p s q bl v W0.drew HN.out.drew (HT.out.drewT) (by exact hw20) hn5 hF HMS.out).mono ?_;rintro r w3 ⟨l,x,rfl,hl,hx,hb3⟩;obtain⟨la,lc,rfl⟩:=aO hl;have HL:=aA (cM hl (by exact hs0));have HX:=aA (cM hx (by exact hs0));have HB3:=aA (HB.out.drew.trans (hb3.mono hs0));have HA3:=aA (HA.out.drew.later hb3);have HM3:=aA (HM.out.drew.later hb3);clear hl hx hb3;obtain⟨y0,y1,y2,y3,y4,y5,y6,y7,y8,y9,y10⟩:=HM3.out.c11;have a1:=HA3.out.cell 1;simp at a1;refine k1 hK fun _=>?_;clear hK K;refine aG 6 fun K hK=>?_
 (try go_simp)
 refine k1 hK fun _=>?_;clear hK K;refine dn ?_;go_wp2;go_ret
 first|exact⟨_,x,rfl,HL.out,HX.out,HB3.out⟩|exact⟨_,rfl,x,HL.out,HX.out,HB3.out⟩
theorem F4(Nd St:Nat)(id nodes nb:Int)(act:Bool)(K E B WA P SS Q BL V:Int)(ms:Value)(k f e b wa p s q bl v:Int)(w:World)(hn:aI w Nd id nodes nb St act)(ht:aJ w)(hw2:2<=w.heap.size)(hn5:nodes<=5)(hF:3<nodes)(hk0:¬k=0)(hm:aN k id [0,e,b,wa,p,s,q,bl,v,0]=true):
  Calls pG 195 #[P0 (Y ⟨Nd,0,Z⟩),.agg #[I T K,I T 3,I T E,I T B,I T WA,I T P,I T SS,I T Q,I T BL,I T V,ms],.agg #[I T k,I T f,I T e,I T b,I T wa,I T p,I T s,I T q,I T bl,I T v,J Z 0 0]] w fun r w'=>∃l x,r=.returned l/\w'.ownsRow w.heap.size 172 2 l 1 [I T 3,x]/\bJ w' w.heap.size x (aT k id e b wa p s q bl v [])/\Below w.heap.size w w':=by
 have hb0:=((Below.refl w.heap.size w).alloc (Nat.le_refl _) (G #[I T K,I T 3,I T E,I T B,I T WA,I T P,I T SS,I T Q,I T BL,I T V,ms] 136)).alloc (by simp) (G #[I T k,I T f,I T e,I T b,I T wa,I T p,I T s,I T q,I T bl,I T v,J Z 0 0] 136);have HA:Hid (aB ((w.alloc (G #[I T K,I T 3,I T E,I T B,I T WA,I T P,I T SS,I T Q,I T BL,I T V,ms] 136)).alloc (G #[I T k,I T f,I T e,I T b,I T wa,I T p,I T s,I T q,I T bl,I T v,J Z 0 0] 136)) w.heap.size #[I T K,I T 3,I T E,I T B,I T WA,I T P,I T SS,I T Q,I T BL,I T V,ms] 136):=(aB.new _ _ _).old _;have HM:Hid (aB ((w.alloc (G #[I T K,I T 3,I T E,I T B,I T WA,I T P,I T SS,I T Q,I T BL,I T V,ms] 136)).alloc (G #[I T k,I T f,I T e,I T b,I T wa,I T p,I T s,I T q,I T bl,I T v,J Z 0 0] 136)) (w.heap.size+1) #[I T k,I T f,I T e,I T b,I T wa,I T p,I T s,I T q,I T bl,I T v,J Z 0 0] 136):=by have h9:=aB.new (w.alloc (G #[I T K,I T 3,I T E,I T B,I T WA,I T P,I T SS,I T Q,I T BL,I T V,ms] 136)) #[I T k,I T f,I T e,I T b,I T wa,I T p,I T s,I T q,I T bl,I T v,J Z 0 0] 136;unfold Hid;simpa using h9
 have HB:=aA hb0;have HN:=aA (hn.later hb0);have HT:=aA (ht.below hb0 hw2);have HMS:=aA hm;clear hb0 ht hm hn;go_enter Tryz.func195,Tryz.ntmps195
 go_upto_region 1 with fail
 generalize ((w.alloc (G #[I T K,I T 3,I T E,I T B,I T WA,I T P,I T SS,I T Q,I T BL,I T V,ms] 136)).alloc (G #[I T k,I T f,I T e,I T b,I T wa,I T p,I T s,I T q,I T bl,I T v,J Z 0 0] 136))=W0 at*;have hs0:=HB.out.size;have hw20:2<=W0.heap.size:=by omega
 obtain⟨m0,m1,m2,m3,m4,m5,m6,m7,m8,m9,m10⟩:=HM.out.c11;have a1:=HA.out.cell 1;simp at a1
 go_upto_region 3 with fail
 refine eN (S:=(fun w'=>w'.cell? ⟨w.heap.size,1,Z⟩=Y (I T 3)/\w'.cell? ⟨w.heap.size+1,0,Z⟩=Y (I T k)/\w'.cell? ⟨w.heap.size+1,1,Z⟩=Y (I T f)/\w'.cell? ⟨w.heap.size+1,2,Z⟩=Y (I T e)/\w'.cell? ⟨w.heap.size+1,3,Z⟩=Y (I T b)/\w'.cell? ⟨w.heap.size+1,4,Z⟩=Y (I T wa)/\w'.cell? ⟨w.heap.size+1,5,Z⟩=Y (I T p)/\w'.cell? ⟨w.heap.size+1,6,Z⟩=Y (I T s)/\w'.cell? ⟨w.heap.size+1,7,Z⟩=Y (I T q)/\w'.cell? ⟨w.heap.size+1,8,Z⟩=Y (I T bl)/\w'.cell? ⟨w.heap.size+1,9,Z⟩=Y (I T v)/\w'.cell? ⟨w.heap.size+1,10,Z⟩=Y (J Z 0 0))) fun _=>?_;refine tk 0 ?_;refine tk 1 ?_;refine tk 2 ?_;refine tk 3 ?_;refine tk 4 ?_;refine aG 5 fun K hK=>?_
 (try go_simp)
 go_at_call 140
 refine(IS Nd St id nodes nb act k f e b wa p s q bl v W0.drew HN.out.drew (HT.out.drewT) (by exact hw20) hn5 hF HMS.out).mono ?_;rintro r w3 ⟨l,x,rfl,hl,hx,hb3⟩;obtain⟨la,lc,rfl⟩:=aO hl;have HL:=aA (cM hl (by exact hs0));have HX:=aA (cM hx (by exact hs0));have HB3:=aA (HB.out.drew.trans (hb3.mono hs0));have HA3:=aA (HA.out.drew.later hb3);have HM3:=aA (HM.out.drew.later hb3);clear hl hx hb3;obtain⟨y0,y1,y2,y3,y4,y5,y6,y7,y8,y9,y10⟩:=HM3.out.c11;have a1:=HA3.out.cell 1;simp at a1;refine k1 hK fun _=>?_;clear hK K;refine aG 6 fun K hK=>?_
 (try go_simp)
 refine k1 hK fun _=>?_;clear hK K;refine dn ?_;go_wp2;go_ret
 first|exact⟨_,x,rfl,HL.out,HX.out,HB3.out⟩|exact⟨_,rfl,x,HL.out,HX.out,HB3.out⟩
theorem F5(Nd St:Nat)(id nodes nb:Int)(act:Bool)(K E B WA P SS Q BL V:Int)(ms:Value)(k f e b wa p s q bl v:Int)(w:World)(hn:aI w Nd id nodes nb St act)(ht:aJ w)(hw2:2<=w.heap.size)(hn5:nodes<=5)(hF:4<nodes)(hk0:¬k=0)(hm:aN k id [0,e,b,wa,p,s,q,bl,v,0]=true):
  Calls pG 195 #[P0 (Y ⟨Nd,0,Z⟩),.agg #[I T K,I T 4,I T E,I T B,I T WA,I T P,I T SS,I T Q,I T BL,I T V,ms],.agg #[I T k,I T f,I T e,I T b,I T wa,I T p,I T s,I T q,I T bl,I T v,J Z 0 0]] w fun r w'=>∃l x,r=.returned l/\w'.ownsRow w.heap.size 172 2 l 1 [I T 4,x]/\bJ w' w.heap.size x (aT k id e b wa p s q bl v [])/\Below w.heap.size w w':=by
 have hb0:=((Below.refl w.heap.size w).alloc (Nat.le_refl _) (G #[I T K,I T 4,I T E,I T B,I T WA,I T P,I T SS,I T Q,I T BL,I T V,ms] 136)).alloc (by simp) (G #[I T k,I T f,I T e,I T b,I T wa,I T p,I T s,I T q,I T bl,I T v,J Z 0 0] 136);have HA:Hid (aB ((w.alloc (G #[I T K,I T 4,I T E,I T B,I T WA,I T P,I T SS,I T Q,I T BL,I T V,ms] 136)).alloc (G #[I T k,I T f,I T e,I T b,I T wa,I T p,I T s,I T q,I T bl,I T v,J Z 0 0] 136)) w.heap.size #[I T K,I T 4,I T E,I T B,I T WA,I T P,I T SS,I T Q,I T BL,I T V,ms] 136):=(aB.new _ _ _).old _;have HM:Hid (aB ((w.alloc (G #[I T K,I T 4,I T E,I T B,I T WA,I T P,I T SS,I T Q,I T BL,I T V,ms] 136)).alloc (G #[I T k,I T f,I T e,I T b,I T wa,I T p,I T s,I T q,I T bl,I T v,J Z 0 0] 136)) (w.heap.size+1) #[I T k,I T f,I T e,I T b,I T wa,I T p,I T s,I T q,I T bl,I T v,J Z 0 0] 136):=by have h9:=aB.new (w.alloc (G #[I T K,I T 4,I T E,I T B,I T WA,I T P,I T SS,I T Q,I T BL,I T V,ms] 136)) #[I T k,I T f,I T e,I T b,I T wa,I T p,I T s,I T q,I T bl,I T v,J Z 0 0] 136;unfold Hid;simpa using h9
 have HB:=aA hb0;have HN:=aA (hn.later hb0);have HT:=aA (ht.below hb0 hw2);have HMS:=aA hm;clear hb0 ht hm hn;go_enter Tryz.func195,Tryz.ntmps195
 go_upto_region 1 with fail
 generalize ((w.alloc (G #[I T K,I T 4,I T E,I T B,I T WA,I T P,I T SS,I T Q,I T BL,I T V,ms] 136)).alloc (G #[I T k,I T f,I T e,I T b,I T wa,I T p,I T s,I T q,I T bl,I T v,J Z 0 0] 136))=W0 at*;have hs0:=HB.out.size;have hw20:2<=W0.heap.size:=by omega
 obtain⟨m0,m1,m2,m3,m4,m5,m6,m7,m8,m9,m10⟩:=HM.out.c11;have a1:=HA.out.cell 1;simp at a1
 go_upto_region 3 with fail
 refine eN (S:=(fun w'=>w'.cell? ⟨w.heap.size,1,Z⟩=Y (I T 4)/\w'.cell? ⟨w.heap.size+1,0,Z⟩=Y (I T k)/\w'.cell? ⟨w.heap.size+1,1,Z⟩=Y (I T f)/\w'.cell? ⟨w.heap.size+1,2,Z⟩=Y (I T e)/\w'.cell? ⟨w.heap.size+1,3,Z⟩=Y (I T b)/\w'.cell? ⟨w.heap.size+1,4,Z⟩=Y (I T wa)/\w'.cell? ⟨w.heap.size+1,5,Z⟩=Y (I T p)/\w'.cell? ⟨w.heap.size+1,6,Z⟩=Y (I T s)/\w'.cell? ⟨w.heap.size+1,7,Z⟩=Y (I T q)/\w'.cell? ⟨w.heap.size+1,8,Z⟩=Y (I T bl)/\w'.cell? ⟨w.heap.size+1,9,Z⟩=Y (I T v)/\w'.cell? ⟨w.heap.size+1,10,Z⟩=Y (J Z 0 0))) fun _=>?_;refine tk 0 ?_;refine tk 1 ?_;refine tk 2 ?_;refine tk 3 ?_;refine tk 4 ?_;refine aG 5 fun K hK=>?_
 (try go_simp)
 go_at_call 140
 refine(IT Nd St id nodes nb act k f e b wa p s q bl v W0.drew HN.out.drew (HT.out.drewT) (by exact hw20) hn5 hF HMS.out).mono ?_;rintro r w3 ⟨l,x,rfl,hl,hx,hb3⟩;obtain⟨la,lc,rfl⟩:=aO hl;have HL:=aA (cM hl (by exact hs0));have HX:=aA (cM hx (by exact hs0));have HB3:=aA (HB.out.drew.trans (hb3.mono hs0));have HA3:=aA (HA.out.drew.later hb3);have HM3:=aA (HM.out.drew.later hb3);clear hl hx hb3;obtain⟨y0,y1,y2,y3,y4,y5,y6,y7,y8,y9,y10⟩:=HM3.out.c11;have a1:=HA3.out.cell 1;simp at a1;refine k1 hK fun _=>?_;clear hK K;refine aG 6 fun K hK=>?_
 (try go_simp)
 refine k1 hK fun _=>?_;clear hK K;refine dn ?_;go_wp2;go_ret
 first|exact⟨_,x,rfl,HL.out,HX.out,HB3.out⟩|exact⟨_,rfl,x,HL.out,HX.out,HB3.out⟩
theorem B8(Nd St:Nat)(id nodes nb:Int)(act:Bool)(K F E B WA P SS Q BL V:Int)(ms:Value)(k f e b wa p s q bl v:Int)(w:World)(hn:aI w Nd id nodes nb St act)(ht:aJ w)(hw2:2<=w.heap.size)(hn5:nodes<=5)(hF0:0<=F)(hF:F<nodes)(hk0:¬k=0)(hm:aN k id [0,e,b,wa,p,s,q,bl,v,0]=true):
  Calls pG 195 #[P0 (Y ⟨Nd,0,Z⟩),.agg #[I T K,I T F,I T E,I T B,I T WA,I T P,I T SS,I T Q,I T BL,I T V,ms],.agg #[I T k,I T f,I T e,I T b,I T wa,I T p,I T s,I T q,I T bl,I T v,J Z 0 0]] w fun r w'=>∃l x,r=.returned l/\w'.ownsRow w.heap.size 172 2 l 1 [I T F,x]/\bJ w' w.heap.size x (aT k id e b wa p s q bl v [])/\Below w.heap.size w w':=by
 have h5:F=0∨F=1∨F=2∨F=3∨F=4:=by omega
 rcases h5 with rfl|rfl|rfl|rfl|rfl
 ·exact F1 Nd St id nodes nb act K E B WA P SS Q BL V ms k f e b wa p s q bl v w hn ht hw2 hn5 hF hk0 hm
 ·exact F2 Nd St id nodes nb act K E B WA P SS Q BL V ms k f e b wa p s q bl v w hn ht hw2 hn5 hF hk0 hm
 ·exact F3 Nd St id nodes nb act K E B WA P SS Q BL V ms k f e b wa p s q bl v w hn ht hw2 hn5 hF hk0 hm
 ·exact F4 Nd St id nodes nb act K E B WA P SS Q BL V ms k f e b wa p s q bl v w hn ht hw2 hn5 hF hk0 hm
 ·exact F5 Nd St id nodes nb act K E B WA P SS Q BL V ms k f e b wa p s q bl v w hn ht hw2 hn5 hF hk0 hm
theorem rD(Nd St:Nat)(id nodes nb:Int)(act:Bool)(k f e b wa p s q bl v:Int)(ms:Value)(w:World)(hn:aI w Nd id nodes nb St act)(ph:Int)(hph:(0==ph)=false):
  Calls pG 240 #[P0 (Y ⟨Nd,0,Z⟩),.agg #[I T k,I T f,I T e,I T b,I T wa,I T p,I T s,I T q,I T bl,I T v,ms],I T ph] w fun r w'=>r=.returned (.bool false)/\Below w.heap.size w w':=by
 have hb0:=(Below.refl w.heap.size w).alloc (Nat.le_refl _) (G #[I T k,I T f,I T e,I T b,I T wa,I T p,I T s,I T q,I T bl,I T v,ms] 136);have HM:=aA (aB.new w #[I T k,I T f,I T e,I T b,I T wa,I T p,I T s,I T q,I T bl,I T v,ms] 136);have HB:=aA hb0;have HN:=aA (hn.later hb0);clear hb0 hn;go_enter Tryz.func240,Tryz.ntmps240
 go_upto_region 1 with fail
 generalize (w.alloc (G #[I T k,I T f,I T e,I T b,I T wa,I T p,I T s,I T q,I T bl,I T v,ms] 136))=W0 at*;have hs0:=HB.out.size;obtain⟨m0,m1,m2,m3,m4,m5,m6,m7,m8,m9,m10⟩:=HM.out.c11;have c3:=HN.out.blk.cell 3;have c6:=HN.out.blk.cell 6;simp at c3 c6
 go_quiet (fail)
 go_wp2;go_ret
 exact⟨rfl,below_drewN HB.out _⟩
theorem wF(Nd St:Nat)(id nodes nb:Int)(act:Bool)(k f e b wa p s q bl v:Int)(ms:Value)(w:World)(hn:aI w Nd id nodes nb St act):
  Calls pG 197 #[P0 (Y ⟨Nd,0,Z⟩),.agg #[I T k,I T f,I T e,I T b,I T wa,I T p,I T s,I T q,I T bl,I T v,ms]] w fun r w'=>r=.returned (J Z 0 0)/\Below w.heap.size w w':=by
 have hb0:=(Below.refl w.heap.size w).alloc (Nat.le_refl _) (G #[I T k,I T f,I T e,I T b,I T wa,I T p,I T s,I T q,I T bl,I T v,ms] 136);have HM:=aA (aB.new w #[I T k,I T f,I T e,I T b,I T wa,I T p,I T s,I T q,I T bl,I T v,ms] 136);have HB:=aA hb0;have HN:=aA (hn.later hb0);clear hb0 hn;go_enter Tryz.func197,Tryz.ntmps197
 go_upto_region 1 with fail
 generalize (w.alloc (G #[I T k,I T f,I T e,I T b,I T wa,I T p,I T s,I T q,I T bl,I T v,ms] 136))=W0 at*;have hs0:=HB.out.size;obtain⟨m0,m1,m2,m3,m4,m5,m6,m7,m8,m9,m10⟩:=HM.out.c11
 go_wp2_with(go_at_call 240;refine(rD Nd St id nodes nb act k f e b wa p s q bl v ms W0 HN.out 2 (by decide)).mono ?_;rintro r w1 ⟨rfl,hb1⟩)
 go_ret;exact⟨rfl,HB.out.trans (hb1.mono hs0)⟩
theorem wG(Nd St:Nat)(id nodes nb:Int)(act:Bool)(k f e b wa p s q bl v:Int)(ms:Value)(w:World)(hn:aI w Nd id nodes nb St act):
  Calls pG 198 #[P0 (Y ⟨Nd,0,Z⟩),.agg #[I T k,I T f,I T e,I T b,I T wa,I T p,I T s,I T q,I T bl,I T v,ms]] w fun r w'=>r=.returned (J Z 0 0)/\Below w.heap.size w w':=by
 have hb0:=(Below.refl w.heap.size w).alloc (Nat.le_refl _) (G #[I T k,I T f,I T e,I T b,I T wa,I T p,I T s,I T q,I T bl,I T v,ms] 136);have HM:=aA (aB.new w #[I T k,I T f,I T e,I T b,I T wa,I T p,I T s,I T q,I T bl,I T v,ms] 136);have HB:=aA hb0;have HN:=aA (hn.later hb0);clear hb0 hn;go_enter Tryz.func198,Tryz.ntmps198
 go_upto_region 1 with fail
 generalize (w.alloc (G #[I T k,I T f,I T e,I T b,I T wa,I T p,I T s,I T q,I T bl,I T v,ms] 136))=W0 at*;have hs0:=HB.out.size;obtain⟨m0,m1,m2,m3,m4,m5,m6,m7,m8,m9,m10⟩:=HM.out.c11
 go_wp2_with(go_at_call 240;refine(rD Nd St id nodes nb act k f e b wa p s q bl v ms W0 HN.out 3 (by decide)).mono ?_;rintro r w1 ⟨rfl,hb1⟩)
 go_ret;exact⟨rfl,HB.out.trans (hb1.mono hs0)⟩
theorem AD(Nd St:Nat)(id nodes nb:Int)(act:Bool)(k f e b wa p s q bl v:Int)(ms:Value)(w:World)(hn:aI w Nd id nodes nb St act):
  Calls pG 203 #[P0 (Y ⟨Nd,0,Z⟩),.agg #[I T k,I T f,I T e,I T b,I T wa,I T p,I T s,I T q,I T bl,I T v,ms]] w fun r w'=>r=.returned (J Z 0 0)/\Below w.heap.size w w':=by
 have hb0:=(Below.refl w.heap.size w).alloc (Nat.le_refl _) (G #[I T k,I T f,I T e,I T b,I T wa,I T p,I T s,I T q,I T bl,I T v,ms] 136);have HM:=aA (aB.new w #[I T k,I T f,I T e,I T b,I T wa,I T p,I T s,I T q,I T bl,I T v,ms] 136);have HB:=aA hb0;have HN:=aA (hn.later hb0);clear hb0 hn;go_enter Tryz.func203,Tryz.ntmps203
 go_upto_region 1 with fail
 generalize (w.alloc (G #[I T k,I T f,I T e,I T b,I T wa,I T p,I T s,I T q,I T bl,I T v,ms] 136))=W0 at*;have hs0:=HB.out.size;obtain⟨m0,m1,m2,m3,m4,m5,m6,m7,m8,m9,m10⟩:=HM.out.c11;have c3:=HN.out.blk.cell 3;have c6:=HN.out.blk.cell 6;simp at c3 c6
 go_upto_region 2 with fail
 go_quiet (fail)
 go_wp2;go_ret
 exact⟨rfl,below_drewN HB.out _⟩
theorem B9(Nd St:Nat)(id nodes nb:Int)(act:Bool)(k f e b wa p s q bl v:Int)(ms:Value)(w:World)(hn:aI w Nd id nodes nb St act)(low:Nat)(d:SD)(vr:Value)(Mp D:Nat)(h:aF w low St d vr Mp D)(hne:0<d.recs.length)(hlt:d.recs.length<=1300000):
  Calls pG 244 #[P0 (Y ⟨Nd,0,Z⟩),.agg #[I T k,I T f,I T e,I T b,I T wa,I T p,I T s,I T q,I T bl,I T v,ms]] w fun r w'=>r=.returned (.bool false)/\Below w.heap.size w w':=by
 have HS:Hid (aF (w.alloc (G #[I T k,I T f,I T e,I T b,I T wa,I T p,I T s,I T q,I T bl,I T v,ms] 136)) low St d vr Mp D):=h.later ((Below.refl w.heap.size w).alloc (Nat.le_refl _) _);clear h;have hb0:=(Below.refl w.heap.size w).alloc (Nat.le_refl _) (G #[I T k,I T f,I T e,I T b,I T wa,I T p,I T s,I T q,I T bl,I T v,ms] 136);have HM:=aA (aB.new w #[I T k,I T f,I T e,I T b,I T wa,I T p,I T s,I T q,I T bl,I T v,ms] 136);have HB:=aA hb0;have HN:=aA (hn.later hb0);clear hb0 hn;go_enter Tryz.func244,Tryz.ntmps244
 go_upto_region 1 with fail
 generalize (w.alloc (G #[I T k,I T f,I T e,I T b,I T wa,I T p,I T s,I T q,I T bl,I T v,ms] 136))=W0 at*;have hs0:=HB.out.size;obtain⟨m0,m1,m2,m3,m4,m5,m6,m7,m8,m9,m10⟩:=HM.out.c11;have c3:=HN.out.blk.cell 3;have c11:=HN.out.blk.cell 11;simp at c3 c11
 by_cases h1:e=(d.recs.length:Int) - 1
 ·have h1b:(e==(d.recs.length:Int) - 1)=true:=by simp[h1]
  have H1:=aA h1;clear h1
  by_cases h2:b=0
  ·subst h2
   go_quiet ((go_at_call 179;exact Calls.quiet_of_same (iJ low St d vr Mp D _ (HS.out.later (below_drewN (Below.refl _ _) _)) hne (by omega))))
   go_wp2;go_ret
   exact⟨rfl,below_drewN HB.out _⟩
  ·have h2b:(b==0)=false:=by simp[h2]
   go_quiet ((go_at_call 179;exact Calls.quiet_of_same (iJ low St d vr Mp D _ (HS.out.later (below_drewN (Below.refl _ _) _)) hne (by omega))))
   go_wp2;go_ret
   exact⟨rfl,below_drewN HB.out _⟩
 ·have h1b:(e==(d.recs.length:Int) - 1)=false:=by simp[h1]
  have H1:=aA h1;clear h1
  go_quiet ((go_at_call 179;exact Calls.quiet_of_same (iJ low St d vr Mp D _ (HS.out.later (below_drewN (Below.refl _ _) _)) hne (by omega))))
  go_wp2;go_ret
  exact⟨rfl,below_drewN HB.out _⟩
theorem xW(Nd St:Nat)(id nodes nb:Int)(act:Bool)(k f e b wa p s q bl v:Int)(ms:Value)(w:World)(hn:aI w Nd id nodes nb St act)(low:Nat)(d:SD)(vr:Value)(Mp D:Nat)(h:aF w low St d vr Mp D)(hne:0<d.recs.length)(hlt:d.recs.length<=1300000):
  Calls pG 199 #[P0 (Y ⟨Nd,0,Z⟩),.agg #[I T k,I T f,I T e,I T b,I T wa,I T p,I T s,I T q,I T bl,I T v,ms]] w fun r w'=>r=.returned (.tuple #[])/\Below w.heap.size w w':=by
 have HS:Hid (aF (w.alloc (G #[I T k,I T f,I T e,I T b,I T wa,I T p,I T s,I T q,I T bl,I T v,ms] 136)) low St d vr Mp D):=h.later ((Below.refl w.heap.size w).alloc (Nat.le_refl _) _);clear h;have hb0:=(Below.refl w.heap.size w).alloc (Nat.le_refl _) (G #[I T k,I T f,I T e,I T b,I T wa,I T p,I T s,I T q,I T bl,I T v,ms] 136);have HM:=aA (aB.new w #[I T k,I T f,I T e,I T b,I T wa,I T p,I T s,I T q,I T bl,I T v,ms] 136);have HB:=aA hb0;have HN:=aA (hn.later hb0);clear hb0 hn;go_enter Tryz.func199,Tryz.ntmps199
 go_upto_region 1 with fail
 generalize (w.alloc (G #[I T k,I T f,I T e,I T b,I T wa,I T p,I T s,I T q,I T bl,I T v,ms] 136))=W0 at*;have hs0:=HB.out.size;obtain⟨m0,m1,m2,m3,m4,m5,m6,m7,m8,m9,m10⟩:=HM.out.c11
 go_wp2_with(go_at_call 244;refine(B9 Nd St id nodes nb act k f e b wa p s q bl v ms W0 HN.out low d vr Mp D HS.out hne hlt).mono ?_;rintro r w1 ⟨rfl,hb1⟩)
 go_end0
 exact⟨rfl,HB.out.trans (hb1.mono hs0)⟩
theorem CA(Nd St:Nat)(id nodes nb:Int)(act:Bool)(k f e b wa p s q bl v:Int)(ms:Value)(w:World)(hn:aI w Nd id nodes nb St act):
  Calls pG 202 #[P0 (Y ⟨Nd,0,Z⟩),.agg #[I T k,I T f,I T e,I T b,I T wa,I T p,I T s,I T q,I T bl,I T v,ms]] w fun r w'=>r=.returned (.tuple #[])/\Below w.heap.size w w':=by
 have hb0:=(Below.refl w.heap.size w).alloc (Nat.le_refl _) (G #[I T k,I T f,I T e,I T b,I T wa,I T p,I T s,I T q,I T bl,I T v,ms] 136);have HM:=aA (aB.new w #[I T k,I T f,I T e,I T b,I T wa,I T p,I T s,I T q,I T bl,I T v,ms] 136);have HB:=aA hb0;have HN:=aA (hn.later hb0);clear hb0 hn;go_enter Tryz.func202,Tryz.ntmps202
 go_upto_region 1 with fail
 generalize (w.alloc (G #[I T k,I T f,I T e,I T b,I T wa,I T p,I T s,I T q,I T bl,I T v,ms] 136))=W0 at*;have hs0:=HB.out.size;obtain⟨m0,m1,m2,m3,m4,m5,m6,m7,m8,m9,m10⟩:=HM.out.c11;have pR:=HN.out.blk.cell 25;have c26:=HN.out.blk.cell 26;have c27:=HN.out.blk.cell 27;have c28:=HN.out.blk.cell 28;have c29:=HN.out.blk.cell 29;have c30:=HN.out.blk.cell 30;have c31:=HN.out.blk.cell 31;have c32:=HN.out.blk.cell 32;have c33:=HN.out.blk.cell 33;have c34:=HN.out.blk.cell 34;have c35:=HN.out.blk.cell 35;have c36:=HN.out.blk.cell 36;have c37:=HN.out.blk.cell 37;simp at pR c26 c27 c28 c29 c30 c31 c32 c33 c34 c35 c36 c37;go_wp2
 go_end0
 exact⟨rfl,HB.out.alloc hs0 _⟩
end Go.Proofs.YtdcainmlcpafbaaGreatDoor
