import Derived.Test.YtdcainmlcpafbaaGreatDoorJ25
set_option linter.all false
set_option maxHeartbeats 8000000
set_option maxRecDepth 20000
namespace Go.Proofs.YtdcainmlcpafbaaGreatDoor
open Go.RowKit
open Value renaming int->I,slice->J,pointer->P0
open Tryz renaming prog->pG
open IntKind renaming i64->T
open Option renaming none->Z,some->Y
open Obj renaming cells->G
open Value (bool)
def uG(m:aU)(bx:List UInt8)(ec:Int):Prop:=(aN m.k m.f [0,m.e,m.b,m.wa,m.p,m.s,m.q,m.bl,m.v,(m.zs.length:Int)]=true/\bx=cH m.k.toNat m.f.toNat [0,m.e,m.b,m.wa,m.p,m.s,m.q,m.bl,m.v,(m.zs.length:Int)] m.zs/\ec=0)∨(aN m.k m.f [0,m.e,m.b,m.wa,m.p,m.s,m.q,m.bl,m.v,(m.zs.length:Int)]=false/\bx=[]/\ec=1)
theorem GH(m:aU):∃bx ec,uG m bx ec:=by
 cases h:aN m.k m.f [0,m.e,m.b,m.wa,m.p,m.s,m.q,m.bl,m.v,(m.zs.length:Int)]
 ·exact⟨[],1,.inr ⟨h,rfl,rfl⟩⟩
 ·exact⟨_,0,.inl ⟨h,rfl,rfl⟩⟩
theorem EW{m:aU}{bx:List UInt8}{ec:Int}(h:uG m bx ec):bx.length<=300:=by
 rcases h with⟨hm,rfl,_⟩|⟨_,rfl,_⟩
 ·have h':=lQ hm;exact oD _ _ _ _ (by omega) (by omega)
 ·simp
theorem GJ(hSO:cU)(hBW:cV)(hBS:cS)(hLO:fK)(hUO:fJ){base R t:Nat}{w:World}{ao:Option Addr}{c:Nat}{ms:List aU}{vh vs:Value}{hs:List HD}{ss:List (List UInt8)}{v:Nat->Value}{es:Nat->List bU}(hI:cX base R t w ao c ms vh vs hs ss v es)(A B C:Int)(S:ByteArray)(ht:t<=1100000)(hA:-9223372036854775808<=A/\A<=9223372036854775807)(hB:-9223372036854775808<=B/\B<=9223372036854775807)(hS:S.size<=2000000):
  Calls pG 30 #[P0 (Y ⟨R,0,Z⟩),.agg #[I T 7,I T A,I T B,I T C,Value.string S]] w fun r w'=>r=.returned (.bool true)/\dB base R (t+1) w'/\bM base R w w':=by
 have hb0:=(Below.refl w.heap.size w).alloc (Nat.le_refl _) (G #[I T 7,I T A,I T B,I T C,Value.string S] 93);have HM:=aA (aB.new w #[I T 7,I T A,I T B,I T C,Value.string S] 93);have HB0:=aA hb0;have HI:=aA hI;have HI0:=aA (hI.later hb0 (Nat.le_refl t));have hRlow:=hI.low;clear hI hb0
 by_cases hne:hs=[]
 ·subst hne;have c2:=HI0.out.c2;obtain⟨ah,ch,hvh,_⟩:=dN HI0.out.hrow;rw[hvh]at c2;have HQ:Hid (dB base R (t+1) (w.alloc (G #[I T 7,I T A,I T B,I T C,Value.string S] 93))/\bM base R w (w.alloc (G #[I T 7,I T A,I T B,I T C,Value.string S] 93))):=⟨⟨_,_,_,_,_,_,_,_,_,HI.out.later HB0.out (Nat.le_succ t)⟩,HI.out.save HB0.out⟩;clear hvh;simp only[List.length_nil]at c2;go_enter Tryz.func30,Tryz.ntmps30;go_wp2;go_ret;exact⟨rfl,HQ.out⟩
 have hpos:0<hs.length:=List.length_pos_iff.mpr hne;have hposI:(0:Int)<(hs.length:Int):=by omega
 obtain⟨J1,hJ⟩:=Int.eq_ofNat_of_zero_le (Int.emod_nonneg (fI A) (show(hs.length:Int)≠0 by omega));have hJl:J1<hs.length:=by have:=Int.emod_lt_of_pos (fI A) hposI;omega
 have hJi:(J1:Int)<(hs.length:Int):=by omega
 have HJ:=aA hJ;clear hne hJ;obtain⟨x,hx⟩:∃x,x=hs[J1]:=⟨_,rfl⟩;have HXE:=aA hx;clear hx;have q0:((hs.length:Int)==0)=false:=by rw[beq_eq_false_iff_ne];omega
 go_enter Tryz.func30,Tryz.ntmps30
 go_upto_region 10 with fail
 generalize (w.alloc (G #[I T 7,I T A,I T B,I T C,Value.string S] 93))=W0 at*;have hs0:=HB0.out.size;have hRW:R<W0.heap.size:=by omega
 have hlen:(hs.length:Int)<=9223372036854775807:=by have:=HI0.out.hlen;omega
 obtain⟨gh,ch,hvh,hghl,hgc⟩:=jA HI0.out.hrow hpos;have c2:=HI0.out.c2;rw[hvh]at c2;have m0:=HM.out.cell 0;have m1:=HM.out.cell 1;simp at m0 m1;have cJ:W0.cell? ⟨gh,J1,Z⟩=Y (P0 (Y ⟨x.hb,0,Z⟩)):=hgc J1 _ (by rw[List.getElem?_map,List.getElem?_eq_getElem hJl,HXE.out];rfl);clear hvh hgc
 go_upto_region 12 with fail
 go_cut [7] from 60 to 73 (fun s7 wy=>s7=P0 (Y ⟨x.hb,0,Z⟩)/\Below W0.heap.size W0 wy)
 case first=>
  refine eN (S:=(fun w'=>w'.cell? ⟨R,2,Z⟩=Y (J (Y ⟨gh,0,Z⟩) hs.length ch)/\w'.cell? ⟨w.heap.size,1,Z⟩=Y (I T A)/\w'.cell? ⟨gh,J1,Z⟩=Y (P0 (Y ⟨x.hb,0,Z⟩)))) fun _=>?_;refine tk 0 ?_;refine tk 1 ?_;refine tk 2 ?_;refine tk 3 ?_;refine tk 4 ?_;refine tk 5 ?_;refine tk 6 ?_;refine tk 7 ?_;refine tk 8 ?_;refine tk 9 ?_;refine tk 10 ?_;refine aG 11 fun K hK=>?_
  (try go_simp)
  go_at_call 14
  refine(kS A (hs.length:Int) _ hposI hA.1 hA.2).mono ?_;rintro r wk ⟨rfl,rfl⟩;rw[HJ.out];refine k1 hK fun _=>?_;clear hK K;refine aG 12 fun K hK=>?_
  (try go_simp)
  refine k1 hK fun _=>?_;clear hK K;refine aG 13 fun K hK=>?_
  (try go_simp)
  refine k1 hK fun _=>?_;clear hK K;refine aG 14 fun K hK=>?_
  (try go_simp)
  refine k1 hK fun _=>?_;clear hK K;refine dn ?_
  go_wp2_with fail
  go_meet
  exact⟨rfl,(Below.refl _ _).drew⟩
 case rest=>
 obtain⟨rfl,hby⟩:=hcut;obtain⟨wy,hwy⟩:∃y,y=wc:=⟨_,rfl⟩;subst hwy;have HBY:=aA (HB0.out.trans (hby.mono hs0));have HIY:=aA (HI0.out.later hby (Nat.le_refl t));have HMY:=aA (HM.out.later hby);have HXY:Hid (cG wy base t x):=by unfold Hid;rw[HXE.out];exact HIY.out.hosts _ (List.getElem_mem hJl)
 have hsy:=HBY.out.size;clear hby m0 m1 c2 cJ HI0 HM HB0 q0;have m0:=HMY.out.cell 0;have m1:=HMY.out.cell 1;have m2:=HMY.out.cell 2;have m3:=HMY.out.cell 3;have m4:=HMY.out.cell 4;simp at m0 m1 m2 m3 m4;have x0:=HXY.out.host.cell 0;simp at x0
 by_cases hme:ms=[]
 ·have c0:=HIY.out.c0;rw[hme]at c0;simp only[List.length_nil]at c0;have HQ:Hid (dB base R (t+1) wy/\bM base R w wy):=⟨⟨_,_,_,_,_,_,_,_,_,HI.out.later HBY.out (Nat.le_succ t)⟩,HI.out.save HBY.out⟩;go_wp2;go_ret;exact⟨rfl,HQ.out⟩
 have hpos:0<ms.length:=List.length_pos_iff.mpr hme;have hposM:(0:Int)<(ms.length:Int):=by omega
 obtain⟨Kx,hK⟩:=Int.eq_ofNat_of_zero_le (Int.emod_nonneg (fI B) (show(ms.length:Int)≠0 by omega));have hKl:Kx<ms.length:=by have:=Int.emod_lt_of_pos (fI B) hposM;omega
 have hKi:(Kx:Int)<(ms.length:Int):=by omega
 have HK:=aA hK;clear hK;have hlenM:=HIY.out.mlen;have hlowY:=HIY.out.low;obtain⟨g,o,hao,hgb,hgR,hcc⟩:=HIY.out.goods.arr.resolve_left hme;have hgW:g<wy.heap.size:=by omega
 have hRY:R<wy.heap.size:=by omega
 have hwY:=HMY.out.lt;have c0:=HIY.out.c0;rw[hao]at c0;obtain⟨m,hm⟩:∃m,m=ms[Kx]:=⟨_,rfl⟩;have hmem:m∈ms:=by rw[hm];exact List.getElem_mem hKl
 have okm:=HIY.out.mok m hmem;obtain⟨bx,ec,henc⟩:=GH m
 have HLN:Hid ((aC bx).size<=2000000):=by
  have h9:=EW henc;unfold Hid;show(aC bx).data.size<=_
  simp[aC];omega
 have ENC:Hid (∀W,Below wy.heap.size wy W->Calls pG 63 #[.agg #[I T m.k,I T m.f,I T m.e,I T m.b,I T m.wa,I T m.p,I T m.s,I T m.q,I T m.bl,I T m.v,J m.a m.zs.length m.c]] W fun r w'=>r=.returned (.tuple #[.string (aC bx),I T ec])/\Below W.heap.size W w'):=by
  intro W hW;have hin:=(HIY.out.later hW (Nat.le_refl t)).goods.ints (HIY.out.later hW (Nat.le_refl t)).low.2 hmem;exact vX m.k m.f m.e m.b m.wa m.p m.s m.q m.bl m.v m.a m.c m.zs W okm.2.2 okm.1 okm.2.1 hin bx ec henc
 have j0:=hcc Kx hKl 0 (by omega);have j1:=hcc Kx hKl 1 (by omega);have j2:=hcc Kx hKl 2 (by omega);have j3:=hcc Kx hKl 3 (by omega);have j4:=hcc Kx hKl 4 (by omega);have j5:=hcc Kx hKl 5 (by omega);have j6:=hcc Kx hKl 6 (by omega);have j7:=hcc Kx hKl 7 (by omega);have j8:=hcc Kx hKl 8 (by omega);have j9:=hcc Kx hKl 9 (by omega);have j10:=hcc Kx hKl 10 (by omega);rw[←hm]at j0 j1 j2 j3 j4 j5 j6 j7 j8 j9 j10;simp[aU.cells]at j0 j1 j2 j3 j4 j5 j6 j7 j8 j9 j10;clear hcc hao hm hmem okm henc hme
 go_wp2_with fail
 go_cut [8,9] from 139 to 157 (fun s8 _ wz=>s8=.string (aC bx)/\Below wy.heap.size wy wz)
 case first=>
  refine eN (S:=(fun w'=>w'.cell? ⟨R,0,Z⟩=Y (J (Y ⟨g,o,Z⟩) ms.length c)/\w'.cell? ⟨w.heap.size,2,Z⟩=Y (I T B)/\w'.cell? ⟨g,o+Kx*11,Z⟩=Y (I T m.k)/\w'.cell? ⟨g,o+Kx*11+1,Z⟩=Y (I T m.f)/\w'.cell? ⟨g,o+Kx*11+2,Z⟩=Y (I T m.e)/\w'.cell? ⟨g,o+Kx*11+3,Z⟩=Y (I T m.b)/\w'.cell? ⟨g,o+Kx*11+4,Z⟩=Y (I T m.wa)/\w'.cell? ⟨g,o+Kx*11+5,Z⟩=Y (I T m.p)/\w'.cell? ⟨g,o+Kx*11+6,Z⟩=Y (I T m.s)/\w'.cell? ⟨g,o+Kx*11+7,Z⟩=Y (I T m.q)/\w'.cell? ⟨g,o+Kx*11+8,Z⟩=Y (I T m.bl)/\w'.cell? ⟨g,o+Kx*11+9,Z⟩=Y (I T m.v)/\w'.cell? ⟨g,o+Kx*11+10,Z⟩=Y (J m.a m.zs.length m.c))) fun _=>?_;refine tk 0 ?_;refine tk 1 ?_;refine tk 2 ?_;refine tk 3 ?_;refine tk 4 ?_;refine tk 5 ?_;refine tk 6 ?_;refine tk 7 ?_;refine tk 8 ?_;refine tk 9 ?_;refine tk 10 ?_;refine tk 11 ?_;refine tk 12 ?_;refine aG 13 fun K hK=>?_
  (try go_simp)
  go_at_call 14
  refine(kS B (ms.length:Int) _ hposM hB.1 hB.2).mono ?_;rintro r wk ⟨rfl,rfl⟩;rw[HK.out];refine k1 hK fun _=>?_;clear hK K;refine aG 14 fun K hK=>?_
  (try go_simp)
  refine k1 hK fun _=>?_;clear hK K;refine aG 15 fun K hK=>?_
  (try go_simp)
  refine k1 hK fun _=>?_;clear hK K;refine aG 16 fun K hK=>?_
  (try go_simp)
  go_at_call 63
  refine(ENC.out wy.drew (Below.refl _ _).drew).mono ?_;rintro r wz ⟨rfl,hbz⟩;have hbz2:=(Below.refl wy.heap.size wy).drew.trans hbz;have z0:=(hbz2.cell (p:=⟨g,o+Kx*11,Z⟩) hgW).trans j0;have z1:=(hbz2.cell (p:=⟨g,o+Kx*11+1,Z⟩) hgW).trans j1;have z2:=(hbz2.cell (p:=⟨g,o+Kx*11+2,Z⟩) hgW).trans j2;have z3:=(hbz2.cell (p:=⟨g,o+Kx*11+3,Z⟩) hgW).trans j3;have z4:=(hbz2.cell (p:=⟨g,o+Kx*11+4,Z⟩) hgW).trans j4;have z5:=(hbz2.cell (p:=⟨g,o+Kx*11+5,Z⟩) hgW).trans j5;have z6:=(hbz2.cell (p:=⟨g,o+Kx*11+6,Z⟩) hgW).trans j6;have z7:=(hbz2.cell (p:=⟨g,o+Kx*11+7,Z⟩) hgW).trans j7;have z8:=(hbz2.cell (p:=⟨g,o+Kx*11+8,Z⟩) hgW).trans j8;have z9:=(hbz2.cell (p:=⟨g,o+Kx*11+9,Z⟩) hgW).trans j9;have z10:=(hbz2.cell (p:=⟨g,o+Kx*11+10,Z⟩) hgW).trans j10;have zR:=(hbz2.cell (p:=⟨R,0,Z⟩) hRY).trans c0;have zB:=(hbz2.cell (p:=⟨w.heap.size,2,Z⟩) hwY).trans m2;refine k1 hK fun _=>?_;clear hK K;refine aG 17 fun K hK=>?_
  (try go_simp)
  refine k1 hK fun _=>?_;clear hK K;refine iE [18,19] ?_;refine .cons rfl (fun K hK=>?_) ?_
  ·(try go_simp)
   refine k1 hK fun _=>?_;clear hK K;refine iE [19,20] ?_;refine .cons rfl (fun K hK=>?_) ?_
   ·(try go_simp)
    refine k1 hK fun _=>?_;clear hK K;refine aG 20 fun K hK=>?_
    (try go_simp)
    refine k1 hK fun _=>?_;clear hK K;refine aG 21 fun K hK=>?_
    (try go_simp)
    refine k1 hK fun _=>?_;clear hK K;refine dn ?_
    go_wp2_with fail
    go_meet
    exact⟨rfl,hbz2⟩
   refine .cons rfl (fun K hK=>?_) .nil
   (try go_simp)
   refine k1 hK fun _=>?_;clear hK K;refine aG 19 fun K hK=>?_
   (try go_simp)
   refine k1 hK fun _=>?_;clear hK K;refine aG 21 fun K hK=>?_
   (try go_simp)
   refine k1 hK fun _=>?_;clear hK K;refine dn ?_
   go_wp2_with fail
   go_meet
   exact⟨rfl,hbz2⟩
  refine .cons rfl (fun K hK=>?_) .nil
  (try go_simp)
  refine k1 hK fun _=>?_;clear hK K;refine aG 18 fun K hK=>?_
  (try go_simp)
  refine k1 hK fun _=>?_;clear hK K;refine aG 20 fun K hK=>?_
  (try go_simp)
  refine k1 hK fun _=>?_;clear hK K;refine aG 21 fun K hK=>?_
  (try go_simp)
  refine k1 hK fun _=>?_;clear hK K;refine dn ?_
  go_wp2_with fail
  go_meet
  exact⟨rfl,hbz2⟩
 case rest=>
 obtain⟨rfl,hbz⟩:=hcut;obtain⟨wz,hwz⟩:∃y,y=wc:=⟨_,rfl⟩;subst hwz;have HIZ:=aA (HIY.out.later hbz (Nat.le_refl t));have HSV:=aA ((HI.out.save HBY.out).trans (HIY.out.save hbz));clear hbz j0 j1 j2 j3 j4 j5 j6 j7 j8 j9 j10 c0 ENC
 go_wp2_with fail
 refine(nO hSO hBW hBS hLO hUO HIZ.out J1 hJl x HXE.out (aC bx) HLN.out ht).mono ?_;rintro r w9 ⟨rfl,hf1,hf2⟩;have HQ:Hid (dB base R (t+1) w9/\bM base R w w9):=⟨hf1,HSV.out.trans hf2⟩;clear hf1 hf2;go_wp2;go_ret;exact⟨rfl,HQ.out⟩
end Go.Proofs.YtdcainmlcpafbaaGreatDoor
