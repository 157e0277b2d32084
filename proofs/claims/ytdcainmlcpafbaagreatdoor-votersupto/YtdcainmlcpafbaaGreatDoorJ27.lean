import Derived.Test.YtdcainmlcpafbaaGreatDoorJ25
set_option linter.all false
set_option maxHeartbeats 8000000
set_option maxRecDepth 20000
namespace Go.Proofs.YtdcainmlcpafbaaGreatDoor
open Go.RowKit
open Value renaming int->I,slice->J,pointer->P0
open Tryz renaming prog->pG
open IntKind renaming i64->T
open Option renaming none->Z,some->Y
open Obj renaming cells->G
open Value (bool)
theorem GL(hSO:cU)(hBW:cV)(hBS:cS)(hLO:fK)(hUO:fJ){base R t:Nat}{w:World}{ao:Option Addr}{c:Nat}{ms:List aU}{vh vs:Value}{hs:List HD}{ss:List (List UInt8)}{v:Nat->Value}{es:Nat->List bU}(hI:cX base R t w ao c ms vh vs hs ss v es)(A B C:Int)(S:ByteArray)(ht:t<=1100000)(hA:-9223372036854775808<=A/\A<=9223372036854775807)(hB:-9223372036854775808<=B/\B<=9223372036854775807)(hS:S.size<=2000000):
  Calls pG 30 #[P0 (Y ⟨R,0,Z⟩),.agg #[I T 8,I T A,I T B,I T C,Value.string S]] w fun r w'=>r=.returned (.bool true)/\dB base R (t+1) w'/\bM base R w w':=by
 have hb0:=(Below.refl w.heap.size w).alloc (Nat.le_refl _) (G #[I T 8,I T A,I T B,I T C,Value.string S] 93);have HM:=aA (aB.new w #[I T 8,I T A,I T B,I T C,Value.string S] 93);have HB0:=aA hb0;have HI:=aA hI;have HI0:=aA (hI.later hb0 (Nat.le_refl t));have hRlow:=hI.low;clear hI hb0
 by_cases hne:hs=[]
 ·subst hne;have c2:=HI0.out.c2;obtain⟨ah,ch,hvh,_⟩:=dN HI0.out.hrow;rw[hvh]at c2;have HQ:Hid (dB base R (t+1) (w.alloc (G #[I T 8,I T A,I T B,I T C,Value.string S] 93))/\bM base R w (w.alloc (G #[I T 8,I T A,I T B,I T C,Value.string S] 93))):=⟨⟨_,_,_,_,_,_,_,_,_,HI.out.later HB0.out (Nat.le_succ t)⟩,HI.out.save HB0.out⟩;clear hvh;simp only[List.length_nil]at c2;go_enter Tryz.func30,Tryz.ntmps30;go_wp2;go_ret;exact⟨rfl,HQ.out⟩
 have hpos:0<hs.length:=List.length_pos_iff.mpr hne;have hposI:(0:Int)<(hs.length:Int):=by omega
 obtain⟨J1,hJ⟩:=Int.eq_ofNat_of_zero_le (Int.emod_nonneg (fI A) (show(hs.length:Int)≠0 by omega));have hJl:J1<hs.length:=by have:=Int.emod_lt_of_pos (fI A) hposI;omega
 have hJi:(J1:Int)<(hs.length:Int):=by omega
 have HJ:=aA hJ;clear hne hJ;obtain⟨x,hx⟩:∃x,x=hs[J1]:=⟨_,rfl⟩;have HXE:=aA hx;clear hx;have q0:((hs.length:Int)==0)=false:=by rw[beq_eq_false_iff_ne];omega
 go_enter Tryz.func30,Tryz.ntmps30
 go_upto_region 10 with fail
 generalize (w.alloc (G #[I T 8,I T A,I T B,I T C,Value.string S] 93))=W0 at*;have hs0:=HB0.out.size;have hRW:R<W0.heap.size:=by omega
 have hlen:(hs.length:Int)<=9223372036854775807:=by have:=HI0.out.hlen;omega
 obtain⟨gh,ch,hvh,hghl,hgc⟩:=jA HI0.out.hrow hpos;have c2:=HI0.out.c2;rw[hvh]at c2;have m0:=HM.out.cell 0;have m1:=HM.out.cell 1;simp at m0 m1;have cJ:W0.cell? ⟨gh,J1,Z⟩=Y (P0 (Y ⟨x.hb,0,Z⟩)):=hgc J1 _ (by rw[List.getElem?_map,List.getElem?_eq_getElem hJl,HXE.out];rfl);clear hvh hgc
 go_upto_region 12 with fail
 go_cut [7] from 60 to 73 (fun s7 wy=>s7=P0 (Y ⟨x.hb,0,Z⟩)/\Below W0.heap.size W0 wy)
 case first=>
  refine eN (S:=(fun w'=>w'.cell? ⟨R,2,Z⟩=Y (J (Y ⟨gh,0,Z⟩) hs.length ch)/\w'.cell? ⟨w.heap.size,1,Z⟩=Y (I T A)/\w'.cell? ⟨gh,J1,Z⟩=Y (P0 (Y ⟨x.hb,0,Z⟩)))) fun _=>?_;refine tk 0 ?_;refine tk 1 ?_;refine tk 2 ?_;refine tk 3 ?_;refine tk 4 ?_;refine tk 5 ?_;refine tk 6 ?_;refine tk 7 ?_;refine tk 8 ?_;refine tk 9 ?_;refine tk 10 ?_;refine aG 11 fun K hK=>?_
  (try go_simp)
  go_at_call 14
  refine(kS A (hs.length:Int) _ hposI hA.1 hA.2).mono ?_;rintro r wk ⟨rfl,rfl⟩;rw[HJ.out];refine k1 hK fun _=>?_;clear hK K;refine aG 12 fun K hK=>?_
  (try go_simp)
  refine k1 hK fun _=>?_;clear hK K;refine aG 13 fun K hK=>?_
  (try go_simp)
  refine k1 hK fun _=>?_;clear hK K;refine aG 14 fun K hK=>?_
  (try go_simp)
  refine k1 hK fun _=>?_;clear hK K;refine dn ?_
  go_wp2_with fail
  go_meet
  exact⟨rfl,(Below.refl _ _).drew⟩
 case rest=>
 obtain⟨rfl,hby⟩:=hcut;obtain⟨wy,hwy⟩:∃y,y=wc:=⟨_,rfl⟩;subst hwy;have HBY:=aA (HB0.out.trans (hby.mono hs0));have HIY:=aA (HI0.out.later hby (Nat.le_refl t));have HMY:=aA (HM.out.later hby);have HXY:Hid (cG wy base t x):=by unfold Hid;rw[HXE.out];exact HIY.out.hosts _ (List.getElem_mem hJl)
 have hsy:=HBY.out.size;clear hby m0 m1 c2 cJ HI0 HM HB0 q0;have m0:=HMY.out.cell 0;have m1:=HMY.out.cell 1;have m2:=HMY.out.cell 2;have m3:=HMY.out.cell 3;have m4:=HMY.out.cell 4;simp at m0 m1 m2 m3 m4;have x0:=HXY.out.host.cell 0;simp at x0
 by_cases hse:ss=[]
 ·have c3:=HIY.out.c3;obtain⟨as',cs,hvs,_⟩:=dN HIY.out.srow;rw[hvs,hse]at c3;clear hvs;simp only[List.length_nil]at c3;have HQ:Hid (dB base R (t+1) wy/\bM base R w wy):=⟨⟨_,_,_,_,_,_,_,_,_,HI.out.later HBY.out (Nat.le_succ t)⟩,HI.out.save HBY.out⟩;go_wp2;go_ret;exact⟨rfl,HQ.out⟩
 have hpos:0<ss.length:=List.length_pos_iff.mpr hse;have hposS:(0:Int)<(ss.length:Int):=by omega
 obtain⟨Kx,hK⟩:=Int.eq_ofNat_of_zero_le (Int.emod_nonneg (fI B) (show(ss.length:Int)≠0 by omega));have hKl:Kx<ss.length:=by have:=Int.emod_lt_of_pos (fI B) hposS;omega
 have hKi:(Kx:Int)<(ss.length:Int):=by omega
 have HK:=aA hK;clear hse hK;have hlenS:(ss.length:Int)<=9223372036854775807:=by have:=HIY.out.sl;omega
 obtain⟨gs,cs,hvs,hgsl,hgc⟩:=jA HIY.out.srow hpos;have c3:=HIY.out.c3;rw[hvs]at c3;have cK:wy.cell? ⟨gs,Kx,Z⟩=Y (Value.string (aC ss[Kx])):=hgc Kx _ (by rw[List.getElem?_map,List.getElem?_eq_getElem hKl];rfl)
 have HSK:Hid ((aC ss[Kx]).size<=2000000):=by
  have h9:=HIY.out.slen _ (List.getElem_mem hKl);unfold Hid;show(aC ss[Kx]).data.size<=_
  simp[aC];omega
 clear hvs hgc
 go_wp2_with fail
 go_cut [4] from 174 to 190 (fun s4 wz=>s4=.bool true/\dB base R (t+1) wz/\bM base R w wz)
 case first=>
  go_region_with (first|(go_at_call 14;refine(kS B (ss.length:Int) _ hposS hB.1 hB.2).mono ?_;rintro r wk ⟨rfl,rfl⟩;rw[HK.out])|(go_at_call 69;refine(nO hSO hBW hBS hLO hUO (HIY.out.later (Below.refl _ _).drew (Nat.le_refl t)) J1 hJl x HXE.out (aC ss[Kx]) HSK.out ht).mono ?_;rintro r wz ⟨rfl,hz1,hz2⟩))
  all_goals go_wp2_with fail
  all_goals go_meet
  all_goals exact⟨rfl,hz1,(HI.out.save HBY.out).trans ((HIY.out.save (Below.refl _ _).drew).trans hz2)⟩
 case rest=>
 obtain⟨rfl,hq1,hq2⟩:=hcut;have HQ:Hid (dB base R (t+1) wc/\bM base R w wc):=⟨hq1,hq2⟩;clear hq1 hq2;go_wp2;go_ret;exact⟨rfl,HQ.out⟩
end Go.Proofs.YtdcainmlcpafbaaGreatDoor
