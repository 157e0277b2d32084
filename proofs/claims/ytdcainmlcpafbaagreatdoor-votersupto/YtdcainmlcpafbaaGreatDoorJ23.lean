import Derived.Test.YtdcainmlcpafbaaGreatDoorJ21
set_option linter.all false
set_option maxHeartbeats 8000000
namespace Go.Proofs.YtdcainmlcpafbaaGreatDoor
open Go.RowKit
open Value renaming int->I,slice->J,pointer->P0
open Tryz renaming prog->pG
open IntKind renaming i64->T
open Option renaming none->Z,some->Y
open Obj renaming cells->G
open Value (bool)
section
set_option maxRecDepth 20000
theorem JH:(Tryz.prog.info? 9).map (fun i=>(i.zero,i.size,i.bytes))=Y (Y (.string (aC [])),1,16):=by kernel_rfl
theorem GB:(Tryz.prog.info? 141).map (fun i=>(i.zero,i.size,i.bytes))=Y (Y (P0 none),1,8):=by kernel_rfl
theorem mX{ps:List dM}{g:Nat}(h:fM ps 0 g):∃j,∃h:j<ps.length,ps[j].d.ownBlock=Y g:=by
 obtain⟨j,_,h1,h2⟩:=h;exact⟨j,h1,h2⟩
def tU(base R hb:Nat)(a b c:Value)(am:Option Addr)(cm:Nat)(ext:Nat->Prop)(l:Value)(ps:List dM)(xs:List (List UInt8))(vs:Value)(ss:List (List UInt8))(v:Nat->Value)(es:Nat->List bU)(w w':World):Prop:=
 ∃vst v' es',w'.cell? ⟨R,3,Z⟩=Y vst/\w'.ownsRow base 9 1 vst (ss++xs).length ((ss++xs).map (fun s=>Value.string (aC s)))/\(∀g,vst.ownBlock=Y g->vs.ownBlock=Y g∨w.heap.size<=g)/\cD (fun g=>ext g∨vst.ownBlock=Y g) w' base R v' es'/\(∀k,k<5->(es' k).length<=(es k).length+1)/\aB w' hb #[a,b,c,J am 1 cm] 144/\aK (fun g=>g=R∨g=hb∨vs.ownBlock=Y g∨(∃k,k<5/\(v k).ownBlock=Y g)∨l.ownBlock=Y g∨fM ps 0 g) w w'/\∀i,i<3->w'.cell? ⟨R,i,Z⟩=w.cell? ⟨R,i,Z⟩
theorem AT(base R hb:Nat)(a b c m0:Value)(am:Option Addr)(cm:Nat)(ext:Nat->Prop)(l:Value)(ps:List dM)(xs:List (List UInt8))(vs:Value)(ss:List (List UInt8))(v:Nat->Value)(es:Nat->List bU)(w:World)(hH:aB w hb #[a,b,c,m0] 144)(hc3:w.cell? ⟨R,3,Z⟩=Y vs)(hs:w.ownsRow base 9 1 vs ss.length (ss.map (fun s=>Value.string (aC s))))(hL:cD (fun g=>ext g∨vs.ownBlock=Y g∨l.ownBlock=Y g∨fM ps 0 g) w base R v es)(hl:w.ownsRow base 172 2 l ps.length (ps.flatMap dM.cells))(hp1:ps.length<=1)(hxp:xs.length=ps.length)(hd:∀j (h:j<ps.length) (h':j<xs.length),bJ w base ps[j].d xs[j]/\xs[j].length<=1000000)(hex:ext hb)(hhb:base<=hb)(hxl:∀g,l.ownBlock=Y g->¬ext g)(hxd:∀g,fM ps 0 g->¬ext g)(hxn:∀g,w.heap.size<=g->¬ext g)(hvs:∀g,vs.ownBlock=Y g->g≠hb)(hss:ss.length<=4000000)(hes:∀k,k<5->(es k).length<=4000000):
  Calls pG 125 #[P0 (Y ⟨R,0,Z⟩),P0 (Y ⟨hb,0,Z⟩),J am 1 cm,l] w fun r w'=>r=.returned (.bool true)/\tU base R hb a b c am cm ext l ps xs vs ss v es w w':=by
 obtain⟨la,lc,rfl,_⟩:=dN hl;have hRlt:=hL.lt;have hle:=hL.le;have hRw:R<w.heap.size:=by omega
 have hbw:=hH.lt;have hRf:∀i,w.frozen? ⟨R,i,Z⟩=false:=hL.free;have k3:=hH.cell 3;have f3:=hH.free 3;simp at k3;have hbu0:=aD.setCell w ⟨hb,3,Z⟩ (J am 1 cm);have hb1:=hH.set 3 (J am 1 cm);simp at hb1;have HL:=aA hL;have Hl:=aA hl;have HD:=aA hd;have HX:=aA hxp;have HSR:=aA hs;have HC3:=aA hc3;have HXL:=aA hxl;have HXD:=aA hxd;have HXN:=aA hxn;have HVS:=aA hvs;have HEX:=aA hex;have HES:=aA hes;have HRF:=aA hRf;have HH:=aA hH;clear hL hl hd hxp hs hc3 hxl hxd hxn hvs hex hes hRf hH;have HRB:Hid (R≠hb):=by unfold Hid;omega
 go_enter Tryz.func125,Tryz.ntmps125;go_wp2;have hz1:=hbu0.size;generalize w.setCell ⟨hb,3,Z⟩ (J am 1 cm)=w1 at*;clear k3 f3;have HBU:=aA hbu0;have HB1:=aA hb1;have HZ1:=aA hz1;have hzz:w.heap.size<=w1.heap.size:=by omega
 clear hbu0 hb1 hz1
 go_loopw [9] (fun ix wr=>∃(t:Nat) (vst:Value),t<=ps.length/\ix=I T t/\wr.cell? ⟨R,3,Z⟩=Y vst/\wr.ownsRow base 9 1 vst (ss++xs.take t).length ((ss++xs.take t).map (fun s=>Value.string (aC s)))/\(∀g,vst.ownBlock=Y g->vs.ownBlock=Y g∨w.heap.size<=g)/\aK (fun g=>g=R∨g=hb∨vs.ownBlock=Y g) w wr/\(∀i,i≠3->wr.cell? ⟨R,i,Z⟩=w.cell? ⟨R,i,Z⟩)/\(∀i,wr.frozen? ⟨R,i,Z⟩=false)/\aB wr hb #[a,b,c,J am 1 cm] 144) (fun ix _=>ps.length - (intOf ix).toNat)
 case atStart=>
  have e1:=HBU.out;refine⟨0,vs,by omega,rfl,?_,?_,fun g hg=>.inl hg,?_,?_,?_,HB1.out⟩
  ·exact(World.cell?_of_block (w:=w) (a:=⟨R,3,Z⟩) (e1.block R HRB.out)).trans HC3.out
  ·have h9:=aH (w':=w1) HSR.out (fun g hg=>e1.block g (HVS.out g hg))
   simpa using h9
  ·exact⟨e1.os,e1.tape,e1.output,by have:=HZ1.out;omega,fun k hk hA=>e1.block k (fun hh=>hA (.inr (.inl hh)))⟩
  ·exact fun i _=>World.cell?_of_block (w:=w) (a:=⟨R,i,Z⟩) (e1.block R HRB.out)
  ·exact fun i=>(World.frozen?_of_block (w:=w) (a:=⟨R,i,Z⟩) (e1.block R HRB.out)).trans (HRF.out i)
 case round=>
  obtain⟨t,vst,ht,rfl,hc3,hsr,hvst,hkp,hcR,hfR,hBr⟩:=hrel;have hws:=hkp.size
  by_cases htl:t<ps.length
  ·have htx:t<xs.length:=by have:=HX.out;omega
   have htl2:(t:Int)<(ps.length:Int):=by omega
   obtain⟨hdo,hdl⟩:=HD.out t htl htx
   have hlr:wr.ownsRow base 172 2 (J la ps.length lc) ps.length (ps.flatMap dM.cells):=aH Hl.out (fun g hg=>hkp.block g (Hl.out.lt g hg).2 (by
    rintro(h9|h9|h9)
    ·have:=(Hl.out.lt g hg).1;omega
    ·exact HXL.out g hg (by rw[h9];exact HEX.out)
    ·exact iU Hl.out HSR.out (by decide) g hg h9))
   have hdr:bJ wr base ps[t].d xs[t]:=aH hdo (fun g hg=>hkp.block g (World.ownsRow.lt hdo g hg).2 (by
    rintro(h9|h9|h9)
    ·have:=(World.ownsRow.lt hdo g hg).1;omega
    ·exact HXD.out g ⟨t,by omega,htl,hg⟩ (by rw[h9];exact HEX.out)
    ·exact iU hdo HSR.out (by decide) g hg h9))
   obtain⟨gl,cgl,he,hgl,hcc⟩:=jA hlr (by omega);cases he;have j1:=hcc _ _ (mO ps t htl 1 (by omega));simp[dM.cells]at j1;have hba:=bJ.bytesAt (World.ownsRow.drew hdr);have hcv:=kO hba;obtain⟨av,cv,rfl,_⟩:=dN hsr;obtain⟨i5,hi5,hy0,hy1,hy2⟩:=info_parts JH;have OB:=aA hsr;have hlen:(ss++xs.take t).length<=4000001:=by rw[List.length_append,List.length_take];omega
   have hRr:R<wr.heap.size:=by omega
   have hRf3:=hfR 3;have HCR:=aA hcR;have HFR:=aA hfR;have HVST:=aA hvst;have HKP:=aA hkp;have HBR:=aA hBr;have HXS:Hid (xs.take (t+1)=xs.take t++[xs[t]]):=by unfold Hid;rw[List.take_succ_eq_append_getElem htx]
   have hbr:base<=wr.heap.size:=by omega
   clear hcc hlr hdr hdo hba hsr hcR hfR hvst hkp hBr;generalize ps[t].d=PD at*;generalize hSL0:(ss++xs.take t).length=SL at*;generalize hXS0:aC xs[t]=XS at*;have HSL:=aA hSL0;have HXSS:=aA hXS0;clear hSL0 hXS0;go_wp2
   go_region_law (refine gC rfl (.tmp 24) (.tmp 31) 81 rfl base 9 i5 (.string (aC [])) 1 16 Tryz.underlying81 hi5 hy0 hy1 hy2 rfl (by decide) (J av SL cv) SL ((ss++xs.take t).map (fun s=>Value.string (aC s))) (by simp[Act.eval]) (by exact(World.ownsRow.alloc OB.out _).drew) ⟨wr.heap.size,0,Z⟩ 1 1 [Value.string XS] (by omega) (by simp[Act.eval]) rfl (by intro j u hu;rw[Go.WideShapes.add_plain];refine(World.cell?_alloc_at _ _ _ _ rfl).trans ?_;simpa using hu) (by intro u hu;simp at hu;subst hu;rfl) (by unfold maxLen;omega) (by omega) (by show _<=(World.alloc _ _).heap.size;simp;omega) ?_;intro v' w' ho' hg' hloc;obtain⟨va,vc,rfl⟩:=aO ho';have hRo:some R≠Value.ownBlock (J av SL cv):=(fun hh=>by have h1:=(OB.out.lt R hh.symm).1;omega);have hRb2:w'.heap[R]?=wr.heap[R]?:=(hg'.block R (by show _<(World.alloc _ _).heap.size;simp;omega) hRo).trans (heap_alloc_old wr _ hRr);have hRw1:w'.cell? ⟨R,3,Z⟩=Y (J av SL cv):=((World.cell?_of_block (w:=wr) (a:=⟨R,3,Z⟩) hRb2).trans hc3);have hRw2:w'.frozen? ⟨R,3,Z⟩=false:=((World.frozen?_of_block (w:=wr) (a:=⟨R,3,Z⟩) hRb2).trans hRf3))
   all_goals go_wp2
   all_goals go_roundw
   all_goals try(case measure=>simp[intOf];omega)
   all_goals
    have hsz':=hg'.size;have hsa:(wr.alloc (G #[Value.string XS] 9)).drew.heap.size=wr.heap.size+1:=by show(World.alloc _ _).heap.size=_;simp
    have hgs:=iZ w' ⟨R,3,Z⟩ (J va (SL+1) vc);have hbs:=aD.setCell w' ⟨R,3,Z⟩ (J va (SL+1) vc);have hso:=hbs.size;have hRo9:∀g,Value.ownBlock (J va (SL+1) vc)=Y g->g≠R:=fun g hg hh=>by have:=(ho'.lt g hg).1;omega
    have hblk:∀g,g<wr.heap.size->g≠R->Value.ownBlock (J av SL cv)≠some g->(w'.setCell ⟨R,3,Z⟩ (J va (SL+1) vc)).heap[g]?=wr.heap[g]?:=fun g h1 h2 h3=>(hbs.block g h2).trans ((hg'.block g (by omega) (fun hh=>h3 hh.symm)).trans (heap_alloc_old wr _ h1));refine⟨t+1,J va (SL+1) vc,by omega,by go_num,?_,?_,?_,?_,?_,?_,?_⟩
    ·exact World.cell?_setCell_same _ _ _ hRw1
    ·have e1:(ss++xs.take (t+1)).length=SL+1:=by rw[HXS.out,←List.append_assoc,List.length_append,HSL.out];rfl
     have e2:(ss++xs.take (t+1)).map (fun s=>Value.string (aC s))=(ss++xs.take t).map (fun s=>Value.string (aC s))++[.string XS]:=by rw[HXS.out,←List.append_assoc,List.map_append,←HXSS.out];rfl
     rw[e1,e2];exact aH ho' (fun g hg=>hbs.block g (hRo9 g hg))
    ·intro g hg;obtain⟨g',h1,h2⟩:=hloc;rw[h1]at hg;obtain rfl:g'=g:=by simpa using hg
     rcases h2 with h2|⟨h2,_⟩
     ·exact HVST.out g' h2
     ·exact .inr (by omega)
    ·refine⟨hgs.os.trans (hg'.os.trans HKP.out.os),hgs.tape.trans (hg'.tape.trans HKP.out.tape),hgs.output.trans (hg'.output.trans HKP.out.output),by omega,fun k hk hA=>?_⟩;refine(hblk k (by omega) (fun hh=>hA (.inl hh)) (fun hh=>?_)).trans (HKP.out.block k hk hA);rcases HVST.out k hh with h8|h8
     ·exact hA (.inr (.inr h8))
     ·omega
    ·intro i hi;rw[World.cell?_setCell_other _ _ _ _ (by intro hh;have:=congrArg Addr.off hh;simp at this;omega)];exact(World.cell?_of_block (w:=wr) (a:=⟨R,i,Z⟩) hRb2).trans (HCR.out i hi)
    ·intro i;rw[World.frozen?_setCell];exact(World.frozen?_of_block (w:=wr) (a:=⟨R,i,Z⟩) hRb2).trans (HFR.out i)
    ·refine HBR.out.same (hblk hb (by omega) (fun hh=>HRB.out hh.symm) (fun hh=>?_));rcases HVST.out hb hh with h8|h8
     ·exact HVS.out hb h8 rfl
     ·omega
  ·have htt:t=ps.length:=by omega
   subst htt;have hxt:xs.take ps.length=xs:=by rw[←HX.out];exact List.take_length
   rw[hxt]at hsr;have hnl:¬((ps.length:Int)<(ps.length:Int)):=by omega
   have hkl:=HL.out
   have hlr:wr.ownsRow base 172 2 (J la ps.length lc) ps.length (ps.flatMap dM.cells):=aH Hl.out (fun g hg=>hkp.block g (Hl.out.lt g hg).2 (by
    rintro(h9|h9|h9)
    ·have:=(Hl.out.lt g hg).1;omega
    ·exact HXL.out g hg (by rw[h9];exact HEX.out)
    ·exact iU Hl.out HSR.out (by decide) g hg h9))
   have hdr:∀j (h:j<ps.length),∃n ys,wr.ownsRow base 5 1 ps[j].d n ys/\n<=1000000:=by
    intro j h;obtain⟨hdo,hdl⟩:=HD.out j h (by rw[HX.out];exact h);refine⟨_,_,aH hdo (fun g hg=>hkp.block g (World.ownsRow.lt hdo g hg).2 ?_),hdl⟩;rintro(h9|h9|h9)
    ·have:=(World.ownsRow.lt hdo g hg).1;omega
    ·exact HXD.out g ⟨j,by omega,h,hg⟩ (by rw[h9];exact HEX.out)
    ·exact iU hdo HSR.out (by decide) g hg h9
   have hB:cD (fun g=>(ext g∨vst.ownBlock=Y g)∨(J la ps.length lc).ownBlock=Y g∨fM ps 0 g) wr base R v es:=by
    refine hkl.shiftR hws (fun g h1 h2 h3=>hkp.block g h1 ?_) (fun k hk=>hcR (4+k) (by omega)) hfR ?_
    ·rintro(h9|h9|h9)
     ·exact h3 h9
     ·exact h2 (.inl (by rw[h9];exact HEX.out))
     ·exact h2 (.inr (.inl h9))
    ·rintro g h1 ((h9|h9)|h9|h9)
     ·exact .inl h9
     ·rcases hvst g h9 with h8|h8
      ·exact .inr (.inl h8)
      ·omega
     ·exact .inr (.inr (.inl h9))
     ·exact .inr (.inr (.inr h9))
   have hld:∀g,fM ps 0 g->base<=g/\g<w.heap.size/\vs.ownBlock≠some g:=by
    intro g hg;obtain⟨j,hj,h8⟩:=mX hg;obtain⟨hdo,_⟩:=HD.out j hj (by rw[HX.out];exact hj);exact⟨(World.ownsRow.lt hdo g h8).1,(World.ownsRow.lt hdo g h8).2,fun hh=>iU hdo HSR.out (by decide) g h8 hh⟩
   have hll:∀g,(J la ps.length lc).ownBlock=Y g->base<=g/\g<w.heap.size/\vs.ownBlock≠some g:=fun g hg=>⟨(Hl.out.lt g hg).1,(Hl.out.lt g hg).2,fun hh=>iU Hl.out HSR.out (by decide) g hg hh⟩
   have hxl':∀g,(J la ps.length lc).ownBlock=Y g->¬(ext g∨vst.ownBlock=Y g):=by
    rintro g hg (h9|h9)
    ·exact HXL.out g hg h9
    ·have:=hll g hg;rcases hvst g h9 with h8|h8
     ·exact this.2.2 h8
     ·omega
   have hxd':∀g,fM ps 0 g->¬(ext g∨vst.ownBlock=Y g):=by
    rintro g hg (h9|h9)
    ·exact HXD.out g hg h9
    ·have:=hld g hg;rcases hvst g h9 with h8|h8
     ·exact this.2.2 h8
     ·omega
   have hxn':∀g,wr.heap.size<=g->¬(ext g∨vst.ownBlock=Y g):=by
    rintro g hg (h9|h9)
    ·exact HXN.out g (by omega) h9
    ·have:=(hsr.lt g h9).2;omega
   have he0:=HES.out 0 (by omega);have he2:=HES.out 2 (by omega);have KP:=uO (fun g=>ext g∨vst.ownBlock=Y g) wr base R v es (J la ps.length lc) ps hB hlr (by omega) hdr (fun i j hi hj hij=>by omega) hxl' hxd' hxn' (by omega) (by omega);have HKPP:=aA KP;have HCR:=aA hcR;have HVST:=aA hvst;have HKP:=aA hkp;have HBR:=aA hBr;have HSR2:=aA hsr;have HC:=aA hc3;have HLD:=aA hld;have HLL:=aA hll;have HXN2:=aA hxn';have HXL2:=aA hxl';have HXD2:=aA hxd';have HBB:=aA hB;clear KP hcR hvst hkp hBr hsr hc3 hld hll hxn' hxl' hxd' hB hkl hlr hdr hxt hfR
   go_wp2_with fail
   refine HKPP.out.mono ?_;rintro r w2 ⟨rfl,v',es',hL',h0,h2,hoth,hown,hkp2,hcR2⟩
   have HF:Hid (tU base R hb a b c am cm ext (J la ps.length lc) ps xs vs ss v es w w2):=by
    have hsame:∀g,g<wr.heap.size->base<=g->(ext g∨vst.ownBlock=Y g)->w2.heap[g]?=wr.heap[g]?:=fun g h1 h1' h3=>hkp2.block g h1 (by
     rintro(h9|h9|h9|h9|h9)
     ·omega
     ·exact HBB.out.ex 0 (by omega) g h9.symm (.inl h3)
     ·exact HBB.out.ex 2 (by omega) g h9.symm (.inl h3)
     ·exact HXL2.out g h9.symm h3
     ·exact HXD2.out g h9 h3)
    have hkw:=HKP.out;refine⟨vst,v',es',(hcR2 3 (by omega)).trans HC.out,aH HSR2.out (fun g hg=>hsame g (HSR2.out.lt g hg).2 (HSR2.out.lt g hg).1 (.inr hg)),HVST.out,hL',?_,HBR.out.same (hsame hb (by omega) hhb (.inl HEX.out)),?_,fun i hi=>(hcR2 i (by omega)).trans (HCR.out i (by omega))⟩
    ·intro k hk
     by_cases k0:k=0
     ·subst k0;omega
     by_cases k2:k=2
     ·subst k2;omega
     ·rw[(hoth k k0 k2).1];omega
    ·refine⟨hkp2.os.trans hkw.os,hkp2.tape.trans hkw.tape,hkp2.output.trans hkw.output,Nat.le_trans hkw.size hkp2.size,fun k hk hA=>(hkp2.block k (by omega) ?_).trans (hkw.block k hk ?_)⟩
     ·rintro(h9|h9|h9|h9|h9)
      ·exact hA (.inl h9)
      ·exact hA (.inr (.inr (.inr (.inl ⟨0,by omega,h9.symm⟩))))
      ·exact hA (.inr (.inr (.inr (.inl ⟨2,by omega,h9.symm⟩))))
      ·exact hA (.inr (.inr (.inr (.inr (.inl h9.symm)))))
      ·exact hA (.inr (.inr (.inr (.inr (.inr h9)))))
     ·rintro(h9|h9|h9)
      ·exact hA (.inl h9)
      ·exact hA (.inr (.inl h9))
      ·exact hA (.inr (.inr (.inl h9)))
   clear hL' h0 h2 hoth hown hkp2 hcR2;go_wp2;go_ret;exact⟨rfl,HF.out⟩
end
theorem bD.ex(bs:List UInt8):∃k f n1 n2 n3 n4 n5 n6 n7 n8 zs ec,bD bs k f n1 n2 n3 n4 n5 n6 n7 n8 zs ec:=by
  by_cases h:eL bs=true
  · obtain⟨n1,n2,n3,n4,n5,n6,n7,n8,hn⟩:=qF bs
    exact⟨dP bs,fA bs,n1,n2,n3,n4,n5,n6,n7,n8,(dA bs).vals,0,.inl ⟨h,rfl,rfl,hn,rfl,rfl⟩⟩
  · exact⟨0,0,0,0,0,0,0,0,0,0,[],2,.inr ⟨by simpa using h,rfl,rfl,rfl,rfl,rfl,rfl,rfl,rfl,rfl,rfl,rfl,rfl⟩⟩
theorem CG(n:RN)(k f e b p s q bl v:Int)(zs:List Int)(ec:Int):(n.recvN k f e b p s q bl v zs ec).recs.length=n.recs.length->(n.recvN k f e b p s q bl v zs ec).recs=n.recs:=by
  unfold RN.recvN;intro h
  split at h<;>rename_i h0
  · rw[if_pos h0]
  rw[if_neg h0]
  split at h<;>rename_i h1
  · rw[if_pos h1]
    split
    · rfl
    · rcases mM n k e b p s with h9|⟨u,h9,_⟩<;>rw[h9]
  rw[if_neg h1]
  split at h<;>rename_i h2
  · rw[if_pos h2]
    split at h<;>rename_i h3
    · simp[RN.learn]at h
    · rw[if_neg h3]
  rw[if_neg h2]
  split
  · split<;>rfl
  · rfl
def jR(w w':World)(o:Option (Int×List UInt8))(l:Value):Prop:=match o with
  |none=>l=J Z 0 0
  |some (dst,x)=>∃v,w'.ownsRow w.heap.size 172 2 l 1 [I T dst,v]/\bJ w' w.heap.size v x
structure iG(w w':World)(base t:Nat)(x:HD)(n':RN)(vr' va':Value)(fs':List FD)(d':SD):Prop where
  kn:aB w' x.Kn #[Value.int IntKind.i32 0,Value.int IntKind.u32 0,P0 (Y ⟨x.Nd,0,Z⟩)] 134
  nd:aI w' x.Nd n'.id n'.nodes (n'.blocks.length:Int) x.St n'.act
  st:aF w' base x.St d' vr' x.Mp x.D
  dk:aL w' base x.D x.H x.S va' fs' (aQ (t+1))
  alike:cC d' n'
  bd:BD (t+1) d'
  ga:∀g,va'.ownBlock=Y g->x.va.ownBlock=Y g∨w.heap.size<=g
  gr:∀g,vr'.ownBlock=Y g->x.vr.ownBlock=Y g∨w.heap.size<=g
  kept:aK (fun g=>g=x.Kn∨g=x.Nd∨eH x.St x.vr x.Mp x.S x.va g) w w'
theorem CH(hSO:cU)(hBW:cV)(hBS:cS)(hLO:fK)(hUO:fJ)(base t:Nat)(x:HD)(bs:List UInt8)(vb:Value)(k f n1 n2 n3 n4 n5 n6 n7 n8:Int)(zs:List Int)(ec:Int)(w:World)(h:cG w base t x)(ht:aJ w)(h2:2<=base)(hbase:base<=w.heap.size)(hr:∀W,aD x.Kn w W->aR W W.heap.size vb bs)(hD:bD bs k f n1 n2 n3 n4 n5 n6 n7 n8 zs ec)(ht9:t<=1200000):
    Calls pG 91 #[P0 (Y ⟨x.Kn,0,Z⟩),vb] w fun r w'=>∃l vr' va' fs' d',r=.returned l/\jR w w' (x.n.recvO k f n1 n2 n6 n7 zs ec) l/\iG w w' base t x (x.n.recvN k f n1 n2 n4 n5 n6 n7 n8 zs ec) vr' va' fs' d':=by
  have hl:=h.low;have q1:base<=x.Kn:=hl _ (.inr (.inl rfl));have q2:base<=x.Nd:=hl _ (.inr (.inr (.inl rfl)));have q3:base<=x.St:=hl _ (.inr (.inr (.inr (.inr (.inr (.inl (.inl rfl)))))));have q4:base<=x.Mp:=hl _ (.inr (.inr (.inr (.inr (.inr (.inl (.inr (.inl rfl))))))));have q5:base<=x.S:=hl _ (.inr (.inr (.inr (.inr (.inr (.inl (.inr (.inr (.inr (.inl rfl))))))))));have hrc:=h.ok.recv hD;refine(AS hLO hUO x.Kn base x.Nd x.St x.d x.vr x.Mp x.D x.H x.S x.va x.fs (aQ t) (aQ (t+1)) (fun d'=>cC d' (x.n.recvN k f n1 n2 n4 n5 n6 n7 n8 zs ec)/\BD (t+1) d') x.n.id x.n.nodes (x.n.blocks.length:Int) x.n.act (x.n.recvN k f n1 n2 n4 n5 n6 n7 n8 zs ec).act bs vb (x.n.recvO k f n1 n2 n6 n7 zs ec) w h.kn h.nd h.st h.dk ht (by omega) hr ?_).mono ?_
  · intro W hsz a1 a2 a3 a4 a5
    exact KH hSO hBW hBS base x.Nd x.St x.d x.vr x.Mp x.D x.H x.S x.va x.fs t x.n bs vb k f n1 n2 n3 n4 n5 n6 n7 n8 zs ec W a1 a2 a3 a4 a5 hD (by omega) (by omega) (by omega) (by omega) h2 (by omega) h.alike h.ok h.bd ht9
  · rintro r w' ⟨l,rfl,g1,g2,vr',va',fs',d',⟨g3,g4⟩,g5,g6,g7,g8,g9,g10⟩
    refine⟨l,vr',va',fs',d',rfl,?_,⟨g2,?_,g6,g7,g3,g4,g8,g9,g10⟩⟩
    · unfold jR
      exact g1
    · rw[hrc.2.2.2.1,hrc.2.2.2.2.1,hrc.2.2.2.2.2]
      exact g5
theorem jV{α:Type}(l:List α)(i:Nat)(a:α)(j:Nat)(hj:j<(l.set i a).length):(i=j/\(l.set i a)[j]=a)∨(i≠j/\∃h:j<l.length,(l.set i a)[j]=l[j]):=by
  by_cases h:i=j
  · subst h
    exact .inl ⟨rfl,by simp⟩
  · exact .inr ⟨h,by simpa using hj,by simp[h]⟩
theorem cX.next{base R t:Nat}{w w':World}{ao:Option Addr}{c:Nat}{ms:List aU}{vh vs:Value}{hs:List HD}{ss:List (List UInt8)}{v:Nat->Value}{es:Nat->List bU}(hI:cX base R t w ao c ms vh vs hs ss v es)(i:Nat)(hi:i<hs.length)(x':HD)(hhb:x'.hb=hs[i].hb)(h':cG w' base (t+1) x')(hall:∀g,x'.all g->hs[i].all g∨w.heap.size<=g)(vs':Value)(ss':List (List UInt8))(v':Nat->Value)(es':Nat->List bU)(hc:∀i,i<3->w'.cell? ⟨R,i,Z⟩=w.cell? ⟨R,i,Z⟩)(hc3:w'.cell? ⟨R,3,Z⟩=Y vs')(hsr:w'.ownsRow base 9 1 vs' ss'.length (ss'.map (fun s=>Value.string (aC s))))(hsl:∀s∈ss',s.length<=300)(hled:cD (fun g=>((∃y∈hs.set i x',y.all g)∨vh.ownBlock=Y g)∨vs'.ownBlock=Y g) w' base R v' es')(hkp:aK (fun g=>g=R∨hs[i].all g∨vs.ownBlock=Y g∨(∃k,k<5/\(v k).ownBlock=Y g)∨w.heap.size<=g) w w')(hs1:ss'.length<=t+1)(hes:∀k,k<5->(es' k).length<=t+1):
    cX base R (t+1) w' ao c ms vh vs' (hs.set i x') ss' v' es'/\bM base R w w':=by
  have hlow:=hI.low;have hxi:=hI.hosts hs[i] (List.getElem_mem hi)
  have hsv:bM base R w w':=⟨hkp.os,hkp.tape,hkp.output,hkp.size,fun k h1 h2=>hkp.block k (by omega) (by
    rintro(h3|h3|h3|⟨q,hq,h3⟩|h3)
    · exact h2 h3
    · have:=hxi.low k h3;omega
    · have:=(hI.srow.lt k h3).1;omega
    · have:=(hI.led.low hq h3).1;omega
    · omega)⟩
  refine⟨⟨hI.two,hI.tabs.saved hsv hI.two hlow.1,(hc 0 (by omega)).trans hI.c0,hI.goods.saved hsv,hI.mok,hI.mlen,(hc 2 (by omega)).trans hI.c2,hc3,?_,hsr,hsl,?_,?_,?_,by rw[List.length_set];have:=hI.hlen;omega,hs1,hes⟩,hsv⟩
  · have h1:(hs.set i x').map (fun x=>P0 (Y ⟨x.hb,0,Z⟩))=hs.map (fun x=>P0 (Y ⟨x.hb,0,Z⟩)):=by
      apply List.ext_getElem
      · simp
      · intro j h1 h2
        rw[List.getElem_map,List.getElem_map];rcases jV hs i x' j (by simpa using h1) with⟨rfl,h3⟩|⟨_,_,h3⟩
        · rw[h3,hhb]
        · rw[h3]
    rw[h1,List.length_set];refine aH hI.hrow (fun g hg=>hkp.block g (hI.hrow.lt g hg).2 ?_);rintro(h3|h3|h3|⟨q,hq,h3⟩|h3)
    · have:=(hI.hrow.lt g hg).1;omega
    · exact hxi.off hI.hrow (by decide) h3 hg
    · exact iU hI.hrow hI.srow (by decide) g hg h3
    · exact hI.led.ex q hq g h3 (.inr (.inl hg))
    · have:=(hI.hrow.lt g hg).2;omega
  · intro y hy
    obtain⟨j,hj,rfl⟩:=List.getElem_of_mem hy;rcases jV hs i x' j hj with⟨rfl,h3⟩|⟨hne,hjl,h3⟩
    · rw[h3];exact h'
    · rw[h3]
      have hxj:=hI.hosts hs[j] (List.getElem_mem hjl);refine(hxj.kept (fun g hg=>hkp.block g (hxj.lt hg) ?_)).up (by omega);rintro(h4|h4|h4|⟨q,hq,h4⟩|h4)
      · have:=hxj.low g hg;omega
      · exact hI.apart i j hi hjl hne g h4 hg
      · exact hxj.off hI.srow (by decide) hg h4
      · exact hI.led.ex q hq g h4 (.inl ⟨_,List.getElem_mem hjl,hg⟩)
      · have:=hxj.lt hg;omega
  · intro a b ha hb hab g h1 h2
    rcases jV hs i x' a ha with⟨e1,h3⟩|⟨n1,a1,h3⟩
    · rcases jV hs i x' b hb with⟨e2,h4⟩|⟨n2,b1,h4⟩
      · omega
      · rw[h3]at h1
        rw[h4]at h2;rcases hall g h1 with h5|h5
        · exact hI.apart i b hi b1 n2 g h5 h2
        · have:=(hI.hosts _ (List.getElem_mem b1)).lt h2;omega
    · rcases jV hs i x' b hb with⟨e2,h4⟩|⟨n2,b1,h4⟩
      · rw[h3]at h1
        rw[h4]at h2;rcases hall g h2 with h5|h5
        · exact hI.apart i a hi a1 n1 g h5 h1
        · have:=(hI.hosts _ (List.getElem_mem a1)).lt h1;omega
      · rw[h3]at h1
        rw[h4]at h2;exact hI.apart a b a1 b1 hab g h1 h2
  · refine hled.shift (Nat.le_refl _) (fun g _ _=>rfl) (fun g _ hx=>?_)
    rcases hx with h1|h1|h1
    · exact .inl (.inl h1)
    · exact .inl (.inr h1)
    · exact .inr h1
def HD.feet(x:HD)(g:Nat):Prop:=g=x.Kn∨g=x.Nd∨eH x.St x.vr x.Mp x.S x.va g
theorem HD.feet_all{x:HD}{g:Nat}(h:x.feet g):x.all g:=by
  rcases h with h|h|h
  · exact .inr (.inl h)
  · exact .inr (.inr (.inl h))
  · exact .inr (.inr (.inr (.inr (.inr (.inl h)))))
theorem cG.offF{w:World}{base t:Nat}{x:HD}(h:cG w base t x){B:Nat}{cs:Array Value}{ty:TypeId}(hB:aB w B cs ty)(n1:ty≠134)(n2:ty≠192)(n3:ty≠200)(n4:ty≠66)(n5:ty≠98)(n6:ty≠107):¬x.feet B:=by
  rintro(hh|hh|hh)
  · exact hB.ne h.kn n1 hh
  · exact hB.ne h.nd.blk n2 hh
  · exact gA h.st h.dk hB n3 n4 n5 n6 hh
theorem cG.offR{w:World}{base t:Nat}{x:HD}(h:cG w base t x){b' sz m:Nat}{e:TypeId}{v:Value}{xs:List Value}(ho:w.ownsRow b' e sz v m xs)(n1:e≠134)(n2:e≠192)(n3:e≠200)(n4:e≠66)(n5:e≠98)(n6:e≠107){g:Nat}(hg:v.ownBlock=Y g):¬x.feet g:=by
  obtain⟨cur,hB⟩:=l8 ho hg;exact h.offF hB n1 n2 n3 n4 n5 n6
theorem cG.offrr{w:World}{base t:Nat}{x:HD}(h:cG w base t x){g:Nat}(hg:x.rr.ownBlock=Y g):¬x.feet g:=by
  obtain⟨cur,hB⟩:=l8 h.rr hg;rintro(hh|hh|hh|hh|hh|hh|hh)
  · exact hB.ne h.kn (by decide) hh
  · exact hB.ne h.nd.blk (by decide) hh
  · exact hB.ne h.st.blk (by decide) hh
  · exact h.st.vot.ne hB hh.symm
  · exact h.sep g hg hh
  · exact hB.ne (aB.mk h.dk.ds.st) (by decide) hh
  · exact aW h.dk.ds.row hB.blk (by decide) hh
structure lN(w:World)(base:Nat)(x:HD):Prop where
  host:aB w x.hb #[P0 (Y ⟨x.Kn,0,Z⟩),P0 (Y ⟨x.D,0,Z⟩),P0 (Y ⟨x.H,0,Z⟩),x.vm] 144
  may:w.ownsRow base 225 14 x.vm 1 (cY x.n x.rr x.rv x.rb)
  rr:w.ownsRow base 66 3 x.rr x.n.recs.length (x.n.recs.flatMap aM.cells)
  rv:w.ownsRow base 275 5 x.rv x.n.votes.length (x.n.votes.flatMap aS.cells)
  rb:w.ownsRow base 3 1 x.rb x.n.blocks.length (x.n.blocks.map (Value.int .i64))
theorem cG.doc{w w':World}{base t:Nat}{x:HD}(h:cG w base t x)(hk:aK x.feet w w'):lN w' base x:=
  ⟨h.host.same (hk.block _ h.host.lt (h.offF h.host (by decide) (by decide) (by decide) (by decide) (by decide) (by decide))),
   aH h.may (fun g hg=>hk.block g (h.may.lt g hg).2 (h.offR h.may (by decide) (by decide) (by decide) (by decide) (by decide) (by decide) hg)),
   aH h.rr (fun g hg=>hk.block g (h.rr.lt g hg).2 (h.offrr hg)),
   aH h.rv (fun g hg=>hk.block g (h.rv.lt g hg).2 (h.offR h.rv (by decide) (by decide) (by decide) (by decide) (by decide) (by decide) hg)),
   aH h.rb (fun g hg=>hk.block g (h.rb.lt g hg).2 (h.offR h.rb (by decide) (by decide) (by decide) (by decide) (by decide) (by decide) hg))⟩
theorem lN.later{w w':World}{base:Nat}{x:HD}(h:lN w base x)(hb:Below w.heap.size w w'):lN w' base x:=
  ⟨h.host.later hb,aH h.may (fun g hg=>hb.block g (h.may.lt g hg).2),aH h.rr (fun g hg=>hb.block g (h.rr.lt g hg).2),aH h.rv (fun g hg=>hb.block g (h.rv.lt g hg).2),aH h.rb (fun g hg=>hb.block g (h.rb.lt g hg).2)⟩
theorem iG.later{w w1 w2:World}{base t:Nat}{x:HD}{n':RN}{vr' va':Value}{fs':List FD}{d':SD}(h:iG w w1 base t x n' vr' va' fs' d')(hb:Below w1.heap.size w1 w2):iG w w2 base t x n' vr' va' fs' d':=
  ⟨h.kn.later hb,h.nd.later hb,h.st.later hb,h.dk.later hb,h.alike,h.bd,h.ga,h.gr,h.kept.trans (aK.of_below (A:=fun _=>False) hb) (fun g hg=>hg) (fun g _ hf=>hf.elim)⟩
theorem iG.lent{w w1 w2 w3:World}{base t:Nat}{x:HD}{n':RN}{vr' va':Value}{fs':List FD}{d':SD}{cur:Array Value}(h:iG w1 w2 base t x n' vr' va' fs' d')(hb:Below w.heap.size w w1)(hB:aB w2 w.heap.size cur 5)(hg:w2.grownBy w3 (Y w.heap.size)):iG w w3 base t x n' vr' va' fs' d':=by
  have hs:=hb.size;have hbk:∀g,g<w2.heap.size->g≠w.heap.size->w3.heap[g]?=w2.heap[g]?:=fun g h1 h2=>hg.block g h1 (fun hh=>h2 (by simpa using hh));refine⟨h.kn.same (hbk _ h.kn.lt (h.kn.ne hB (by decide))),⟨h.nd.blk.same (hbk _ h.nd.blk.lt (h.nd.blk.ne hB (by decide)))⟩,⟨h.st.blk.same (hbk _ h.st.blk.lt (h.st.blk.ne hB (by decide))),aH h.st.rcs (fun g hg=>hbk g (h.st.rcs.lt g hg).2 (fun hh=>aW h.st.rcs hB.blk (by decide) (by rw[←hh];exact hg))),h.st.vot.same (hbk _ h.st.vot.lt (h.st.vot.ne hB))⟩,?_,h.alike,h.bd,fun g h1=>(h.ga g h1).imp id (fun h2=>by omega),fun g h1=>(h.gr g h1).imp id (fun h2=>by omega),?_⟩
  · have hD:=h.dk
    have e1:=(aB.mk hD.hands.d).ne hB (by decide);have e2:=(aB.mk hD.hands.h).ne hB (by decide);have e3:=(aB.mk hD.ds.st).ne hB (by decide);exact⟨⟨(hbk _ (aB.mk hD.hands.d).lt e1).trans hD.hands.d,(hbk _ (aB.mk hD.hands.h).lt e2).trans hD.hands.h⟩,hD.ds.kept (hbk _ (aB.mk hD.ds.st).lt e3) (fun g hg=>hbk g (hD.ds.row.lt g hg).2 (fun hh=>aW hD.ds.row hB.blk (by decide) (by rw[←hh];exact hg))),hD.dS,hD.hS,hD.one,hD.bd⟩
  · have hk:=h.kept
    have hk2:=hk.size;exact⟨hg.os.trans (hk.os.trans hb.os),hg.tape.trans (hk.tape.trans hb.tape),hg.output.trans (hk.output.trans hb.output),Nat.le_trans (Nat.le_trans hs hk2) hg.size,fun k h1 h2=>(hbk k (by omega) (by omega)).trans ((hk.block k (by omega) h2).trans (hb.block k h1))⟩
def cP:Option (Int×List UInt8)->List eO
  |none=>[]
  |some (d,b)=>[⟨d,b⟩]
theorem kI.row{w:World}{low:Nat}{r:Ending}{o:Option (Int×List UInt8)}(h:kI w low r o):∃m,r=.returned m/\aP w m (cP o).length ((cP o).flatMap eO.cells):=by
  cases o with
  |none=>exact⟨_,h,.inl ⟨rfl,rfl,rfl⟩⟩
  |some y=>
    obtain⟨d,b⟩:=y;obtain⟨g,hr,h1,h2,h3,h4⟩:=h;refine⟨_,hr,.inr ⟨g,1,rfl,h2,?_⟩⟩;intro j u hu
    match j with
    |0=>simp[cP,eO.cells]at hu;rw[←hu];exact h3
    |1=>simp[cP,eO.cells]at hu;rw[←hu];exact h4
    |j+2=>simp[cP,eO.cells]at hu
theorem jR.row{w w':World}{o:Option (Int×List UInt8)}{l:Value}(h:jR w w' o l):∃ps:List dM,ps.length=(cP o).length/\w'.ownsRow w.heap.size 172 2 l ps.length (ps.flatMap dM.cells)/\∀j (h:j<ps.length) (h':j<(cP o).length),ps[j].dst=(cP o)[j].dst/\bJ w' w.heap.size ps[j].d (cP o)[j].bs:=by
  cases o with
  |none=>exact⟨[],rfl,by rw[show l=J Z 0 0 from h];exact World.ownsRow_nil _ _ _ _,fun j h=>by simp at h⟩
  |some y=>
    obtain⟨d,b⟩:=y;obtain⟨v,h1,h2⟩:=h;refine⟨[⟨d,v⟩],rfl,h1,fun j hj hj'=>?_⟩;obtain rfl:j=0:=by simp at hj;omega
    exact⟨rfl,h2⟩
theorem jR.lent{w w1 w2 w3:World}{o:Option (Int×List UInt8)}{l:Value}(h:jR w1 w2 o l)(hs:w.heap.size<w1.heap.size)(hg:w2.grownBy w3 (Y w.heap.size)):jR w w3 o l:=by
  cases o with
  |none=>exact h
  |some y=>
    obtain⟨d,b⟩:=y;obtain⟨v,h1,h2⟩:=h;exact⟨v,cM (aH h1 (fun g hh=>hg.block g (h1.lt g hh).2 (fun he=>by have:=(h1.lt g hh).1;have:g=w.heap.size:=(by simpa using he);omega))) (by omega),cM (aH h2 (fun g hh=>hg.block g (World.ownsRow.lt h2 g hh).2 (fun he=>by have:=(World.ownsRow.lt h2 g hh).1;have:g=w.heap.size:=(by simpa using he);omega))) (by omega)⟩
theorem lA(k id e b wa p s q bl v:Int)(zs:List Int)(hk:0<=k/\k<=10)(hz:zs.length<=4):(aT k id e b wa p s q bl v zs).length<=300:=oD _ _ _ _ (by omega) hz
theorem yL(n:RN)(k f e b q bl:Int)(zs:List Int)(ec:Int):∀d∈cP (n.recvO k f e b q bl zs ec),d.bs.length<=300:=by
  intro d hd;unfold RN.recvO at hd
  split at hd
  · simp[cP]at hd
  split at hd
  · split at hd
    · simp[cP]at hd;rw[hd];exact lA _ _ _ _ _ _ _ _ _ _ _ (by omega) (by simp)
    · simp[cP]at hd;rw[hd];unfold RN.votedA;split
      · exact lA _ _ _ _ _ _ _ _ _ _ _ (by omega) (by simp)
      split
      · exact lA _ _ _ _ _ _ _ _ _ _ _ (by omega) (by simp)
      · exact lA _ _ _ _ _ _ _ _ _ _ _ (by omega) (by simp)
  split at hd
  · rename_i h7
    unfold RN.storedO at hd
    split at hd
    · simp[cP]at hd
    split at hd
    · split at hd
      · simp[cP]at hd;rw[hd];exact lA _ _ _ _ _ _ _ _ _ _ _ (by omega) (by simp)
      · simp[cP]at hd
    split at hd
    · simp[cP]at hd
    · simp[cP]at hd;rw[hd];exact lA _ _ _ _ _ _ _ _ _ _ _ (by omega) (by simp)
  · simp[cP]at hd
structure iS(w:World)(base t:Nat)(x:HD):Prop where
  kn:aB w x.Kn #[Value.int IntKind.i32 0,Value.int IntKind.u32 0,P0 (Y ⟨x.Nd,0,Z⟩)] 134
  nd:aI w x.Nd x.n.id x.n.nodes (x.n.blocks.length:Int) x.St x.n.act
  st:aF w base x.St x.d x.vr x.Mp x.D
  dk:aL w base x.D x.H x.S x.va x.fs (aQ t)
  may:w.ownsRow base 225 14 x.vm 1 (cY x.n x.rr x.rv x.rb)
  rr:w.ownsRow base 66 3 x.rr x.n.recs.length (x.n.recs.flatMap aM.cells)
  rv:w.ownsRow base 275 5 x.rv x.n.votes.length (x.n.votes.flatMap aS.cells)
  rb:w.ownsRow base 3 1 x.rb x.n.blocks.length (x.n.blocks.map (Value.int .i64))
  alike:cC x.d x.n
  ok:x.n.ok
  bd:BD t x.d
  vl:x.n.votes.length<=t
  low:∀g,x.all g->base<=g
  sep:∀g,x.rr.ownBlock=Y g->x.vr.ownBlock≠some g
  hblt:x.hb<w.heap.size
section
variable {w w' : World} {base t : Nat} {x : HD}
theorem iS.lt(h:iS w base t x){g:Nat}(hg:x.all g):g<w.heap.size:=by
  rcases hg with rfl|rfl|rfl|rfl|rfl|hg|hg|hg|hg|hg
  · exact h.hblt
  · exact h.kn.lt
  · exact h.nd.blk.lt
  · exact(Array.getElem?_eq_some_iff.1 h.dk.hands.d).1
  · exact(Array.getElem?_eq_some_iff.1 h.dk.hands.h).1
  · exact i9 h.st h.dk hg
  · exact(h.may.lt g hg).2
  · exact(h.rr.lt g hg).2
  · exact(h.rv.lt g hg).2
  · exact(h.rb.lt g hg).2
theorem iS.host(h:iS w base t x)(hs:∀g,x.all g->g≠x.hb->w'.heap[g]?=w.heap[g]?)(hh:aB w' x.hb #[P0 (Y ⟨x.Kn,0,Z⟩),P0 (Y ⟨x.D,0,Z⟩),P0 (Y ⟨x.H,0,Z⟩),x.vm] 144)(hhw:∃cs,aB w x.hb cs 144):cG w' base t x:=by
  obtain⟨cs,hB⟩:=hhw;have ne:∀{B:Nat} {c':Array Value} {ty:TypeId},aB w B c' ty->ty≠144->B≠x.hb:=fun hb hn=>hb.ne hB hn;have nr:∀{b' sz m:Nat} {e:TypeId} {v:Value} {xs:List Value},w.ownsRow b' e sz v m xs->e≠144->∀g,v.ownBlock=Y g->g≠x.hb:=fun ho hn g hg hh=>aW ho hB.blk (Ne.symm hn) (by rw[←hh];exact hg)
  exact⟨hh,h.kn.same (hs _ (.inr (.inl rfl)) (ne h.kn (by decide))),⟨h.nd.blk.same (hs _ (.inr (.inr (.inl rfl))) (ne h.nd.blk (by decide)))⟩,
   ⟨h.st.blk.same (hs _ (.inr (.inr (.inr (.inr (.inr (.inl (.inl rfl))))))) (ne h.st.blk (by decide))),aH h.st.rcs (fun g hg=>hs g (.inr (.inr (.inr (.inr (.inr (.inl (.inr (.inr (.inl hg))))))))) (nr h.st.rcs (by decide) g hg)),h.st.vot.same (hs _ (.inr (.inr (.inr (.inr (.inr (.inl (.inr (.inl rfl)))))))) (h.st.vot.ne hB))⟩,
   ⟨⟨(hs _ (.inr (.inr (.inr (.inl rfl)))) (ne (aB.mk h.dk.hands.d) (by decide))).trans h.dk.hands.d,(hs _ (.inr (.inr (.inr (.inr (.inl rfl))))) (ne (aB.mk h.dk.hands.h) (by decide))).trans h.dk.hands.h⟩,h.dk.ds.kept (hs _ (.inr (.inr (.inr (.inr (.inr (.inl (.inr (.inr (.inr (.inl rfl)))))))))) (ne (aB.mk h.dk.ds.st) (by decide))) (fun g hg=>hs g (.inr (.inr (.inr (.inr (.inr (.inl (.inr (.inr (.inr (.inr hg)))))))))) (nr h.dk.ds.row (by decide) g hg)),h.dk.dS,h.dk.hS,h.dk.one,h.dk.bd⟩,
   aH h.may (fun g hg=>hs g (.inr (.inr (.inr (.inr (.inr (.inr (.inl hg))))))) (nr h.may (by decide) g hg)),
   aH h.rr (fun g hg=>hs g (.inr (.inr (.inr (.inr (.inr (.inr (.inr (.inl hg)))))))) (nr h.rr (by decide) g hg)),
   aH h.rv (fun g hg=>hs g (.inr (.inr (.inr (.inr (.inr (.inr (.inr (.inr (.inl hg))))))))) (nr h.rv (by decide) g hg)),
   aH h.rb (fun g hg=>hs g (.inr (.inr (.inr (.inr (.inr (.inr (.inr (.inr (.inr hg))))))))) (nr h.rb (by decide) g hg)),
   h.alike,h.ok,h.bd,h.vl,h.low,h.sep⟩
theorem iS.off(h:iS w base t x){b' sz m:Nat}{e:TypeId}{v:Value}{xs:List Value}(ho:w.ownsRow b' e sz v m xs)(hne:e≠134/\e≠192/\e≠100/\e≠102/\e≠200/\e≠98/\e≠107/\e≠66/\e≠225/\e≠275/\e≠3){g:Nat}(hg:x.all g)(hh:g≠x.hb):v.ownBlock≠some g:=by
  intro hv;obtain⟨cur,hB⟩:=l8 ho hv;obtain⟨n2,n3,n4,n5,n6,n7,n8,n9,n10,n11,n12⟩:=hne;rcases hg with hg|hg|hg|hg|hg|(hg|hg|hg|hg|hg)|hg|hg|hg|hg
  · exact hh hg
  · exact h.kn.ne hB (Ne.symm n2) hg.symm
  · exact h.nd.blk.ne hB (Ne.symm n3) hg.symm
  · exact(aB.mk h.dk.hands.d).ne hB (Ne.symm n4) hg.symm
  · exact(aB.mk h.dk.hands.h).ne hB (Ne.symm n5) hg.symm
  · exact h.st.blk.ne hB (Ne.symm n6) hg.symm
  · exact h.st.vot.ne hB hg.symm
  · exact aW h.st.rcs hB.blk n9 hg
  · exact(aB.mk h.dk.ds.st).ne hB (Ne.symm n7) hg.symm
  · exact aW h.dk.ds.row hB.blk n8 hg
  · exact aW h.may hB.blk n10 hg
  · exact aW h.rr hB.blk n9 hg
  · exact aW h.rv hB.blk n11 hg
  · exact aW h.rb hB.blk n12 hg
end
theorem cG.pst{w:World}{base t:Nat}{x:HD}(h:cG w base t x):iG w w base t x x.n x.vr x.va x.fs x.d:=
  ⟨h.kn,h.nd,h.st,h.dk.mono (sF (Nat.le_succ t)),h.alike,h.bd.next,fun g hg=>.inl hg,fun g hg=>.inl hg,aK.refl _ _⟩
def HD.re(x:HD)(n':RN)(vr' va':Value)(fs':List FD)(d':SD)(vm' a b c:Value):HD:={x with vr:=vr',va:=va',fs:=fs',d:=d',n:=n',vm:=vm',rr:=a,rv:=b,rb:=c}
theorem iS.of{w w5 wr:World}{base t:Nat}{x:HD}{n':RN}{vr' va':Value}{fs':List FD}{d':SD}{vm' a b c:Value}(hx:cG w base t x)(hP:iG w w5 base t x n' vr' va' fs' d')(hb:Below w5.heap.size w5 wr)(hbase:base<=w.heap.size)(h1:wr.ownsRow w5.heap.size 225 14 vm' 1 (cY n' a b c))(h2:wr.ownsRow w5.heap.size 66 3 a n'.recs.length (n'.recs.flatMap aM.cells))(h3:wr.ownsRow w5.heap.size 275 5 b n'.votes.length (n'.votes.flatMap aS.cells))(h4:wr.ownsRow w5.heap.size 3 1 c n'.blocks.length (n'.blocks.map (Value.int .i64)))(hok:n'.ok)(hvl:n'.votes.length<=t+1):
    iS wr base (t+1) (x.re n' vr' va' fs' d' vm' a b c)/\∀g,(x.re n' vr' va' fs' d' vm' a b c).all g->x.all g∨w.heap.size<=g:=by
  have hs5:=hP.kept.size;have hsr:=hb.size;have hP2:=hP.later hb
  have hall:∀g,(x.re n' vr' va' fs' d' vm' a b c).all g->x.all g∨w.heap.size<=g:=by
    intro g hg;rcases hg with hg|hg|hg|hg|hg|(hg|hg|hg|hg|hg)|hg|hg|hg|hg
    · exact .inl (.inl hg)
    · exact .inl (.inr (.inl hg))
    · exact .inl (.inr (.inr (.inl hg)))
    · exact .inl (.inr (.inr (.inr (.inl hg))))
    · exact .inl (.inr (.inr (.inr (.inr (.inl hg)))))
    · exact .inl (.inr (.inr (.inr (.inr (.inr (.inl (.inl hg)))))))
    · exact .inl (.inr (.inr (.inr (.inr (.inr (.inl (.inr (.inl hg))))))))
    · rcases hP.gr g hg with h9|h9
      · exact .inl (.inr (.inr (.inr (.inr (.inr (.inl (.inr (.inr (.inl h9)))))))))
      · exact .inr h9
    · exact .inl (.inr (.inr (.inr (.inr (.inr (.inl (.inr (.inr (.inr (.inl hg))))))))))
    · rcases hP.ga g hg with h9|h9
      · exact .inl (.inr (.inr (.inr (.inr (.inr (.inl (.inr (.inr (.inr (.inr h9))))))))))
      · exact .inr h9
    · exact .inr (Nat.le_trans hs5 (h1.lt g hg).1)
    · exact .inr (Nat.le_trans hs5 (h2.lt g hg).1)
    · exact .inr (Nat.le_trans hs5 (h3.lt g hg).1)
    · exact .inr (Nat.le_trans hs5 (h4.lt g hg).1)
  have hbl:base<=w5.heap.size:=by omega
  refine⟨⟨hP2.kn,hP2.nd,hP2.st,hP2.dk,cM h1 hbl,cM h2 hbl,cM h3 hbl,cM h4 hbl,hP.alike,hok,hP.bd,hvl,fun g hg=>?_,fun g hg hh=>?_,?_⟩,hall⟩
  · rcases hall g hg with h9|h9
    · exact hx.low g h9
    · omega
  · have h8:=(h2.lt g hg).1
    have h9:=(hP.st.rcs.lt g hh).2;omega
  · have:=hx.host.lt
    show x.hb<_
    omega
theorem yM{base R t:Nat}{w:World}{ao:Option Addr}{c:Nat}{ms:List aU}{vh vs:Value}{hs:List HD}{ss:List (List UInt8)}{v:Nat->Value}{es:Nat->List bU}(hI:cX base R t w ao c ms vh vs hs ss v es)(i:Nat)(hi:i<hs.length)(x:HD)(hxe:x=hs[i])(ht:t<=1100000){w5 wr:World}{n':RN}{vr' va':Value}{fs':List FD}{d':SD}{am:Option Addr}{cm:Nat}{a b c9:Value}{o:Option (Int×List UInt8)}{l:Value}{ps:List dM}(hP:iG w w5 base t x n' vr' va' fs' d')(hD5:lN w5 base x)(hb:Below w5.heap.size w5 wr)(h1:wr.ownsRow w5.heap.size 225 14 (J am 1 cm) 1 (cY n' a b c9))(h2:wr.ownsRow w5.heap.size 66 3 a n'.recs.length (n'.recs.flatMap aM.cells))(h3:wr.ownsRow w5.heap.size 275 5 b n'.votes.length (n'.votes.flatMap aS.cells))(h4:wr.ownsRow w5.heap.size 3 1 c9 n'.blocks.length (n'.blocks.map (Value.int .i64)))(hok:n'.ok)(hvl:n'.votes.length<=t+1)(hpl:ps.length=(cP o).length)(hpr:w5.ownsRow w.heap.size 172 2 l ps.length (ps.flatMap dM.cells))(hpd:∀j (h:j<ps.length) (h':j<(cP o).length),ps[j].dst=(cP o)[j].dst/\bJ w5 w.heap.size ps[j].d (cP o)[j].bs)(hsm:∀d∈cP o,d.bs.length<=300):
    Calls pG 125 #[P0 (Y ⟨R,0,Z⟩),P0 (Y ⟨x.hb,0,Z⟩),J am 1 cm,l] wr fun r w'=>r=.returned (.bool true)/\dB base R (t+1) w'/\bM base R w w':=by
  obtain⟨hlow1,hlow2⟩:=hI.low;have hx:cG w base t x:=by rw[hxe];exact hI.hosts _ (List.getElem_mem hi)
  obtain⟨hB,hall⟩:=iS.of hx hP hb hlow2 h1 h2 h3 h4 hok hvl;obtain⟨x',hx'⟩:∃y,y=x.re n' vr' va' fs' d' (J am 1 cm) a b c9:=⟨_,rfl⟩;rw[←hx']at hB hall;have hhb:x'.hb=x.hb:=by rw[hx'];rfl
  have hvm:x'.vm=J am 1 cm:=by rw[hx'];rfl
  have hKn:x'.Kn=x.Kn:=by rw[hx'];rfl
  have hDD:x'.D=x.D:=by rw[hx'];rfl
  have hHH:x'.H=x.H:=by rw[hx'];rfl
  have hs5:=hP.kept.size;have hsr:=hb.size;have hmem:x'∈hs.set i x':=List.mem_iff_getElem.2 ⟨i,by simpa using hi,by simp⟩;have hblk:∀g,g<w.heap.size->¬x.feet g->wr.heap[g]?=w.heap[g]?:=fun g hg hf=>(hb.block g (by omega)).trans (hP.kept.block g hg hf);have hRf:¬x.feet R:=fun hh=>by have:=hx.low R (HD.feet_all hh);omega
  have hRw:=hblk R (by omega) hRf;have hcell:∀j,wr.cell? ⟨R,j,Z⟩=w.cell? ⟨R,j,Z⟩:=fun j=>World.cell?_of_block (w:=w) (a:=⟨R,j,Z⟩) hRw;have hsr0:=aH hI.srow (fun g hg=>hblk g (hI.srow.lt g hg).2 (hx.offR hI.srow (by decide) (by decide) (by decide) (by decide) (by decide) (by decide) hg));have hlr:=cM (aH hpr (fun g hg=>hb.block g (hpr.lt g hg).2)) hlow2;have hpl1:ps.length<=1:=by rw[hpl];cases o<;>simp[cP]
  have hxl0:((cP o).map eO.bs).length=ps.length:=by rw[List.length_map,hpl]
  have hd:∀j (h:j<ps.length) (h':j<((cP o).map eO.bs).length),bJ wr base ps[j].d ((cP o).map eO.bs)[j]/\((cP o).map eO.bs)[j].length<=1000000:=by
    intro j h h';have h8:j<(cP o).length:=by simpa using h'
    obtain⟨_,h9⟩:=hpd j h h8;rw[List.getElem_map];exact⟨cM (aH h9 (fun g hg=>hb.block g (World.ownsRow.lt h9 g hg).2)) hlow2,by have:=hsm _ (List.getElem_mem h8);omega⟩
  have hldat:∀g,fM ps 0 g->w.heap.size<=g/\g<w5.heap.size:=by
    intro g hg;obtain⟨j,hj,h8⟩:=mX hg;obtain⟨_,h9⟩:=hpd j hj (by omega);exact World.ownsRow.lt h9 g h8
  have hll:∀g,l.ownBlock=Y g->w.heap.size<=g/\g<w5.heap.size:=fun g hg=>hpr.lt g hg;have hxbw:=hx.host.lt
  have hext:∀g,((∃y∈hs.set i x',y.all g)∨vh.ownBlock=Y g)->x'.all g∨(g<w.heap.size/\nG hs vh vs g):=by
    rintro g (⟨y,hy,hg⟩|hg)
    · obtain⟨j,hj,rfl⟩:=List.getElem_of_mem hy
      rcases jV hs i x' j hj with⟨rfl,h3⟩|⟨hne,hjl,h3⟩
      · rw[h3]at hg;exact .inl hg
      · rw[h3]at hg
        exact .inr ⟨(hI.hosts _ (List.getElem_mem hjl)).lt hg,.inl ⟨_,List.getElem_mem hjl,hg⟩⟩
    · exact .inr ⟨(hI.hrow.lt g hg).2,.inr (.inl hg)⟩
  have hextO:∀g,g<w.heap.size->((∃y∈hs.set i x',y.all g)∨vh.ownBlock=Y g)->nG hs vh vs g:=by
    intro g hg hh;rcases hext g hh with h9|h9
    · rcases hall g h9 with h8|h8
      · exact .inl ⟨x,by rw[hxe];exact List.getElem_mem hi,h8⟩
      · omega
    · exact h9.2
  have hLed:cD (fun g=>((∃y∈hs.set i x',y.all g)∨vh.ownBlock=Y g)∨vs.ownBlock=Y g∨l.ownBlock=Y g∨fM ps 0 g) wr base R v es:=by
    refine hI.led.shift (by omega) (fun g hg hne=>hblk g hg (fun hf=>hne (.inl ⟨x,by rw[hxe];exact List.getElem_mem hi,HD.feet_all hf⟩))) ?_;rintro g hg (h9|h9|h9|h9)
    · exact hextO g hg h9
    · exact .inr (.inr h9)
    · have:=hll g h9;omega
    · have:=hldat g h9;omega
  have hH:=hD5.host.later hb
  have hxl:∀g,l.ownBlock=Y g->¬((∃y∈hs.set i x',y.all g)∨vh.ownBlock=Y g):=by
    intro g hg hh;have h8:=hll g hg;rcases hext g hh with h9|h9
    · exact hB.off hlr (by decide) h9 (by rw[hhb];omega) hg
    · omega
  have hxd:∀g,fM ps 0 g->¬((∃y∈hs.set i x',y.all g)∨vh.ownBlock=Y g):=by
    intro g hg hh;have h8:=hldat g hg;obtain⟨j,hj,h7⟩:=mX hg;rcases hext g hh with h9|h9
    · exact hB.off (hd j hj (by omega)).1 (by decide) h9 (by rw[hhb];omega) h7
    · omega
  have hxn:∀g,wr.heap.size<=g->¬((∃y∈hs.set i x',y.all g)∨vh.ownBlock=Y g):=by
    intro g hg hh;rcases hext g hh with h9|h9
    · have:=hB.lt h9;omega
    · omega
  have hexb:(∃y∈hs.set i x',y.all x.hb)∨vh.ownBlock=Y x.hb:=.inl ⟨x',hmem,.inl hhb.symm⟩
  have h300:∀s∈ss++(cP o).map eO.bs,s.length<=300:=by
    intro s hs9;rcases List.mem_append.1 hs9 with h9|h9
    · exact hI.slen s h9
    · obtain⟨y,hy,rfl⟩:=List.mem_map.1 h9
      exact hsm y hy
  have hsl:=hI.sl;refine(AT base R x.hb (P0 (Y ⟨x.Kn,0,Z⟩)) (P0 (Y ⟨x.D,0,Z⟩)) (P0 (Y ⟨x.H,0,Z⟩)) x.vm am cm (fun g=>(∃y∈hs.set i x',y.all g)∨vh.ownBlock=Y g) l ps ((cP o).map eO.bs) vs ss v es wr hH ((hcell 3).trans hI.c3) hsr0 hLed hlr hpl1 hxl0 hd hexb (hx.low _ (.inl rfl)) hxl hxd hxn (fun g hg hh=>hx.off hI.srow (by decide) (.inl rfl) (by rw[←hh];exact hg)) (by omega) (fun k hk=>by have:=hI.el k hk;omega)).mono ?_;rintro r w' ⟨rfl,vst,v',es',t1,t2,t3,t4,t5,t6,t7,t8⟩
  have hxi:cG w' base (t+1) x':=by
    refine hB.host (fun g hg hne=>t7.block g (hB.lt hg) ?_) (by rw[hhb,hKn,hDD,hHH,hvm];exact t6) ⟨_,by rw[hhb];exact hH⟩;rintro(h9|h9|h9|⟨q,hq,h9⟩|h9|h9)
    · have:=hB.low g hg;omega
    · exact hne (by rw[hhb];exact h9)
    · exact hB.off hsr0 (by decide) hg hne h9
    · rcases hall g hg with h8|h8
      · exact hI.led.ex q hq g h9 (.inl ⟨x,by rw[hxe];exact List.getElem_mem hi,h8⟩)
      · have:=(hI.led.low hq h9).2;omega
    · exact hB.off hlr (by decide) hg hne h9
    · obtain⟨j,hj,h7⟩:=mX h9
      exact hB.off (hd j hj (by omega)).1 (by decide) hg hne h7
  have hss:(ss++(cP o).map eO.bs).length<=t+1:=by rw[List.length_append,hxl0];omega
  obtain⟨q1,q2⟩:=hI.next i hi x' (by rw[hhb,hxe]) hxi (fun g hg=>(hall g hg).imp (fun h=>by rw[←hxe];exact h) id) vst (ss++(cP o).map eO.bs) v' es' (fun j hj=>(t8 j hj).trans (hcell j)) t1 t2 h300 t4 (by
    refine⟨t7.os.trans (hb.os.trans hP.kept.os),t7.tape.trans (hb.tape.trans hP.kept.tape),t7.output.trans (hb.output.trans hP.kept.output),Nat.le_trans (Nat.le_trans hs5 hsr) t7.size,fun g hg hA=>(t7.block g (by omega) ?_).trans (hblk g hg (fun hf=>hA (.inr (.inl (by rw[←hxe];exact HD.feet_all hf)))))⟩;rintro(h9|h9|h9|h9|h9|h9)
    · exact hA (.inl h9)
    · exact hA (.inr (.inl (by rw[←hxe];exact .inl h9)))
    · exact hA (.inr (.inr (.inl h9)))
    · exact hA (.inr (.inr (.inr (.inl h9))))
    · have:=hll g h9;omega
    · have:=hldat g h9;omega) hss (fun k hk=>by have:=t5 k hk;have:=hI.el k hk;omega)
  exact⟨rfl,⟨_,_,_,_,_,_,_,_,_,q1⟩,q2⟩
section
set_option maxRecDepth 20000
theorem ER(id nodes nb:Int)(pd:Value)(w:World)(h:eA id nodes nb=false):
  Calls pG 112 #[I T id,I T nodes,I T nb,pd] w fun r w'=>r=.returned (.tuple #[P0 none,I T 1])/\w'=w:=by
 have h0:¬(2<=nodes/\nodes<=5/\0<=id/\id<nodes/\1<=nb/\nb<=4):=by unfold eA at h;simpa using h
 have H:=aA h0;clear h h0
 by_cases c0:nodes<2
 ·have q0:decide (nodes<2)=true:=by simpa using c0
  clear c0;go_enter Tryz.func112,Tryz.ntmps112;go_wp2
  go_ret2
  exact⟨rfl,rfl⟩
 have q0:decide (nodes<2)=false:=by simpa using c0
 have C0:=aA c0;clear c0
 by_cases c1:5<nodes
 ·have q1:decide (5<nodes)=true:=by simpa using c1
  clear c1;go_enter Tryz.func112,Tryz.ntmps112;go_wp2
  go_ret2
  exact⟨rfl,rfl⟩
 have q1:decide (5<nodes)=false:=by simpa using c1
 have C1:=aA c1;clear c1
 by_cases c2:id<0
 ·have q2:decide (id<0)=true:=by simpa using c2
  clear c2;go_enter Tryz.func112,Tryz.ntmps112;go_wp2
  go_ret2
  exact⟨rfl,rfl⟩
 have q2:decide (id<0)=false:=by simpa using c2
 have C2:=aA c2;clear c2
 by_cases c3:nodes<=id
 ·have q3:decide (nodes<=id)=true:=by simpa using c3
  clear c3;go_enter Tryz.func112,Tryz.ntmps112;go_wp2
  go_ret2
  exact⟨rfl,rfl⟩
 have q3:decide (nodes<=id)=false:=by simpa using c3
 have C3:=aA c3;clear c3
 by_cases c4:nb<1
 ·have q4:decide (nb<1)=true:=by simpa using c4
  clear c4;go_enter Tryz.func112,Tryz.ntmps112;go_wp2
  go_ret2
  exact⟨rfl,rfl⟩
 have q4:decide (nb<1)=false:=by simpa using c4
 have C4:=aA c4;clear c4
 by_cases c5:4<nb
 ·have q5:decide (4<nb)=true:=by simpa using c5
  clear c5;go_enter Tryz.func112,Tryz.ntmps112;go_wp2
  go_ret2
  exact⟨rfl,rfl⟩
 have q5:decide (4<nb)=false:=by simpa using c5
 have C5:=aA c5;clear c5;have:=H.out;have:=C0.out;have:=C1.out;have:=C2.out;have:=C3.out;have:=C4.out;have:=C5.out;omega
theorem ES(id nodes nb:Int)(w:World)(h:eA id nodes nb=true):
  Calls pG 112 #[I T id,I T nodes,I T nb,P0 none] w fun r w'=>r=.returned (.tuple #[P0 none,I T 1])/\w'=w:=by
 have h0:2<=nodes/\nodes<=5/\0<=id/\id<nodes/\1<=nb/\nb<=4:=by unfold eA at h;simpa using h
 have q0:decide (nodes<2)=false:=by simp;omega
 have q1:decide (5<nodes)=false:=by simp;omega
 have q2:decide (id<0)=false:=by simp;omega
 have q3:decide (nodes<=id)=false:=by simp;omega
 have q4:decide (nb<1)=false:=by simp;omega
 have q5:decide (4<nb)=false:=by simp;omega
 clear h h0;go_enter Tryz.func112,Tryz.ntmps112;go_wp2
 go_ret2
 exact⟨rfl,rfl⟩
theorem sU(id nodes nb:Int)(pd:Value)(w:World)(h:eA id nodes nb=false∨pd=P0 none):
  Calls pG 66 #[I T id,I T nodes,I T nb,pd] w fun r w'=>r=.returned (.tuple #[P0 none,I T 1])/\w'=w:=by
 have HP:Hid (Calls pG 112 #[I T id,I T nodes,I T nb,pd] w fun r w'=>r=.returned (.tuple #[P0 none,I T 1])/\w'=w):=by
  unfold Hid;cases hh:eA id nodes nb
  ·exact ER id nodes nb pd w hh
  ·rcases h with h|h
   ·rw[hh]at h;simp at h
   ·subst h;exact ES id nodes nb w hh
 clear h;go_enter Tryz.func66,Tryz.ntmps66
 go_wp2_with fail
 refine HP.out.mono ?_;rintro r w2 ⟨rfl,rfl⟩;go_wp2
 go_ret2
 exact⟨rfl,rfl⟩
end
end Go.Proofs.YtdcainmlcpafbaaGreatDoor
