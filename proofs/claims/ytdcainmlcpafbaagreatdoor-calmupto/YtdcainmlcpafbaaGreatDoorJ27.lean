import Derived.Test.YtdcainmlcpafbaaGreatDoorJ20
set_option linter.all false
set_option maxHeartbeats 8000000
set_option maxRecDepth 20000
namespace Go.Proofs.YtdcainmlcpafbaaGreatDoor
open Go.RowKit
open Value renaming slice->J,pointer->P0
open Tryz
open Tryz renaming prog->pG
open IntKind renaming i64->T
open Option renaming none->Z,some->Y
open Obj renaming cells->G
open Value (bool)
def qZ(keep:Int)(f:FD):Nat:=(max 0 (min keep ((f.d.length:Int) - (f.s:Int)))).toNat
def jH(keep:Int)(f:FD):FD:=⟨f.n,f.d.take (f.s+qZ keep f),(f.d.take (f.s+qZ keep f)).length⟩
def P7(d:List UInt8)(s kk:Nat):min ((s:Int)+(kk:Int)).toNat d.length=(d.take (s+kk)).length:=by have a:((s:Int)+(kk:Int)).toNat=s+kk:=oG;rw[a,List.length_take]
def Q5(a keep:Int):(if 0<(if a<keep then a else keep) then(if a<keep then a else keep) else 0)=max 0 (min keep a):=by
 by_cases h:a<keep
 ·rw[if_pos h];by_cases b:0<a;·rw[if_pos b];omega
  ·rw[if_neg b];omega
 ·rw[if_neg h];by_cases b:0<keep;·rw[if_pos b];omega
  ·rw[if_neg b];omega
def K3(M low D H S:Nat)(va:Value)(fs:List FD)(left keep:Int)(L:Nat)(w:World)(hH:fW w D H S)(hd:DS 98 107 M w S va fs left)(hL:fs.length<=L)(hb:∀f∈fs,f.d.length<=L)(br:L<=24000000000)(aB:∀f∈fs,f.s<=f.d.length)(ad:low<=w.1.size):Calls pG 15 #[P0 (Y ⟨H,0,Z⟩),I keep] w λr w'=>∃e,r=.returned (.tuple #[P0 (Y ⟨w.1.size+1,0,Z⟩),P0 (Y ⟨w.1.size+2,0,Z⟩)])/\fW w' (w.1.size+1) (w.1.size+2) w.1.size/\DS 98 107 low w' w.1.size e (fs.map (jH keep)) (-1)/\(∀g,e.ownBlock=some g->w.1.size<=g)/\Bw w w':=by
 obtain⟨i0,ba,aR,be,b6⟩:=info_parts u6;have HH:=dF hH;have HD:=dF hd;have bf:=dF hb;have aJ:=dF aB;clear hH hd hb aB;go_enter func15,ntmps15;go_wp2_with fail;refine(CE w.1.size w).mono ?_;rintro r w1 ⟨rfl,an,ar,E,aM⟩;have al:=dF an;have ak:=dF ar;have b7:=dF E;obtain⟨a,c,a8⟩:=eK HD.row;have a3:w1.ownsRow M 107 3 (J a fs.length c) fs.length (fs.flatMap FD.cells):=by rw[←a8];exact dW HD.row (λg o=>E.block g (HD.row.lt g o).2)
 have bn:=dF a3;have ch:w1.cell? ⟨H,0,Z⟩=Y (P0 (Y ⟨S,0,Z⟩)):=(E.cell (p:=⟨H,0,Z⟩) (Array.getElem?_eq_some_iff.1 HH.h).1).trans (by simp[World.cell?,HH.h]);have cs:w1.cell? ⟨S,0,Z⟩=Y (J a fs.length c):=by have i:=(E.cell (p:=⟨S,0,Z⟩) HD.lt).trans (HD.cell 0);simp at i;rw[a8]at i;exact i
 have bp:=E.size;clear an ar E a3 aM;go_upto_region 3 with fail;clear ch cs;go_loopw [23] (λs23 wr=>∃(t:Nat) (e:Value),t<=fs.length/\s23=I (t:Int)/\DS 98 107 w.1.size wr w.1.size e ((fs.take t).map (jH keep)) (-1)/\fW wr (w.1.size+1) (w.1.size+2) w.1.size/\Bw w wr/\w1.1.size<=wr.1.size) (λs23 wr=>fs.length - (intOf s23).toNat);case atStart=>exact⟨0,_,oG,rfl,al,ak,b7,Nat.le_refl _⟩
 case round=>
  obtain⟨t,e,bl,rfl,aF,aD,aj,aV⟩:=hrel;have N:=dF aF;have X:=dF aD;have a1:=dF aj;clear aF aD aj al ak;by_cases a0:t<fs.length
  ·have aA:wr.ownsRow M 107 3 (J a fs.length c) fs.length (fs.flatMap FD.cells):=by rw[←a8];exact dW HD.row (λg o=>a1.block g (HD.row.lt g o).2)
   obtain⟨g,bt,h1,o,hc⟩:=(fM.ig aA).at oG;cases h1;have a7:wr.rangeAt g (t*3) (FD.cells fs[t]):=by
    intro k u hu;have hk:k<3:=by have:=(List.getElem?_eq_some_iff.1 hu).1;simpa[FD.cells] using this
    rw[hc _ _ (lY FD.cells 3 (λ_=>rfl) fs t a0 k hk)];rw[List.getD_eq_getElem?_getD,hu];rfl
   have bd:=bf.out fs[t] (List.getElem_mem a0);have aX:=aJ.out fs[t] (List.getElem_mem a0);have ac:fs.take (t+1)=fs.take t++[fs[t]]:=List.take_succ_eq_append_getElem a0;obtain⟨f,hf⟩:∃y,fs[t]=y:=⟨_,rfl⟩;rw[hf]at a7 bd aX ac;have aw:Hid (wr.rangeAt g (t*3) [.string (dL f.n),.string (dL f.d),I (f.s:Int)]):=a7;have aL:=dF ac;obtain⟨kk,a4⟩:∃y,qZ keep f=y:=⟨_,rfl⟩;have ab:(kk:Int)=max 0 (min keep ((f.d.length:Int) - (f.s:Int))):=by rw[←a4];unfold qZ;omega
   have aQ:f.s+kk<=f.d.length:=oG;obtain⟨b,W⟩:∃y,f.d.take (f.s+kk)=y:=⟨_,rfl⟩;have aG:jH keep f=⟨f.n,b,b.length⟩:=by unfold jH;rw[a4,W]
   have bj:=dF aG;have aC:(dL f.d).extract 0 ((f.s:Int)+(kk:Int)).toNat=dL b:=by apply ByteArray.ext;have i:((f.s:Int)+(kk:Int)).toNat=f.s+kk:=oG;rw[i,←W];simp[dL,ByteArray.data_extract]
   have U:(dL f.d).size=f.d.length:=rfl;have aZ:(dL b).size=b.length:=rfl;have av:Hid (Bw wr (wr.alloc (G #[.string (dL f.n),.string (dL f.d),I (f.s:Int)] 107))):=a_ _ _;have z:=dF (dI.new wr #[.string (dL f.n),.string (dL f.d),I (f.s:Int)] 107);clear a7 hf ac aG a4 hc aA;go_upto_region 5 with(refine wpList_load_mid rfl 107 _ rfl g (t*3) rfl [.string (dL f.n),.string (dL f.d),I (f.s:Int)] _ aw underlying107 rfl kG ?_);generalize World.alloc _ _=W4 at*;have x1:=z.cell 1;have x2:=z.cell 2;simp at x1 x2;have y1:=z.free 1;have y2:=z.free 2;have aP:wrap64 ((f.d.length:Int) - (f.s:Int))=(f.d.length:Int) - (f.s:Int):=IntWalk.wrap64_in _ oG;have aK:wrap64 ((f.s:Int)+(kk:Int))=(f.s:Int)+(kk:Int):=IntWalk.wrap64_in _ oG;have b9:max 0 (min keep ((f.d.length:Int) - (f.s:Int)))=(kk:Int):=ab.symm;have a9:Hid ((if 0<(if(f.d.length:Int) - (f.s:Int)<keep then(f.d.length:Int) - (f.s:Int) else keep) then(if(f.d.length:Int) - (f.s:Int)<keep then(f.d.length:Int) - (f.s:Int) else keep) else 0)=(kk:Int)):=(Q5 _ _).trans ab.symm;have ae:Hid (min ((f.s:Int)+(kk:Int)).toNat f.d.length=b.length):=W ▸ P7 f.d f.s kk;have aq:=dF aC;go_upto_region 8 with fail;have ay:Hid ((dL f.d).extract 0 ((f.s:Int)+(if 0<(if(f.d.length:Int) - (f.s:Int)<keep then(f.d.length:Int) - (f.s:Int) else keep) then(if(f.d.length:Int) - (f.s:Int)<keep then(f.d.length:Int) - (f.s:Int) else keep) else 0)).toNat=dL b):=by unfold Hid;rw[a9.out];exact aq
   have ap:Hid (min ((f.s:Int)+(if 0<(if(f.d.length:Int) - (f.s:Int)<keep then(f.d.length:Int) - (f.s:Int) else keep) then(if(f.d.length:Int) - (f.s:Int)<keep then(f.d.length:Int) - (f.s:Int) else keep) else 0)).toNat f.d.length=b.length):=by unfold Hid;rw[a9.out];exact ae
   have hX:wr.1.size<W4.1.size:=z.lt;have A:w.1.size<wr.1.size:=N.lt;have V:Hid (dI ((W4.setCell ⟨wr.1.size,1,Z⟩ (.string ((dL f.d).extract 0 ((f.s:Int)+(if 0<(if(f.d.length:Int) - (f.s:Int)<keep then(f.d.length:Int) - (f.s:Int) else keep) then(if(f.d.length:Int) - (f.s:Int)<keep then(f.d.length:Int) - (f.s:Int) else keep) else 0)).toNat))).setCell ⟨wr.1.size,2,Z⟩ (I ((min ((f.s:Int)+(if 0<(if(f.d.length:Int) - (f.s:Int)<keep then(f.d.length:Int) - (f.s:Int) else keep) then(if(f.d.length:Int) - (f.s:Int)<keep then(f.d.length:Int) - (f.s:Int) else keep) else 0)).toNat f.d.length:Nat):Int))) wr.1.size #[.string (dL f.n),.string (dL b),I (b.length:Int)] 107):=by have i:=(z.set 1 (.string ((dL f.d).extract 0 ((f.s:Int)+(if 0<(if(f.d.length:Int) - (f.s:Int)<keep then(f.d.length:Int) - (f.s:Int) else keep) then(if(f.d.length:Int) - (f.s:Int)<keep then(f.d.length:Int) - (f.s:Int) else keep) else 0)).toNat))).set 2 (I ((min ((f.s:Int)+(if 0<(if(f.d.length:Int) - (f.s:Int)<keep then(f.d.length:Int) - (f.s:Int) else keep) then(if(f.d.length:Int) - (f.s:Int)<keep then(f.d.length:Int) - (f.s:Int) else keep) else 0)).toNat f.d.length:Nat):Int));unfold Hid;rw[ay.out,ap.out]at i⊢;simpa using i
   have l:dM wr.1.size W4 ((W4.setCell ⟨wr.1.size,1,Z⟩ (.string ((dL f.d).extract 0 ((f.s:Int)+(if 0<(if(f.d.length:Int) - (f.s:Int)<keep then(f.d.length:Int) - (f.s:Int) else keep) then(if(f.d.length:Int) - (f.s:Int)<keep then(f.d.length:Int) - (f.s:Int) else keep) else 0)).toNat))).setCell ⟨wr.1.size,2,Z⟩ (I ((min ((f.s:Int)+(if 0<(if(f.d.length:Int) - (f.s:Int)<keep then(f.d.length:Int) - (f.s:Int) else keep) then(if(f.d.length:Int) - (f.s:Int)<keep then(f.d.length:Int) - (f.s:Int) else keep) else 0)).toNat f.d.length:Nat):Int))):=((dM.self _ W4).set 1 _).set 2 _;have O:Hid (Bw wr ((W4.setCell ⟨wr.1.size,1,Z⟩ (.string ((dL f.d).extract 0 ((f.s:Int)+(if 0<(if(f.d.length:Int) - (f.s:Int)<keep then(f.d.length:Int) - (f.s:Int) else keep) then(if(f.d.length:Int) - (f.s:Int)<keep then(f.d.length:Int) - (f.s:Int) else keep) else 0)).toNat))).setCell ⟨wr.1.size,2,Z⟩ (I ((min ((f.s:Int)+(if 0<(if(f.d.length:Int) - (f.s:Int)<keep then(f.d.length:Int) - (f.s:Int) else keep) then(if(f.d.length:Int) - (f.s:Int)<keep then(f.d.length:Int) - (f.s:Int) else keep) else 0)).toNat f.d.length:Nat):Int)))):=av.trans (l.below r_);clear l x1 x2 y1 y2 aP aK b9 aC U aZ ab aQ W z ay ap a9 ae aq av aw;generalize World.setCell _ _ _=m at*;have b5:Bw w m:=a1.trans (O.mono a1.size);have C:=dF b5;have bi:DS 98 107 w.1.size m w.1.size e ((fs.take t).map (jH keep)) (-1):=N.later O;have bb:fW m (w.1.size+1) (w.1.size+2) w.1.size:=X.later (O.block _ (Array.getElem?_eq_some_iff.1 X.d).1) (O.block _ (Array.getElem?_eq_some_iff.1 X.h).1);have q:=dF bi;have B:=dF bb;have aT:=O.size;have aU:=V.lt;have ah:=q.lt;have n0:=q.cell 0;simp at n0;have az:m.cell? ⟨w.1.size+2,0,Z⟩=Y (P0 (Y ⟨w.1.size,0,Z⟩)):=by simp[World.cell?,B.h]
   have au:w.1.size+2<m.1.size:=(Array.getElem?_eq_some_iff.1 B.h).1;have bo:(m.alloc (G #[.string (dL f.n),.string (dL b),I (b.length:Int)] 107)).drew.cell? ⟨w.1.size,0,Z⟩=Y e:=(World.cell?_of_block (w:=m) (a:=⟨w.1.size,0,Z⟩) (heap_alloc_old _ _ ah)).trans n0;have ai:m.drew.cell? ⟨w.1.size+2,0,Z⟩=Y (P0 (Y ⟨w.1.size,0,Z⟩))/\dI m.drew wr.1.size #[.string (dL f.n),.string (dL b),I (b.length:Int)] 107:=⟨az,V.drew⟩;have ax:(m.alloc (G #[.string (dL f.n),.string (dL b),I (b.length:Int)] 107)).drew.cell? ⟨w.1.size+2,0,Z⟩=Y (P0 (Y ⟨w.1.size,0,Z⟩))/\dI (m.alloc (G #[.string (dL f.n),.string (dL b),I (b.length:Int)] 107)).drew wr.1.size #[.string (dL f.n),.string (dL b),I (b.length:Int)] 107:=⟨(World.cell?_of_block (w:=m) (a:=⟨w.1.size+2,0,Z⟩) (heap_alloc_old _ _ au)).trans az,V.later (a_ _ _).drew⟩;have U:((fs.take t).map (jH keep)).length=t:=nG;have b1:(m.alloc (G #[.string (dL f.n),.string (dL b),I (b.length:Int)] 107)).drew.ownsRow w.1.size 107 3 e t (((fs.take t).map (jH keep)).flatMap FD.cells):=by have i:=q.row;rw[U]at i;exact dW i (λg o=>heap_alloc_old _ _ (i.lt g o).2)
   have aN:∀j u,[.string (dL f.n),.string (dL b),I (b.length:Int)][j]?=Y u->(m.alloc (G #[.string (dL f.n),.string (dL b),I (b.length:Int)] 107)).drew.cell? ((⟨m.1.size,0,Z⟩:Addr).add j)=Y u:=by intro j u hu;rw[Go.WideShapes.add_plain];refine(World.cell?_alloc_at _ _ _ _ sG).trans ?_;simpa using hu
   have bc:=q.off dG;have HP:Hid (∀v' w3,w3.ownsRow w.1.size 107 3 v' (t+1) (((fs.take t).map (jH keep)).flatMap FD.cells++[.string (dL f.n),.string (dL b),I (b.length:Int)])->(m.alloc (G #[.string (dL f.n),.string (dL b),I (b.length:Int)] 107)).drew.grownBy w3 e.ownBlock->(∃g',v'.ownBlock=Y g'/\(e.ownBlock=Y g'∨(m.alloc (G #[.string (dL f.n),.string (dL b),I (b.length:Int)] 107)).drew.1.size<=g'/\(m.alloc (G #[.string (dL f.n),.string (dL b),I (b.length:Int)] 107)).drew.grownBy w3 none))->
     w3.cell? ⟨w.1.size,0,Z⟩=Y e/\w3.frozen? ⟨w.1.size,0,Z⟩=false/\((w3.cell? ⟨w.1.size+2,0,Z⟩=Y (P0 (Y ⟨w.1.size,0,Z⟩))/\dI w3 wr.1.size #[.string (dL f.n),.string (dL b),I (b.length:Int)] 107)/\((w3.setCell ⟨w.1.size,0,Z⟩ v').cell? ⟨w.1.size+2,0,Z⟩=Y (P0 (Y ⟨w.1.size,0,Z⟩))/\dI (w3.setCell ⟨w.1.size,0,Z⟩ v') wr.1.size #[.string (dL f.n),.string (dL b),I (b.length:Int)] 107))/\Hid (DS 98 107 w.1.size (w3.setCell ⟨w.1.size,0,Z⟩ v') w.1.size v' ((fs.take (t+1)).map (jH keep)) (-1))/\Hid (fW (w3.setCell ⟨w.1.size,0,Z⟩ v') (w.1.size+1) (w.1.size+2) w.1.size)/\Hid (Bw w (w3.setCell ⟨w.1.size,0,Z⟩ v'))/\Hid (w1.1.size<=(w3.setCell ⟨w.1.size,0,Z⟩ v').1.size)):=by
    intro v' w3 ho o hl
    have a6:m.1.size<=(m.alloc (G #[.string (dL f.n),.string (dL b),I (b.length:Int)] 107)).drew.1.size:=by show _<=(World.alloc _ _).1.size;simp
    have R:∀g,g<m.1.size->e.ownBlock≠some g->w3.1[g]?=m.1[g]?:=λg ag aI=>(o.block g (Nat.lt_of_lt_of_le ag a6) (Ne.symm aI)).trans (heap_alloc_old _ _ ag)
    have x:w3.1[w.1.size]?=Y (.cells #[e,I (-1)] 98 (0,0)):=(R _ ah bc).trans q.st
    have aO:e.ownBlock≠some wr.1.size:=λF=>by
     have i:=N.row;have h8:=(i.lt _ F).2;omega
    have b3:e.ownBlock≠some (w.1.size+2):=λF=>by obtain⟨af,i⟩:=fC q.row F;rw[B.h]at i;simp at i
    have b8:e.ownBlock≠some (w.1.size+1):=λF=>by obtain⟨af,i⟩:=fC q.row F;rw[B.d]at i;simp at i
    have a5:w3.1[w.1.size+2]?=_:=(R _ au b3).trans B.h
    have bh:w3.1[w.1.size+1]?=_:=(R _ oG b8).trans B.d
    have aH:dI w3 wr.1.size #[.string (dL f.n),.string (dL b),I (b.length:Int)] 107:=V.same (R _ aU aO)
    have l:=dM.setCell w3 ⟨w.1.size,0,Z⟩ v'
    have aY:dI (w3.setCell ⟨w.1.size,0,Z⟩ v') wr.1.size #[.string (dL f.n),.string (dL b),I (b.length:Int)] 107:=aH.same (l.block _ (by show wr.1.size≠w.1.size;omega))
    have aS:v'.ownBlock≠some w.1.size:=λF=>by obtain⟨af,i⟩:=fC ho F;rw[x]at i;simp at i
    refine⟨by simp[World.cell?,x],by simp[World.frozen?,x],⟨⟨by simp[World.cell?,a5],aH⟩,⟨by have i:=(l.block (w.1.size+2) (by show w.1.size+2≠w.1.size;omega)).trans a5;simp[World.cell?,i],aY⟩⟩,⟨?_,?_⟩,⟨(l.block _ (by show w.1.size+1≠w.1.size;omega)).trans bh,(l.block _ (by show w.1.size+2≠w.1.size;omega)).trans a5⟩,⟨l.os.trans (o.os.trans C.os),l.tape.trans (o.tape.trans C.tape),l.output.trans (o.output.trans C.output),?_,λk hk=>?_⟩,?_⟩
    ·simp[World.setCell,Array.getElem?_modify,x]
    ·rw[aL.out,List.map_append,List.flatMap_append,List.length_append,U]
     have i:=dW ho (w':=w3.setCell ⟨w.1.size,0,Z⟩ v') (λg o=>l.block g (λF=>aS (by have h8:g=w.1.size:=F;rw[←h8];exact o)))
     simpa[bj.out,FD.cells] using i
    ·rw[l.size];exact Nat.le_trans C.size (Nat.le_trans a6 o.size)
    ·refine(l.block k (by show k≠w.1.size;omega)).trans ((R k (by have:=C.size;omega) (λF=>by have:=(q.row.lt k F).1;omega)).trans (C.block k hk))
    ·unfold Hid;rw[l.size];exact Nat.le_trans (Nat.le_trans aV aT) (Nat.le_trans a6 o.size)
   refine eZ (S:=(λw'=>w'.cell? ⟨w.1.size+2,0,Z⟩=Y (P0 (Y ⟨w.1.size,0,Z⟩))/\dI w' wr.1.size #[.string (dL f.n),.string (dL b),I (b.length:Int)] 107)) (λ_=>?_) (hS:=ai);refine dH 0 ?_;refine dH 1 ?_;refine dH 2 ?_;refine dH 3 ?_ (hy:=by intro w A;have i:=A.1;(try simp at i);go_simp;(try with_reducible rfl));refine dH 4 ?_;refine dH 5 ?_;refine dH 6 ?_;refine dH 7 ?_ (hy:=by intro w A;have i:=A.1;(try simp at i);go_simp;(try with_reducible rfl));refine dH 8 ?_;refine dH 9 ?_;refine i4 11 wr.1.size 0 [.string (dL f.n),.string (dL b),I (b.length:Int)] ?_ (λw A=>A.2.range rfl);refine jC [10,12] ?_;refine .cons rfl (λK Q=>?_) ?_;focus
    (try go_simp)
    refine kr Q 12 (λK Q=>?_) ai
   rotate_left;focus
    refine .cons rfl (λK Q=>?_) .nil
    (try go_simp)
    refine kr Q 10 (λK Q=>?_) ax
   all_goals
    (try go_simp)
    refine kr Q 13 (λK Q=>?_) ax
    refine lG rfl (.tmp 58) (.tmp 60) 96 rfl w.1.size 107 i0 (.agg #[.string ⟨#[]⟩,.string ⟨#[]⟩,I 0]) 3 40 underlying96 ba aR be b6 rfl dG e t _ eG b1 ⟨m.1.size,0,Z⟩ 1 1 [.string (dL f.n),.string (dL b),I (b.length:Int)] oG eG rfl aN (by intro u hu;simp at hu;rcases hu with rfl|rfl|rfl<;>rfl) xG oG (by show _<=(World.alloc _ _).1.size;simp;omega) ?_
    intro v9 w9 aa aE a2
    obtain⟨bs,bk,rfl⟩:=eK aa
    obtain⟨bm,bq,x,b0,aW,am,b2⟩:=HP.out _ w9 aa aE a2
    clear aa aE a2
    refine k1 Q (λ_=>?_) x.1;clear Q K;refine dH 14 ?_;refine dH 15 ?_
    refine dT 16 λK Q=>?_
    (try go_simp)
    refine kd Q ?_ x.2
    go_wp2_with fail
    go_roundw
    case rel=>exact⟨t+1,_,oG,rfl,b0,aW,am,b2⟩
    case measure=>simp[intOf];omega
  obtain ao:t=fs.length:=oG;have bg:Hid (DS 98 107 low wr w.1.size e (fs.map (jH keep)) (-1)):=by have i:=N.out;rw[ao,List.take_length]at i;exact⟨i.st,pB i.row ad⟩
  have b4:Hid (∀g,e.ownBlock=some g->w.1.size<=g):=λg o=>(N.row.lt g o).1;clear ao;go_wp2;refine bodyPost_ret (v:=.tuple #[P0 (Y ⟨w.1.size+1,0,Z⟩),P0 (Y ⟨w.1.size+2,0,Z⟩)]) (by simp[results,results15,go_sem]) rfl ?_;exact⟨e,rfl,X,bg,b4,a1⟩
@[reducible] def kA(l:Int)(Nd:Nat):Array Value:=#[Value.int IntKind.i32 l,Value.int IntKind.u32 0,P0 (Y ⟨Nd,0,Z⟩)]
def SI{l:List Value}(h:l.length=2):∃a b,l=[a,b]:=by
 rcases l with _|⟨a,_|⟨b,_|⟨c,l⟩⟩⟩;·cases h
 ·cases h
 ·exact⟨a,b,rfl⟩
 ·simp only[List.length_cons]at h;omega
def Sh:Nat->Value->Prop
 |1,_=>True
 |2,l=>∃a b,l=.tuple #[a,b]
 |_,l=>∃a b c,l=.tuple #[a,b,c]
def oV(hLO:i8)(hUO:i6)(Kn Nd f g c:Nat)(n:List Value)(v:(f,g,c,n.length)∈[(91,143,1,1),(27,62,1,0),(51,85,1,0),(82,129,1,0),(53,86,2,1),(55,87,2,1),(89,141,3,1),(90,142,3,2),(26,61,1,0)])(w:World)(m:dI w Kn (kA 0 Nd) 134)(Q:Value->World->Prop)(t:∀W,dM Kn w W->Calls pG g (P0 (Y ⟨Nd,0,Z⟩)::n).toArray W λr W1=>∃l,r=.returned l/\Sh c l/\(∀cs,dI W Kn cs 134->dI W1 Kn cs 134)/\∀W2,dM Kn W1 W2->dI W2 Kn (kA 0 Nd) 134->Q l W2):Calls pG f (P0 (Y ⟨Kn,0,Z⟩)::n).toArray w λr w'=>∃l,r=.returned l/\Q l w':=by
 have C:=dF t;have q:=m.cell 0;simp at q;have u:=m.free 0;have b:Hid (dI (w.setCell ⟨Kn,0,Z⟩ (.int .i32 1)) Kn (kA 1 Nd) 134):=by have a:=m.set 0 (Value.int IntKind.i32 1);unfold Hid;simpa using a
 clear t m;simp only[List.mem_cons,Prod.mk.injEq,List.not_mem_nil,or_false]at v;rcases v with⟨rfl,rfl,rfl,a⟩|⟨rfl,rfl,rfl,a⟩|⟨rfl,rfl,rfl,a⟩|⟨rfl,rfl,rfl,a⟩|⟨rfl,rfl,rfl,a⟩|⟨rfl,rfl,rfl,a⟩|⟨rfl,rfl,rfl,a⟩|⟨rfl,rfl,rfl,a⟩|⟨rfl,rfl,rfl,a⟩;all_goals
  first|(obtain rfl:=List.length_eq_zero_iff.1 a)|(obtain⟨z,rfl⟩:=List.length_eq_one_iff.1 a)|(obtain⟨z,z2,rfl⟩:=SI a)
  clear a
 go_enter_defers func91,ntmps91;rotate_left;go_enter_defers func27,ntmps27;rotate_left;go_enter_defers func51,ntmps51;rotate_left;go_enter_defers func82,ntmps82;rotate_left;go_enter_defers func53,ntmps53;rotate_left;go_enter_defers func55,ntmps55;rotate_left;go_enter_defers func89,ntmps89;rotate_left;go_enter_defers func90,ntmps90;rotate_left;go_enter_defers func26,ntmps26;rotate_left;all_goals
  go_wp2_with fail
  refine(hLO ⟨Kn,0,Z⟩ w q u).mono ?_
  rintro r w1 ⟨rfl,rfl⟩
  obtain⟨W1,h⟩:∃y,y=w.setCell ⟨Kn,0,Z⟩ (.int .i32 1):=⟨_,rfl⟩
  have o:Hid (dM Kn w W1):=by rw[h];exact dM.setCell w ⟨Kn,0,Z⟩ _
  rw[←h]at b⊢
  clear h q u
  have s:=b.cell 2;have A:=b.cell 0;simp at s A
  go_wp2_with fail
  refine(C.out W1 o).mono ?_
  rintro r w2 ⟨l,rfl,k,j,x⟩
  first|(obtain⟨a1,p,rfl⟩:=k)|(obtain⟨a1,p,a3,rfl⟩:=k)|skip
  have d:=dF (j _ b);have B:=dF x
  clear j x b s A
  go_wp2_with fail
  refine leaves_cons (f:=60) (args:=#[P0 (Y ⟨Kn,0,Z⟩)]) sG (by simp[go_sem]) ?_
  refine(hUO ⟨Kn,0,Z⟩ .returning w2 ?_ ?_).mono ?_
  ·have a:=d.cell 0;simpa using a
  ·exact d.free 0
  rintro e u' w3 ⟨rfl,rfl,rfl⟩
  have a:=d.set 0 (Value.int IntKind.i32 0)
  have D:dI (w2.setCell ⟨Kn,0,Z⟩ (.int .i32 0)) Kn (kA 0 Nd) 134:=by simpa using a
  have i:=B.out _ (dM.setCell w2 ⟨Kn,0,Z⟩ _) D
  first|exact⟨_,results_tmp rfl _ _ _,l,rfl,i⟩|exact⟨_,results_tmp2 rfl _ _ _,.tuple #[a1,p],rfl,i⟩|exact⟨_,results_tmp3 rfl _ _ _,.tuple #[a1,p,a3],rfl,i⟩
def Q6(a:Addr)(w:World):(Op.equalIn 9999 95 (.pointer (some a)) (.pointer none)).run pG w=.ok false w:=by have h:(Tryz.prog.underlying 95).map (λu=>match u with|.pointer _=>true|_=>false)=some true:=kG;obtain⟨u,c,b⟩:=Option.map_eq_some_iff.1 h;cases u<;>simp at b;rw[Op.equalIn];simp[c,go_sem]
@[reducible] def nX(id nodes nb:Int)(St:Nat):NB:={id:=id,nodes:=nodes,nb:=nb,St:=St,down:=false,act:=false,ph:=0,gE:=0,gP:=0,gS:=0,jo:=0,ba:=0,rf:=0,fo:=⟨0,0,0,0,0,0,0,0,0,0⟩,an:=none,on:=0,ow:=⟨0,0,0,0,0,0,0,0,0,0⟩,oa:=none,ops:=0,res:=J Z 0 0}
def TI(w:World)(low D H S:Nat)(va:Value)(id nodes nb:Int)(d:SD)(fs:List FD)(left:Int)(L Nd:Nat)(w':World):Prop:=∃(St Mp:Nat) (C:Nat->Prop),dP w' (⟨low,Nd,Mp,D,H,S⟩:Pl) (nX id nodes nb St) d fs left L C [] [] []/\(∀g,C g->g=D∨g=H∨g=S∨va.ownBlock=some g∨w.1.size<=g)/\Bw w w'
def TJ(w:World)(low D H S:Nat)(va:Value)(id nodes nb:Int)(d:SD)(fs:List FD)(left:Int)(L Nd Kn:Nat)(w':World):Prop:=∃(St Mp:Nat) (C:Nat->Prop),dP w' (⟨low,Nd,Mp,D,H,S⟩:Pl) (nX id nodes nb St) d fs left L C [] [] []/\(∀g,C g->g=D∨g=H∨g=S∨va.ownBlock=some g∨w.1.size<=g)/\(∀g,C g->g<Kn)/\Bw w w'
def OO(low:Nat)(id nodes nb o:Int)(D H S:Nat)(i:Value)(fs:List FD)(left:Int)(L:Nat)(ms:List dN)(b:List UInt8)(w:World)(s:gB w low D H S i fs left L)(N:left≠0)(hL:L<=24000000000)(n:low<=w.1.size)(F:dY w)(hs:(nodes=2/\o=3)∨(nodes=3/\o=7)∨(nodes=4/\o=15)∨(nodes=5/\o=31))(U:0<=id)(W:id<nodes)(a3:1<=nb)(a0:nb<=4)(t:(fQ (dX fs eY)).d=ms.flatMap fE++b)(C:∀m∈ms,iT m)(hj:pV b)(hl:ms.length<=100000000)(B:∀m∈ms,iI m.k m.bl m.zs.length/\e_ m.e)(z:((⟨id,[⟨0,0,o⟩],[],0,0,0,0,0,0,(ms.length:Int),b==[]⟩:SD).play ms).recs.length<=26000000)(v:∀g,g=D∨g=H∨g=S∨i.ownBlock=some g->2<=g):Calls pG 112 #[I id,I nodes,I nb,P0 (Y ⟨D,0,Z⟩)] w λr w'=>∃Nd,r=.returned (.tuple #[P0 (Y ⟨Nd,0,Z⟩),I 0])/\w.1.size<=Nd/\Nd<w'.1.size/\TI w low D H S i id nodes nb ((⟨id,[⟨0,0,o⟩],[],0,0,0,0,0,0,(ms.length:Int),b==[]⟩:SD).play ms) fs left L Nd w':=by
 have q1:decide (nodes<2)=false:=by rcases hs with h|h|h|h<;>simp<;>omega
 have q2:decide (5<nodes)=false:=by rcases hs with h|h|h|h<;>simp<;>omega
 have q3:decide (id<0)=false:=nG;have q4:decide (nodes<=id)=false:=nG;have q5:decide (nb<1)=false:=nG;have q6:decide (4<nb)=false:=nG;have Q:=dF (MR low id nodes o D H S i fs left L ms b w s hL n F hs (by rcases hs with h|h|h|h<;>omega) t C hj hl B z);have O:=dF (G3 low D H S i fs left w s.hands s.ds);have hz:(left==0)=false:=by simpa using N
 have A:=dF s;have V:=dF F;have l:=dF v;have c0:=s.hands.cd;generalize (⟨id,[⟨0,0,o⟩],[],0,0,0,0,0,0,(ms.length:Int),b==[]⟩:SD).play ms=d9 at*;clear s F hs U W a3 a0 t C hj B z v;have a4:=λa w=>Q6 a w;go_enter func112,ntmps112;go_wp2_with fail;refine O.mono ?_;rintro r w0 ⟨rfl,M⟩;obtain rfl:=M.symm;go_wp2_with fail;refine Q.mono ?_;rintro r w2 ⟨St,vr,Mp,rfl,x,a1,a2,y,K⟩;have p:=K.size;have E:=dF x;have HB:=dF K;clear x K;go_wp2;go_ret2;have X:=(Below.refl w2.1.size w2).alloc r_ (G (nX id nodes nb St).arr 192);have j:Bw w (w2.alloc (G (nX id nodes nb St).arr 192)):=HB.alloc p _;have R:gB (w2.alloc (G (nX id nodes nb St).arr 192)) low D H S i fs left L:=A.later j;have a5:=V.two;have q:∀g,g=w2.1.size∨g=D∨g=H∨kW St vr Mp S i g->2<=g/\g<(w2.alloc (G (nX id nodes nb St).arr 192)).1.size:=by
  have h1:(w2.alloc (G (nX id nodes nb St).arr 192)).1.size=w2.1.size+1:=sG;have hD:D<w.1.size:=(Array.getElem?_eq_some_iff.1 A.hands.d).1;have hH:H<w.1.size:=(Array.getElem?_eq_some_iff.1 A.hands.h).1;have hS:=A.ds.lt;rintro g (rfl|rfl|rfl|rfl|rfl|c|rfl|c);·omega
  ·exact⟨l.out _ (.inl rfl),oG⟩
  ·exact⟨l.out _ (.inr (.inl rfl)),oG⟩
  ·have:=E.blk.lt;omega
  ·have:=E.jg.lt;omega
  ·have:=(E.ji.lt g c).2;have:=y g c;omega
  ·exact⟨l.out _ (.inr (.inr (.inl rfl))),oG⟩
  ·have:=(A.ds.row.lt g c).2;exact⟨l.out _ (.inr (.inr (.inr c))),oG⟩
 have u:∀g,¬(nX id nodes nb St).own g:=by
  rintro g (c|c|c);·cases c
  ·cases c
  ·simp[Value.ownBlock]at c
 refine⟨w2.1.size,rfl,p,sG,St,Mp,(λg=>g=w2.1.size∨g=D∨g=H∨kW St vr Mp S i g),⟨⟨(λg=>g=w2.1.size∨g=D∨g=H∨kW St vr Mp S i g),⟨dI.new w2 _ 192,⟨vr,i,E.later X,R,λg f=>.inr (.inr (.inr f))⟩,.inl rfl,.inr (.inl rfl),.inr (.inr (.inl rfl)),?_,?_,?_,V.below j V.two⟩,λg f=>f,λg f=>?_⟩,.inl ⟨rfl,rfl⟩,.inl ⟨rfl,rfl⟩,λg f=>(by cases f),World.ownsRow_nil _ _ _ _,λg f=>?_,?_⟩,?_,j⟩;·exact λg f=>(q g f).1
 ·exact λg f=>(q g f).2
 ·exact Nat.le_trans n j.size
 ·exact absurd f (u g)
 ·exact absurd f (u g)
 ·exact q
 ·rintro g (rfl|rfl|rfl|rfl|rfl|c|rfl|c);·exact .inr (.inr (.inr (.inr p)))
  ·exact .inl rfl
  ·exact .inr (.inl rfl)
  ·exact .inr (.inr (.inr (.inr a1)))
  ·exact .inr (.inr (.inr (.inr a2)))
  ·exact .inr (.inr (.inr (.inr (y g c))))
  ·exact .inr (.inr (.inl rfl))
  ·exact .inr (.inr (.inr (.inl c)))
def M6(low:Nat)(id nodes nb b:Int)(D H S:Nat)(s:Value)(fs:List FD)(left:Int)(L:Nat)(ms:List dN)(a:List UInt8)(w:World)(F:gB w low D H S s fs left L)(x:left≠0)(Q:L<=24000000000)(f:low<=w.1.size)(B:dY w)(hs:(nodes=2/\b=3)∨(nodes=3/\b=7)∨(nodes=4/\b=15)∨(nodes=5/\b=31))(j:0<=id)(c:id<nodes)(o:1<=nb)(n:nb<=4)(h:(fQ (dX fs eY)).d=ms.flatMap fE++a)(q:∀m∈ms,iT m)(M:pV a)(U:ms.length<=100000000)(p:∀m∈ms,iI m.k m.bl m.zs.length/\e_ m.e)(l:((⟨id,[⟨0,0,b⟩],[],0,0,0,0,0,0,(ms.length:Int),a==[]⟩:SD).play ms).recs.length<=26000000)(i:∀g,g=D∨g=H∨g=S∨s.ownBlock=some g->2<=g):Calls pG 66 #[I id,I nodes,I nb,P0 (Y ⟨D,0,Z⟩)] w λr w'=>∃Kn Nd,r=.returned (.tuple #[P0 (Y ⟨Kn,0,Z⟩),I 0])/\dI w' Kn (kA 0 Nd) 134/\w.1.size<=Nd/\Nd<Kn/\TJ w low D H S s id nodes nb ((⟨id,[⟨0,0,b⟩],[],0,0,0,0,0,0,(ms.length:Int),a==[]⟩:SD).play ms) fs left L Nd Kn w':=by have V:=OO low id nodes nb b D H S s fs left L ms a w F x Q f B hs j c o n h q M U p l i;generalize (⟨id,[⟨0,0,b⟩],[],0,0,0,0,0,0,(ms.length:Int),a==[]⟩:SD).play ms=W at*;clear F B hs j c o n h q M p l i;go_enter func66,ntmps66;go_wp2_with fail;refine Calls.mono V ?_;rintro r w2 ⟨Nd,rfl,u,y,St,Mp,C,K,A,t⟩;have z:=t.size;have E:=dF K;have R:=dF A;have O:=dF t;clear K A t;go_wp2;go_ret2;have v:=(Below.refl w2.1.size w2).alloc r_ (G (kA 0 Nd) 134);exact⟨_,Nd,rfl,dI.new w2 _ 134,u,y,⟨St,Mp,C,E.later v,R,λg N=>(E.lt g N).2,O.alloc z _⟩⟩
def eV(c:Int):Int:=if c<0 then -(c+1) else c
def M7{c n:Int}(h:c<0):-(c+1).tmod n=eV c%n:=by
 have e:eV c = -(c+1):=by unfold eV;rw[if_pos h]
 rw[e,←Int.neg_tmod,Int.tmod_eq_emod_of_nonneg oG]
set_option maxHeartbeats 400000 in
def nO(c n:Int)(w:World)(d:0<n)(b:-9223372036854775808<=c)(a:c<=9223372036854775807):Calls pG 22 #[.int .i64 c,.int .i64 n] w λe w'=>e=.returned (.int .i64 (eV c%n))/\w'=w:=by
 by_cases h:c<0;·have H:Hid (-(c+1).tmod n=eV c%n):=M7 h;go_enter func22,ntmps22;go_wp2;go_ret;exact⟨qE H,rfl⟩
 ·have H:Hid (eV c=c):=by unfold Hid eV;rw[if_neg h]
  go_enter func22,ntmps22;go_wp2;go_ret;exact⟨qE (by rw[H.out]),rfl⟩
def ED(e s f u:Int)(w:World):Calls pG 48 #[I e,I s,I f,I u] w λr w'=>r=.returned (.bool (decide (f<e)||((e==f)&&decide (u<s))))/\w'=w:=by
 obtain⟨a,c⟩:∃y,decide (f<e)=y:=⟨_,rfl⟩;obtain⟨d,b⟩:∃y,(e==f)=y:=⟨_,rfl⟩;obtain⟨h,g⟩:∃y,decide (u<s)=y:=⟨_,rfl⟩;rw[c,b,g];cases a<;>cases d<;>cases h;all_goals
  go_enter func48,ntmps48
  go_wp2
  go_ret
  exact⟨rfl,rfl⟩
def rV(s:Int)(n:Nat)(w:World)(hs:0<=s/\s<=31)(c:n<64):Calls pG 23 #[I s,I (n:Int)] w λr w'=>r=.returned (.bool (eU s n))/\w'=w:=by have b:=yQ hs n;have a:min n 64=n:=oG;go_enter func23,ntmps23;go_wp2;go_ret;exact⟨rfl,rfl⟩
def iF(a b:Int):Nat->Int
 |0=>0
 |t+1=>bif eU b t&&!eU a t then iF a b t+1 else iF a b t
def yU(a b:Int):∀t,0<=iF a b t/\iF a b t<=t
 |0=>by simp[iF]
 |t+1=>by have:=yU a b t;unfold iF;cases(eU b t&&!eU a t)<;>simp<;>omega
def M8(c e b f g a:Int)(w:World)(ha:0<=b/\b<=31)(L:0<=a/\a<=31)(hE:0<=c/\c<=10000000000000)(hP:1<=g/\g<=5):Calls pG 84 #[.agg #[I c,I e,I b],.agg #[I f,I g,I a]] w λr w'=>r=.returned (.bool (eU a (g - 1).toNat&&((f==c+1)&&((iF b a 5==0)||((iF b a 5==1)&&((iF a b 5==0)&&(e==g)))))))/\Bw w w':=by
 obtain⟨n,hn⟩:∃n:Nat,g=(n:Int)+1:=⟨(g - 1).toNat,oG⟩;subst hn;have l:((n:Int)+1 - 1).toNat=n:=oG;rw[l];clear l;obtain⟨c1,H⟩:∃y,eU a n=y:=⟨_,rfl⟩;obtain⟨c2,m⟩:∃y,(f==c+1)=y:=⟨_,rfl⟩;obtain⟨c3,p⟩:∃y,(iF b a 5==0)=y:=⟨_,rfl⟩;obtain⟨c4,o⟩:∃y,(iF b a 5==1)=y:=⟨_,rfl⟩;obtain⟨c5,q⟩:∃y,(iF a b 5==0)=y:=⟨_,rfl⟩;obtain⟨c6,s⟩:∃y,(e==(n:Int)+1)=y:=⟨_,rfl⟩;rw[H,m,p,o,q,s];have D:=dF H;have H2:=dF m;have U:=dF p;have V:=dF o;have S:=dF q;have N:=dF s;clear H m p o q s;have k:=((Below.refl w.1.size w).alloc r_ (G #[I c,I e,I b] 66)).alloc sG (G #[I f,I ((n:Int)+1),I a] 66);have v:Hid (dI ((w.alloc (G #[I c,I e,I b] 66)).alloc (G #[I f,I ((n:Int)+1),I a] 66)) w.1.size #[I c,I e,I b] 66):=(dI.new _ _ _).old _;have h:Hid (dI ((w.alloc (G #[I c,I e,I b] 66)).alloc (G #[I f,I ((n:Int)+1),I a] 66)) (w.1.size+1) #[I f,I ((n:Int)+1),I a] 66):=by have h9:=dI.new (w.alloc (G #[I c,I e,I b] 66)) #[I f,I ((n:Int)+1),I a] 66;unfold Hid;simpa using h9
 have F:=dF k;clear k;have Q:Hid (∀t,iF b a (t+1)=bif eU a t&&!eU b t then iF b a t+1 else iF b a t):=λt=>rfl;have HL:Hid (∀t,iF a b (t+1)=bif eU b t&&!eU a t then iF a b t+1 else iF a b t):=λt=>rfl;have u:=dF (yU b a);have E:=dF (yU a b);have B:Hid (iF b a 0=0):=rfl;have A:Hid (iF a b 0=0):=rfl;generalize iF b a=K at*;generalize iF a b=lf at*;go_enter func84,ntmps84;go_upto_region 4 with fail;generalize (World.alloc (World.alloc _ _) _)=O at*;have a2:=v.cell 2;have b2:=h.cell 2;simp at a2 b2;go_loopw [5,6,7] (λs5 s6 s7 wr=>∃t:Nat,t<=5/\s7=I (t:Int)/\s5=I (K t)/\s6=I (lf t)/\wr=O) (λs5 s6 s7 wr=>5 - (intOf s7).toNat);case atStart=>exact⟨0,oG,rfl,by rw[B.out],by rw[A.out],rfl⟩
 case round=>
  obtain⟨t,X,rfl,rfl,rfl,rfl⟩:=hrel;have a7:=u.out t;have a4:=E.out t;by_cases a6:t<5
  ·obtain⟨x,C⟩:∃y,eU b t=y:=⟨_,rfl⟩;obtain⟨y,hy⟩:∃z,eU a t=z:=⟨_,rfl⟩;have HX:=dF C;have HY:=dF hy;have i:=dF (Q.out t);have j:=dF (HL.out t);rw[C,hy]at i j;have a5:decide ((t:Int)<5)=true:=nG;clear C hy;go_wp2_with fail;refine(rV b t _ ha oG).mono ?_;rintro r w1 ⟨rfl,d⟩;obtain rfl:=d.symm;rw[HX.out];go_wp2_with fail;refine(rV a t _ L oG).mono ?_;rintro r w1 ⟨rfl,d⟩;obtain rfl:=d.symm;rw[HY.out];cases x<;>cases y;all_goals
    go_wp2_with fail
    go_roundw
    case rel=>exact⟨t+1,oG,rfl,by rw[i.out];rfl,by rw[j.out];rfl,by trivial⟩
    case measure=>simp[intOf];omega
  obtain rfl:t=5:=oG;have q1:decide ((n:Int)+1<1)=false:=nG;have q2:decide (5<(n:Int)+1)=false:=nG;have b1:=h.cell 1;have W:=h.cell 0;have a0:=v.cell 0;have a1:=v.cell 1;simp at b1 W a0 a1;have a3:wrap64 ((n:Int)+1 - 1)=(n:Int):=by rw[IntWalk.wrap64_in _ oG];omega
  have R:wrap64 (c+1)=c+1:=IntWalk.wrap64_in _ oG;have m:=H2.out;have p:=U.out;have o:=V.out;have q:=S.out;have s:=N.out;generalize K 5=M at*;generalize lf 5=LF at*;go_wp2_with fail;refine(rV a n _ L oG).mono ?_;rintro r w1 ⟨rfl,d⟩;obtain rfl:=d.symm;rw[D.out];cases c1<;>cases c2<;>cases c3<;>cases c4<;>cases c5<;>cases c6;all_goals
   go_wp2
   go_ret
   exact⟨rfl,by first|exact F|exact F.drew|exact below_drewN F _⟩
def pW(p:Int×Int)(r:dO):Int×Int:=bif decide (p.1<r.e)||((r.e==p.1)&&decide (p.2<r.q)) then(r.e,r.q) else p
def kU(rs:List dO):Int×Int:=rs.foldl pW (-1,0)
def zQ(r:dO):r.cells.length=5:=rfl
def Q7(Wc:Nat)(a:Option Addr)(c:Nat)(rs:List dO)(w:World)(F:w.cell? ⟨Wc,7,Z⟩=Y (J a rs.length c))(O:Wc<w.1.size)(m:fM w (J a rs.length c) rs.length (rs.flatMap dO.cells))(hl:rs.length<=2000000000):Calls pG 88 #[P0 (Y ⟨Wc,0,Z⟩)] w λr w'=>r=.returned (.tuple #[I (kU rs).1,I (kU rs).2])/\Bw w w':=by
 have V:=dF m;have U:=dF F;clear m F;go_enter func88,ntmps88;go_upto_region 4 with fail;go_loopw [4,5,6] (λs4 s5 s6 wr=>∃t:Nat,t<=rs.length/\s6=I (t:Int)/\s4=I (kU (rs.take t)).1/\s5=I (kU (rs.take t)).2/\Bw w wr) (λs4 s5 s6 wr=>rs.length - (intOf s6).toNat);case atStart=>exact⟨0,oG,rfl,rfl,rfl,Below.refl _ _⟩
 case round=>
  obtain⟨t,Q,rfl,rfl,rfl,d⟩:=hrel;have D:=dF d;have cw:wr.cell? ⟨Wc,7,Z⟩=Y (J a rs.length c):=(d.cell (p:=⟨Wc,7,Z⟩) O).trans U;have x:=d.size;by_cases i:t<rs.length
  ·obtain⟨g,S,R,M,j⟩:=V.at oG;cases R;have h:wr.rangeAt g (t*5) (dO.cells rs[t]):=by
    intro k u E;have N:k<5:=by have:=(List.getElem?_eq_some_iff.1 E).1;simpa[dO.cells] using this
    rw[d.cell (p:=⟨g,t*5+k,Z⟩) M,j _ _ (lY dO.cells 5 zQ rs t i k N)];rw[List.getD_eq_getElem?_getD,E];rfl
   have f:kU (rs.take (t+1))=pW (kU (rs.take t)) rs[t]:=by rw[List.take_succ_eq_append_getElem i];unfold kU;rw[List.foldl_append];rfl
   obtain⟨r,m⟩:∃y,rs[t]=y:=⟨_,rfl⟩;rw[m]at h f;have n:Hid (wr.rangeAt g (t*5) [I r.op,I r.bl,I r.v,I r.e,I r.q]):=h;generalize kU (rs.take t)=p at*;obtain⟨b,o⟩:∃y,(decide (p.1<r.e)||((r.e==p.1)&&decide (p.2<r.q)))=y:=⟨_,rfl⟩;have l:Hid (kU (rs.take (t+1))=bif b then(r.e,r.q) else p):=by unfold Hid;rw[f];unfold pW;rw[o]
   have B:=dF o;have H:=dF (dI.new wr #[I r.op,I r.bl,I r.v,I r.e,I r.q] 76);have A:Hid (Bw w (wr.alloc (G #[I r.op,I r.bl,I r.v,I r.e,I r.q] 76))):=d.alloc x _;clear h f m o d j;go_upto_region 7 with(refine wpList_load_mid rfl 76 _ rfl g (t*5) rfl [I r.op,I r.bl,I r.v,I r.e,I r.q] _ n underlying76 rfl kG ?_);generalize World.alloc _ _=W5 at*;have L:=H.cell 3;have K:=H.cell 4;simp at L K;obtain⟨W,p2⟩:=p;go_wp2_with fail;refine(ED r.e r.q W p2 W5).mono ?_;rintro r9 w6 ⟨rfl,s⟩;obtain rfl:=s.symm;have C:=B.out;(try dsimp only at C);rw[C];clear C;cases b;all_goals
    go_wp2_with fail
    go_roundw
    case rel=>exact⟨t+1,oG,rfl,by rw[l.out];rfl,by rw[l.out];rfl,A⟩
    case measure=>simp[intOf];omega
  obtain z:rs.take t=rs:=List.take_of_length_le oG;rw[z];have X:decide ((t:Int)<(rs.length:Int))=false:=nG;clear d;go_wp2;go_ret2;exact⟨rfl,D⟩
end Go.Proofs.YtdcainmlcpafbaaGreatDoor
