import Derived.Test.YtdcainmlcpafbaaGreatDoorJ24
set_option linter.all false
set_option maxHeartbeats 8000000
set_option maxRecDepth 20000
namespace Go.Proofs.YtdcainmlcpafbaaGreatDoor
open Go.RowKit
open Value renaming slice->J,pointer->P0
open Tryz
open Tryz renaming prog->pG
open IntKind renaming i64->T
open Option renaming none->Z,some->Y
open Obj renaming cells->G
open Value (bool)
def qN(keep:Int)(f:FD):Nat:=(max 0 (min keep ((f.d.length:Int) - (f.s:Int)))).toNat
def jD(keep:Int)(f:FD):FD:=⟨f.n,f.d.take (f.s+qN keep f),(f.d.take (f.s+qN keep f)).length⟩
def N7(d:List UInt8)(s a:Nat):min ((s:Int)+(a:Int)).toNat d.length=(d.take (s+a)).length:=by have b:((s:Int)+(a:Int)).toNat=s+a:=oG;rw[b,List.length_take]
def O4(a keep:Int):(if 0<(if a<keep then a else keep) then(if a<keep then a else keep) else 0)=max 0 (min keep a):=by
 by_cases h:a<keep
 ·rw[if_pos h];by_cases b:0<a;·rw[if_pos b];omega
  ·rw[if_neg b];omega
 ·rw[if_neg h];by_cases b:0<keep;·rw[if_pos b];omega
  ·rw[if_neg b];omega
def JX(U low D H S:Nat)(va:Value)(fs:List FD)(left keep:Int)(L:Nat)(w:World)(hH:fQ w D H S)(hd:DS 98 107 U w S va fs left)(hL:fs.length<=L)(hb:∀f∈fs,f.d.length<=L)(bt:L<=1200000000)(aM:∀f∈fs,f.s<=f.d.length)(ak:low<=w.heap.size):Calls pG 15 #[P0 (Y ⟨H,0,Z⟩),I keep] w λr w'=>∃e,r=.returned (.tuple #[P0 (Y ⟨w.heap.size+1,0,Z⟩),P0 (Y ⟨w.heap.size+2,0,Z⟩)])/\fQ w' (w.heap.size+1) (w.heap.size+2) w.heap.size/\DS 98 107 low w' w.heap.size e (fs.map (jD keep)) (-1)/\(∀g,e.ownBlock=some g->w.heap.size<=g)/\Below w.heap.size w w':=by
 obtain⟨i0,aG,aq,aJ,aB⟩:=info_parts uL;have HH:=dA hH;have HD:=dA hd;have bk:=dA hb;have aU:=dA aM;clear hH hd hb aM;go_enter func15,ntmps15;go_wp2_with fail;refine(BD w.heap.size w).mono ?_;rintro r w1 ⟨rfl,ay,aD,N,aX⟩;have aw:=dA ay;have av:=dA aD;have bc:=dA N;obtain⟨a,c,af⟩:=dZ HD.row;have a7:w1.ownsRow U 107 3 (J a fs.length c) fs.length (fs.flatMap FD.cells):=by rw[←af];exact dQ HD.row (λg x=>N.block g (HD.row.lt g x).2)
 have bq:=dA a7;have ch:w1.cell? ⟨H,0,Z⟩=Y (P0 (Y ⟨S,0,Z⟩)):=(N.cell (p:=⟨H,0,Z⟩) (Array.getElem?_eq_some_iff.1 HH.h).1).trans (by simp[World.cell?,HH.h]);have cs:w1.cell? ⟨S,0,Z⟩=Y (J a fs.length c):=by have i:=(N.cell (p:=⟨S,0,Z⟩) HD.lt).trans (HD.cell 0);simp at i;rw[af]at i;exact i
 have bs:=N.size;clear ay aD N a7 aX;go_upto_region 3 with fail;clear ch cs;go_loopw [23] (λs23 wr=>∃(t:Nat) (e:Value),t<=fs.length/\s23=I (t:Int)/\DS 98 107 w.heap.size wr w.heap.size e ((fs.take t).map (jD keep)) (-1)/\fQ wr (w.heap.size+1) (w.heap.size+2) w.heap.size/\Below w.heap.size w wr/\w1.heap.size<=wr.heap.size) (λs23 wr=>fs.length - (intOf s23).toNat);case atStart=>exact⟨0,_,oG,rfl,aw,av,bc,Nat.le_refl _⟩
 case round=>
  obtain⟨t,e,bp,rfl,aP,aO,au,b4⟩:=hrel;have V:=dA aP;have a4:=dA aO;have a6:=dA au;clear aP aO au aw av;by_cases a5:t<fs.length
  ·have aL:wr.ownsRow U 107 3 (J a fs.length c) fs.length (fs.flatMap FD.cells):=by rw[←af];exact dQ HD.row (λg x=>a6.block g (HD.row.lt g x).2)
   obtain⟨g,bu,h1,x,hc⟩:=(eL.gy aL).at oG;cases h1;have ad:wr.rangeAt g (t*3) (FD.cells fs[t]):=by
    intro k u hu;have hk:k<3:=by have:=(List.getElem?_eq_some_iff.1 hu).1;simpa[FD.cells] using this
    rw[hc _ _ (kE FD.cells 3 (λ_=>rfl) fs t a5 k hk)];rw[List.getD_eq_getElem?_getD,hu];rfl
   have bi:=bk.out fs[t] (List.getElem_mem a5);have b6:=aU.out fs[t] (List.getElem_mem a5);have aj:fs.take (t+1)=fs.take t++[fs[t]]:=List.take_succ_eq_append_getElem a5;obtain⟨f,hf⟩:∃y,fs[t]=y:=⟨_,rfl⟩;rw[hf]at ad bi b6 aj;have aH:Hid (wr.rangeAt g (t*3) [.string (dE f.n),.string (dE f.d),I (f.s:Int)]):=ad;have aW:=dA aj;obtain⟨O,a8⟩:∃y,qN keep f=y:=⟨_,rfl⟩;have ai:(O:Int)=max 0 (min keep ((f.d.length:Int) - (f.s:Int))):=by rw[←a8];unfold qN;omega
   have b0:f.s+O<=f.d.length:=oG;obtain⟨b,a3⟩:∃y,f.d.take (f.s+O)=y:=⟨_,rfl⟩;have aQ:jD keep f=⟨f.n,b,b.length⟩:=by unfold jD;rw[a8,a3]
   have bo:=dA aQ;have aN:(dE f.d).extract 0 ((f.s:Int)+(O:Int)).toNat=dE b:=by apply ByteArray.ext;have i:((f.s:Int)+(O:Int)).toNat=f.s+O:=oG;rw[i,←a3];simp[dE,ByteArray.data_extract]
   have a1:(dE f.d).size=f.d.length:=rfl;have b8:(dE b).size=b.length:=rfl;have aF:Hid (Below wr.heap.size wr (wr.alloc (G #[.string (dE f.n),.string (dE f.d),I (f.s:Int)] 107))):=a_ _ _;have B:=dA (dC.new wr #[.string (dE f.n),.string (dE f.d),I (f.s:Int)] 107);clear ad hf aj aQ a8 hc aL;go_upto_region 5 with(refine wpList_load_mid rfl 107 _ rfl g (t*3) rfl [.string (dE f.n),.string (dE f.d),I (f.s:Int)] _ aH underlying107 rfl kG ?_);generalize World.alloc _ _=W4 at*;have x1:=B.cell 1;have x2:=B.cell 2;simp at x1 x2;have y1:=B.free 1;have y2:=B.free 2;have aZ:wrap64 ((f.d.length:Int) - (f.s:Int))=(f.d.length:Int) - (f.s:Int):=IntWalk.wrap64_in _ oG;have aV:wrap64 ((f.s:Int)+(O:Int))=(f.s:Int)+(O:Int):=IntWalk.wrap64_in _ oG;have be:max 0 (min keep ((f.d.length:Int) - (f.s:Int)))=(O:Int):=ai.symm;have ag:Hid ((if 0<(if(f.d.length:Int) - (f.s:Int)<keep then(f.d.length:Int) - (f.s:Int) else keep) then(if(f.d.length:Int) - (f.s:Int)<keep then(f.d.length:Int) - (f.s:Int) else keep) else 0)=(O:Int)):=(O4 _ _).trans ai.symm;have al:Hid (min ((f.s:Int)+(O:Int)).toNat f.d.length=b.length):=a3 ▸ N7 f.d f.s O;have aC:=dA aN;go_upto_region 8 with fail;have aI:Hid ((dE f.d).extract 0 ((f.s:Int)+(if 0<(if(f.d.length:Int) - (f.s:Int)<keep then(f.d.length:Int) - (f.s:Int) else keep) then(if(f.d.length:Int) - (f.s:Int)<keep then(f.d.length:Int) - (f.s:Int) else keep) else 0)).toNat=dE b):=by unfold Hid;rw[ag.out];exact aC
   have aA:Hid (min ((f.s:Int)+(if 0<(if(f.d.length:Int) - (f.s:Int)<keep then(f.d.length:Int) - (f.s:Int) else keep) then(if(f.d.length:Int) - (f.s:Int)<keep then(f.d.length:Int) - (f.s:Int) else keep) else 0)).toNat f.d.length=b.length):=by unfold Hid;rw[ag.out];exact al
   have hX:wr.heap.size<W4.heap.size:=B.lt;have E:w.heap.size<wr.heap.size:=V.lt;have a2:Hid (dC ((W4.setCell ⟨wr.heap.size,1,Z⟩ (.string ((dE f.d).extract 0 ((f.s:Int)+(if 0<(if(f.d.length:Int) - (f.s:Int)<keep then(f.d.length:Int) - (f.s:Int) else keep) then(if(f.d.length:Int) - (f.s:Int)<keep then(f.d.length:Int) - (f.s:Int) else keep) else 0)).toNat))).setCell ⟨wr.heap.size,2,Z⟩ (I ((min ((f.s:Int)+(if 0<(if(f.d.length:Int) - (f.s:Int)<keep then(f.d.length:Int) - (f.s:Int) else keep) then(if(f.d.length:Int) - (f.s:Int)<keep then(f.d.length:Int) - (f.s:Int) else keep) else 0)).toNat f.d.length:Nat):Int))) wr.heap.size #[.string (dE f.n),.string (dE b),I (b.length:Int)] 107):=by have i:=(B.set 1 (.string ((dE f.d).extract 0 ((f.s:Int)+(if 0<(if(f.d.length:Int) - (f.s:Int)<keep then(f.d.length:Int) - (f.s:Int) else keep) then(if(f.d.length:Int) - (f.s:Int)<keep then(f.d.length:Int) - (f.s:Int) else keep) else 0)).toNat))).set 2 (I ((min ((f.s:Int)+(if 0<(if(f.d.length:Int) - (f.s:Int)<keep then(f.d.length:Int) - (f.s:Int) else keep) then(if(f.d.length:Int) - (f.s:Int)<keep then(f.d.length:Int) - (f.s:Int) else keep) else 0)).toNat f.d.length:Nat):Int));unfold Hid;rw[aI.out,aA.out]at i⊢;simpa using i
   have l:dI wr.heap.size W4 ((W4.setCell ⟨wr.heap.size,1,Z⟩ (.string ((dE f.d).extract 0 ((f.s:Int)+(if 0<(if(f.d.length:Int) - (f.s:Int)<keep then(f.d.length:Int) - (f.s:Int) else keep) then(if(f.d.length:Int) - (f.s:Int)<keep then(f.d.length:Int) - (f.s:Int) else keep) else 0)).toNat))).setCell ⟨wr.heap.size,2,Z⟩ (I ((min ((f.s:Int)+(if 0<(if(f.d.length:Int) - (f.s:Int)<keep then(f.d.length:Int) - (f.s:Int) else keep) then(if(f.d.length:Int) - (f.s:Int)<keep then(f.d.length:Int) - (f.s:Int) else keep) else 0)).toNat f.d.length:Nat):Int))):=((dI.self _ W4).set 1 _).set 2 _;have W:Hid (Below wr.heap.size wr ((W4.setCell ⟨wr.heap.size,1,Z⟩ (.string ((dE f.d).extract 0 ((f.s:Int)+(if 0<(if(f.d.length:Int) - (f.s:Int)<keep then(f.d.length:Int) - (f.s:Int) else keep) then(if(f.d.length:Int) - (f.s:Int)<keep then(f.d.length:Int) - (f.s:Int) else keep) else 0)).toNat))).setCell ⟨wr.heap.size,2,Z⟩ (I ((min ((f.s:Int)+(if 0<(if(f.d.length:Int) - (f.s:Int)<keep then(f.d.length:Int) - (f.s:Int) else keep) then(if(f.d.length:Int) - (f.s:Int)<keep then(f.d.length:Int) - (f.s:Int) else keep) else 0)).toNat f.d.length:Nat):Int)))):=aF.trans (l.below r_);clear l x1 x2 y1 y2 aZ aV be aN a1 b8 ai b0 a3 B aI aA ag al aC aF aH;generalize World.setCell _ _ _=m at*;have bb:Below w.heap.size w m:=a6.trans (W.mono a6.size);have M:=dA bb;have bn:DS 98 107 w.heap.size m w.heap.size e ((fs.take t).map (jD keep)) (-1):=V.later W;have bf:fQ m (w.heap.size+1) (w.heap.size+2) w.heap.size:=a4.later (W.block _ (Array.getElem?_eq_some_iff.1 a4.d).1) (W.block _ (Array.getElem?_eq_some_iff.1 a4.h).1);have A:=dA bn;have F:=dA bf;have b2:=W.size;have b3:=a2.lt;have ap:=A.lt;have n0:=A.cell 0;simp at n0;have aK:m.cell? ⟨w.heap.size+2,0,Z⟩=Y (P0 (Y ⟨w.heap.size,0,Z⟩)):=by simp[World.cell?,F.h]
   have aE:w.heap.size+2<m.heap.size:=(Array.getElem?_eq_some_iff.1 F.h).1;have br:(m.alloc (G #[.string (dE f.n),.string (dE b),I (b.length:Int)] 107)).drew.cell? ⟨w.heap.size,0,Z⟩=Y e:=(World.cell?_of_block (w:=m) (a:=⟨w.heap.size,0,Z⟩) (heap_alloc_old _ _ ap)).trans n0;have ar:m.drew.cell? ⟨w.heap.size+2,0,Z⟩=Y (P0 (Y ⟨w.heap.size,0,Z⟩))/\dC m.drew wr.heap.size #[.string (dE f.n),.string (dE b),I (b.length:Int)] 107:=⟨aK,a2.drew⟩;have ah:(m.alloc (G #[.string (dE f.n),.string (dE b),I (b.length:Int)] 107)).drew.cell? ⟨w.heap.size+2,0,Z⟩=Y (P0 (Y ⟨w.heap.size,0,Z⟩))/\dC (m.alloc (G #[.string (dE f.n),.string (dE b),I (b.length:Int)] 107)).drew wr.heap.size #[.string (dE f.n),.string (dE b),I (b.length:Int)] 107:=⟨(World.cell?_of_block (w:=m) (a:=⟨w.heap.size+2,0,Z⟩) (heap_alloc_old _ _ aE)).trans aK,a2.later (a_ _ _).drew⟩;have a1:((fs.take t).map (jD keep)).length=t:=by simp;omega
   have ax:(m.alloc (G #[.string (dE f.n),.string (dE b),I (b.length:Int)] 107)).drew.ownsRow w.heap.size 107 3 e t (((fs.take t).map (jD keep)).flatMap FD.cells):=by have i:=A.row;rw[a1]at i;exact dQ i (λg x=>heap_alloc_old _ _ (i.lt g x).2)
   have an:∀j u,[.string (dE f.n),.string (dE b),I (b.length:Int)][j]?=Y u->(m.alloc (G #[.string (dE f.n),.string (dE b),I (b.length:Int)] 107)).drew.cell? ((⟨m.heap.size,0,Z⟩:Addr).add j)=Y u:=by intro j u hu;rw[Go.WideShapes.add_plain];refine(World.cell?_alloc_at _ _ _ _ sG).trans ?_;simpa using hu
   have bh:=A.off dG;have HP:Hid (∀v' w3,w3.ownsRow w.heap.size 107 3 v' (t+1) (((fs.take t).map (jD keep)).flatMap FD.cells++[.string (dE f.n),.string (dE b),I (b.length:Int)])->(m.alloc (G #[.string (dE f.n),.string (dE b),I (b.length:Int)] 107)).drew.grownBy w3 e.ownBlock->(∃g',v'.ownBlock=Y g'/\(e.ownBlock=Y g'∨(m.alloc (G #[.string (dE f.n),.string (dE b),I (b.length:Int)] 107)).drew.heap.size<=g'/\(m.alloc (G #[.string (dE f.n),.string (dE b),I (b.length:Int)] 107)).drew.grownBy w3 none))->
     w3.cell? ⟨w.heap.size,0,Z⟩=Y e/\w3.frozen? ⟨w.heap.size,0,Z⟩=false/\((w3.cell? ⟨w.heap.size+2,0,Z⟩=Y (P0 (Y ⟨w.heap.size,0,Z⟩))/\dC w3 wr.heap.size #[.string (dE f.n),.string (dE b),I (b.length:Int)] 107)/\((w3.setCell ⟨w.heap.size,0,Z⟩ v').cell? ⟨w.heap.size+2,0,Z⟩=Y (P0 (Y ⟨w.heap.size,0,Z⟩))/\dC (w3.setCell ⟨w.heap.size,0,Z⟩ v') wr.heap.size #[.string (dE f.n),.string (dE b),I (b.length:Int)] 107))/\Hid (DS 98 107 w.heap.size (w3.setCell ⟨w.heap.size,0,Z⟩ v') w.heap.size v' ((fs.take (t+1)).map (jD keep)) (-1))/\Hid (fQ (w3.setCell ⟨w.heap.size,0,Z⟩ v') (w.heap.size+1) (w.heap.size+2) w.heap.size)/\Hid (Below w.heap.size w (w3.setCell ⟨w.heap.size,0,Z⟩ v'))/\Hid (w1.heap.size<=(w3.setCell ⟨w.heap.size,0,Z⟩ v').heap.size)):=by
    intro v' w3 ho x hl
    have ac:m.heap.size<=(m.alloc (G #[.string (dE f.n),.string (dE b),I (b.length:Int)] 107)).drew.heap.size:=by show _<=(World.alloc _ _).heap.size;simp
    have a0:∀g,g<m.heap.size->e.ownBlock≠some g->w3.heap[g]?=m.heap[g]?:=λg ao aS=>(x.block g (Nat.lt_of_lt_of_le ao ac) (Ne.symm aS)).trans (heap_alloc_old _ _ ao)
    have q:w3.heap[w.heap.size]?=Y (.cells #[e,I (-1)] 98 (0,0)):=(a0 _ ap bh).trans A.st
    have aY:e.ownBlock≠some wr.heap.size:=λQ=>by
     have i:=V.row;have h8:=(i.lt _ Q).2;omega
    have b9:e.ownBlock≠some (w.heap.size+2):=λQ=>by obtain⟨am,i⟩:=eU A.row Q;rw[F.h]at i;simp at i
    have bd:e.ownBlock≠some (w.heap.size+1):=λQ=>by obtain⟨am,i⟩:=eU A.row Q;rw[F.d]at i;simp at i
    have a9:w3.heap[w.heap.size+2]?=_:=(a0 _ aE b9).trans F.h
    have bm:w3.heap[w.heap.size+1]?=_:=(a0 _ oG bd).trans F.d
    have aR:dC w3 wr.heap.size #[.string (dE f.n),.string (dE b),I (b.length:Int)] 107:=a2.same (a0 _ b3 aY)
    have l:=dI.setCell w3 ⟨w.heap.size,0,Z⟩ v'
    have b7:dC (w3.setCell ⟨w.heap.size,0,Z⟩ v') wr.heap.size #[.string (dE f.n),.string (dE b),I (b.length:Int)] 107:=aR.same (l.block _ (by show wr.heap.size≠w.heap.size;omega))
    have b1:v'.ownBlock≠some w.heap.size:=λQ=>by obtain⟨am,i⟩:=eU ho Q;rw[q]at i;simp at i
    refine⟨by simp[World.cell?,q],by simp[World.frozen?,q],⟨⟨by simp[World.cell?,a9],aR⟩,⟨by have i:=(l.block (w.heap.size+2) (by show w.heap.size+2≠w.heap.size;omega)).trans a9;simp[World.cell?,i],b7⟩⟩,⟨?_,?_⟩,⟨(l.block _ (by show w.heap.size+1≠w.heap.size;omega)).trans bm,(l.block _ (by show w.heap.size+2≠w.heap.size;omega)).trans a9⟩,⟨l.os.trans (x.os.trans M.os),l.tape.trans (x.tape.trans M.tape),l.output.trans (x.output.trans M.output),?_,λk hk=>?_⟩,?_⟩
    ·simp[World.setCell,Array.getElem?_modify,q]
    ·rw[aW.out,List.map_append,List.flatMap_append,List.length_append,a1]
     have i:=dQ ho (w':=w3.setCell ⟨w.heap.size,0,Z⟩ v') (λg x=>l.block g (λQ=>b1 (by have h8:g=w.heap.size:=Q;rw[←h8];exact x)))
     simpa[bo.out,FD.cells] using i
    ·rw[l.size];exact Nat.le_trans M.size (Nat.le_trans ac x.size)
    ·refine(l.block k (by show k≠w.heap.size;omega)).trans ((a0 k (by have:=M.size;omega) (λQ=>by have:=(A.row.lt k Q).1;omega)).trans (M.block k hk))
    ·unfold Hid;rw[l.size];exact Nat.le_trans (Nat.le_trans b4 b2) (Nat.le_trans ac x.size)
   refine eY (S:=(λw'=>w'.cell? ⟨w.heap.size+2,0,Z⟩=Y (P0 (Y ⟨w.heap.size,0,Z⟩))/\dC w' wr.heap.size #[.string (dE f.n),.string (dE b),I (b.length:Int)] 107)) (λ_=>?_) (hS:=ar);refine dB 0 ?_;refine dB 1 ?_;refine dB 2 ?_;refine dB 3 ?_ (hy:=by intro w E;have i:=E.1;(try simp at i);go_simp;(try with_reducible rfl));refine dB 4 ?_;refine dB 5 ?_;refine dB 6 ?_;refine dB 7 ?_ (hy:=by intro w E;have i:=E.1;(try simp at i);go_simp;(try with_reducible rfl));refine dB 8 ?_;refine dB 9 ?_;refine i8 11 wr.heap.size 0 [.string (dE f.n),.string (dE b),I (b.length:Int)] ?_ (λw E=>E.2.range rfl);refine jC [10,12] ?_;refine .cons rfl (λK o=>?_) ?_
   ·(try go_simp);refine k1 o (λ_=>?_) ar;clear o K;refine dF 12 λK o=>?_;(try go_simp);refine k1 o (λ_=>?_) ah;clear o K;refine dF 13 λK o=>?_;refine iX rfl (.tmp 58) (.tmp 60) 96 rfl w.heap.size 107 i0 (.agg #[.string ⟨#[]⟩,.string ⟨#[]⟩,I 0]) 3 40 underlying96 aG aq aJ aB rfl dG e t _ eG ax ⟨m.heap.size,0,Z⟩ 1 1 [.string (dE f.n),.string (dE b),I (b.length:Int)] oG eG rfl an (by intro u hu;simp at hu;rcases hu with rfl|rfl|rfl<;>rfl) xG oG (by show _<=(World.alloc _ _).heap.size;simp;omega) ?_;intro v9 w9 C X z;obtain⟨bj,aT,rfl⟩:=dZ C;obtain⟨b5,bg,q,ab,aa,R,ae⟩:=HP.out _ w9 C X z;clear C X z;refine k1 o (λ_=>?_) q.1;clear o K;refine dB 14 ?_;refine dB 15 ?_;refine dF 16 λK o=>?_;(try go_simp);refine k1 o (λ_=>?_) q.2;clear o K;refine dn ?_;go_wp2_with fail;go_roundw;case rel=>exact⟨t+1,_,oG,rfl,ab,aa,R,ae⟩
    case measure=>simp[intOf];omega
   refine .cons rfl (λK o=>?_) .nil;(try go_simp);refine k1 o (λ_=>?_) ah;clear o K;refine dF 10 λK o=>?_;(try go_simp);refine k1 o (λ_=>?_) ah;clear o K;refine dF 13 λK o=>?_;refine iX rfl (.tmp 58) (.tmp 60) 96 rfl w.heap.size 107 i0 (.agg #[.string ⟨#[]⟩,.string ⟨#[]⟩,I 0]) 3 40 underlying96 aG aq aJ aB rfl dG e t _ eG ax ⟨m.heap.size,0,Z⟩ 1 1 [.string (dE f.n),.string (dE b),I (b.length:Int)] oG eG rfl an (by intro u hu;simp at hu;rcases hu with rfl|rfl|rfl<;>rfl) xG oG (by show _<=(World.alloc _ _).heap.size;simp;omega) ?_;intro v9 w9 C X z;obtain⟨bj,aT,rfl⟩:=dZ C;obtain⟨b5,bg,q,ab,aa,R,ae⟩:=HP.out _ w9 C X z;clear C X z;refine k1 o (λ_=>?_) q.1;clear o K;refine dB 14 ?_;refine dB 15 ?_;refine dF 16 λK o=>?_;(try go_simp);refine k1 o (λ_=>?_) q.2;clear o K;refine dn ?_;go_wp2_with fail;go_roundw;case rel=>exact⟨t+1,_,oG,rfl,ab,aa,R,ae⟩
   case measure=>simp[intOf];omega
  obtain az:t=fs.length:=oG;have bl:Hid (DS 98 107 low wr w.heap.size e (fs.map (jD keep)) (-1)):=by have i:=V.out;rw[az,List.take_length]at i;exact⟨i.st,nQ i.row ak⟩
  have ba:Hid (∀g,e.ownBlock=some g->w.heap.size<=g):=λg x=>(V.row.lt g x).1;clear az;go_wp2;refine bodyPost_ret (v:=.tuple #[P0 (Y ⟨w.heap.size+1,0,Z⟩),P0 (Y ⟨w.heap.size+2,0,Z⟩)]) (by simp[results,results15,go_sem]) rfl ?_;exact⟨e,rfl,a4,bl,ba,a6⟩
@[reducible] def kA(l:Int)(Nd:Nat):Array Value:=#[Value.int IntKind.i32 l,Value.int IntKind.u32 0,P0 (Y ⟨Nd,0,Z⟩)]
def QE{l:List Value}(h:l.length=2):∃a b,l=[a,b]:=by
 rcases l with _|⟨a,_|⟨b,_|⟨c,l⟩⟩⟩;·cases h
 ·cases h
 ·exact⟨a,b,rfl⟩
 ·simp only[List.length_cons]at h;omega
def Sh:Nat->Value->Prop
 |1,_=>True
 |2,l=>∃a b,l=.tuple #[a,b]
 |_,l=>∃a b c,l=.tuple #[a,b,c]
def pM(hLO:jN)(hUO:jL)(Kn Nd f g c:Nat)(n:List Value)(v:(f,g,c,n.length)∈[(91,143,1,1),(27,62,1,0),(51,85,1,0),(82,129,1,0),(53,86,2,1),(55,87,2,1),(89,141,3,1),(90,142,3,2)])(w:World)(m:dC w Kn (kA 0 Nd) 134)(Q:Value->World->Prop)(t:∀W,dI Kn w W->Calls pG g (P0 (Y ⟨Nd,0,Z⟩)::n).toArray W λr W1=>∃l,r=.returned l/\Sh c l/\(∀cs,dC W Kn cs 134->dC W1 Kn cs 134)/\∀W2,dI Kn W1 W2->dC W2 Kn (kA 0 Nd) 134->Q l W2):Calls pG f (P0 (Y ⟨Kn,0,Z⟩)::n).toArray w λr w'=>∃l,r=.returned l/\Q l w':=by
 have C:=dA t;have q:=m.cell 0;simp at q;have u:=m.free 0;have b:Hid (dC (w.setCell ⟨Kn,0,Z⟩ (.int .i32 1)) Kn (kA 1 Nd) 134):=by have a:=m.set 0 (Value.int IntKind.i32 1);unfold Hid;simpa using a
 clear t m;simp only[List.mem_cons,Prod.mk.injEq,List.not_mem_nil,or_false]at v;rcases v with⟨rfl,rfl,rfl,a⟩|⟨rfl,rfl,rfl,a⟩|⟨rfl,rfl,rfl,a⟩|⟨rfl,rfl,rfl,a⟩|⟨rfl,rfl,rfl,a⟩|⟨rfl,rfl,rfl,a⟩|⟨rfl,rfl,rfl,a⟩|⟨rfl,rfl,rfl,a⟩;all_goals
  first|(obtain rfl:=List.length_eq_zero_iff.1 a)|(obtain⟨z,rfl⟩:=List.length_eq_one_iff.1 a)|(obtain⟨z,z2,rfl⟩:=QE a)
  clear a
 go_enter_defers func91,ntmps91;rotate_left;go_enter_defers func27,ntmps27;rotate_left;go_enter_defers func51,ntmps51;rotate_left;go_enter_defers func82,ntmps82;rotate_left;go_enter_defers func53,ntmps53;rotate_left;go_enter_defers func55,ntmps55;rotate_left;go_enter_defers func89,ntmps89;rotate_left;go_enter_defers func90,ntmps90;rotate_left;all_goals
  go_wp2_with fail
  refine(hLO ⟨Kn,0,Z⟩ w q u).mono ?_
  rintro r w1 ⟨rfl,rfl⟩
  obtain⟨W1,h⟩:∃y,y=w.setCell ⟨Kn,0,Z⟩ (.int .i32 1):=⟨_,rfl⟩
  have o:Hid (dI Kn w W1):=by rw[h];exact dI.setCell w ⟨Kn,0,Z⟩ _
  rw[←h]at b⊢
  clear h q u
  have s:=b.cell 2;have A:=b.cell 0;simp at s A
  go_wp2_with fail
  refine(C.out W1 o).mono ?_
  rintro r w2 ⟨l,rfl,k,j,x⟩
  first|(obtain⟨a1,p,rfl⟩:=k)|(obtain⟨a1,p,a3,rfl⟩:=k)|skip
  have d:=dA (j _ b);have B:=dA x
  clear j x b s A
  go_wp2_with fail
  refine leaves_cons (f:=60) (args:=#[P0 (Y ⟨Kn,0,Z⟩)]) sG (by simp[go_sem]) ?_
  refine(hUO ⟨Kn,0,Z⟩ .returning w2 ?_ ?_).mono ?_
  ·have a:=d.cell 0;simpa using a
  ·exact d.free 0
  rintro e u' w3 ⟨rfl,rfl,rfl⟩
  have a:=d.set 0 (Value.int IntKind.i32 0)
  have D:dC (w2.setCell ⟨Kn,0,Z⟩ (.int .i32 0)) Kn (kA 0 Nd) 134:=by simpa using a
  have i:=B.out _ (dI.setCell w2 ⟨Kn,0,Z⟩ _) D
  first|exact⟨_,results_tmp rfl _ _ _,l,rfl,i⟩|exact⟨_,results_tmp2 rfl _ _ _,.tuple #[a1,p],rfl,i⟩|exact⟨_,results_tmp3 rfl _ _ _,.tuple #[a1,p,a3],rfl,i⟩
def O5(a:Addr)(w:World):(Op.equalIn 9999 95 (.pointer (some a)) (.pointer none)).run pG w=.ok false w:=by have h:(Tryz.prog.underlying 95).map (λu=>match u with|.pointer _=>true|_=>false)=some true:=kG;obtain⟨u,c,b⟩:=Option.map_eq_some_iff.1 h;cases u<;>simp at b;rw[Op.equalIn];simp[c,go_sem]
@[reducible] def nJ(id nodes nb:Int)(St:Nat):NB:={id:=id,nodes:=nodes,nb:=nb,St:=St,down:=false,act:=false,ph:=0,gE:=0,gP:=0,gS:=0,jo:=0,ba:=0,rf:=0,fo:=⟨0,0,0,0,0,0,0,0,0,0⟩,an:=none,on:=0,ow:=⟨0,0,0,0,0,0,0,0,0,0⟩,oa:=none,ops:=0,res:=J Z 0 0}
def RC(w:World)(low D H S:Nat)(va:Value)(id nodes nb:Int)(d:SD)(fs:List FD)(left:Int)(L Nd:Nat)(w':World):Prop:=∃(St Mp:Nat) (C:Nat->Prop),dO w' (⟨low,Nd,Mp,D,H,S⟩:Pl) (nJ id nodes nb St) d fs left L C [] [] []/\(∀g,C g->g=D∨g=H∨g=S∨va.ownBlock=some g∨w.heap.size<=g)/\Below w.heap.size w w'
def RD(w:World)(low D H S:Nat)(va:Value)(id nodes nb:Int)(d:SD)(fs:List FD)(left:Int)(L Nd Kn:Nat)(w':World):Prop:=∃(St Mp:Nat) (C:Nat->Prop),dO w' (⟨low,Nd,Mp,D,H,S⟩:Pl) (nJ id nodes nb St) d fs left L C [] [] []/\(∀g,C g->g=D∨g=H∨g=S∨va.ownBlock=some g∨w.heap.size<=g)/\(∀g,C g->g<Kn)/\Below w.heap.size w w'
def MY(low:Nat)(id nodes nb o:Int)(D H S:Nat)(i:Value)(fs:List FD)(left:Int)(L:Nat)(ms:List dK)(b:List UInt8)(w:World)(s:fV w low D H S i fs left L)(N:left≠0)(hL:L<=1200000000)(n:low<=w.heap.size)(F:dW w)(hs:(nodes=2/\o=3)∨(nodes=3/\o=7)∨(nodes=4/\o=15)∨(nodes=5/\o=31))(U:0<=id)(W:id<nodes)(a3:1<=nb)(a0:nb<=4)(t:(fJ (dX fs eS)).d=ms.flatMap eT++b)(C:∀m∈ms,iP m)(hj:pI b)(hl:ms.length<=100000000)(B:∀m∈ms,iE m.k m.bl m.zs.length/\e_ m.e)(z:((⟨id,[⟨0,0,o⟩],[],0,0,0,0,0,0,(ms.length:Int),b==[]⟩:SD).play ms).recs.length<=1300000)(v:∀g,g=D∨g=H∨g=S∨i.ownBlock=some g->2<=g):Calls pG 112 #[I id,I nodes,I nb,P0 (Y ⟨D,0,Z⟩)] w λr w'=>∃Nd,r=.returned (.tuple #[P0 (Y ⟨Nd,0,Z⟩),I 0])/\w.heap.size<=Nd/\Nd<w'.heap.size/\RC w low D H S i id nodes nb ((⟨id,[⟨0,0,o⟩],[],0,0,0,0,0,0,(ms.length:Int),b==[]⟩:SD).play ms) fs left L Nd w':=by
 have q1:decide (nodes<2)=false:=by rcases hs with h|h|h|h<;>simp<;>omega
 have q2:decide (5<nodes)=false:=by rcases hs with h|h|h|h<;>simp<;>omega
 have q3:decide (id<0)=false:=by simp;omega
 have q4:decide (nodes<=id)=false:=by simp;omega
 have q5:decide (nb<1)=false:=by simp;omega
 have q6:decide (4<nb)=false:=by simp;omega
 have Q:=dA (LA low id nodes o D H S i fs left L ms b w s hL n F hs (by rcases hs with h|h|h|h<;>omega) t C hj hl B z);have O:=dA (FN low D H S i fs left w s.hands s.ds);have hz:(left==0)=false:=by simpa using N
 have A:=dA s;have V:=dA F;have l:=dA v;have c0:=s.hands.cd;generalize (⟨id,[⟨0,0,o⟩],[],0,0,0,0,0,0,(ms.length:Int),b==[]⟩:SD).play ms=d9 at*;clear s F hs U W a3 a0 t C hj B z v;have a4:=λa w=>O5 a w;go_enter func112,ntmps112;go_wp2_with fail;refine O.mono ?_;rintro r w0 ⟨rfl,M⟩;obtain rfl:=M.symm;go_wp2_with fail;refine Q.mono ?_;rintro r w2 ⟨St,vr,Mp,rfl,x,a1,a2,y,K⟩;have p:=K.size;have E:=dA x;have HB:=dA K;clear x K;go_wp2;go_ret2;have X:=a_ w2 (G (nJ id nodes nb St).arr 192);have j:Below w.heap.size w (w2.alloc (G (nJ id nodes nb St).arr 192)):=HB.alloc p _;have R:fV (w2.alloc (G (nJ id nodes nb St).arr 192)) low D H S i fs left L:=A.later j;have a5:=V.two;have q:∀g,g=w2.heap.size∨g=D∨g=H∨kP St vr Mp S i g->2<=g/\g<(w2.alloc (G (nJ id nodes nb St).arr 192)).heap.size:=by
  have h1:(w2.alloc (G (nJ id nodes nb St).arr 192)).heap.size=w2.heap.size+1:=sG;have hD:D<w.heap.size:=(Array.getElem?_eq_some_iff.1 A.hands.d).1;have hH:H<w.heap.size:=(Array.getElem?_eq_some_iff.1 A.hands.h).1;have hS:=A.ds.lt;rintro g (rfl|rfl|rfl|rfl|rfl|c|rfl|c);·omega
  ·exact⟨l.out _ (.inl rfl),oG⟩
  ·exact⟨l.out _ (.inr (.inl rfl)),oG⟩
  ·have:=E.blk.lt;omega
  ·have:=E.jb.lt;omega
  ·have:=(E.rcs.lt g c).2;have:=y g c;omega
  ·exact⟨l.out _ (.inr (.inr (.inl rfl))),oG⟩
  ·have:=(A.ds.row.lt g c).2;exact⟨l.out _ (.inr (.inr (.inr c))),oG⟩
 have u:∀g,¬(nJ id nodes nb St).own g:=by
  rintro g (c|c|c);·cases c
  ·cases c
  ·simp[Value.ownBlock]at c
 refine⟨w2.heap.size,rfl,p,sG,St,Mp,(λg=>g=w2.heap.size∨g=D∨g=H∨kP St vr Mp S i g),⟨⟨(λg=>g=w2.heap.size∨g=D∨g=H∨kP St vr Mp S i g),⟨dC.new w2 _ 192,⟨vr,i,E.later X,R,λg f=>.inr (.inr (.inr f))⟩,.inl rfl,.inr (.inl rfl),.inr (.inr (.inl rfl)),?_,?_,?_,V.below j V.two⟩,λg f=>f,λg f=>?_⟩,.inl ⟨rfl,rfl⟩,.inl ⟨rfl,rfl⟩,λg f=>(by cases f),World.ownsRow_nil _ _ _ _,λg f=>?_,?_⟩,?_,j⟩;·exact λg f=>(q g f).1
 ·exact λg f=>(q g f).2
 ·exact Nat.le_trans n j.size
 ·exact absurd f (u g)
 ·exact absurd f (u g)
 ·exact q
 ·rintro g (rfl|rfl|rfl|rfl|rfl|c|rfl|c);·exact .inr (.inr (.inr (.inr p)))
  ·exact .inl rfl
  ·exact .inr (.inl rfl)
  ·exact .inr (.inr (.inr (.inr a1)))
  ·exact .inr (.inr (.inr (.inr a2)))
  ·exact .inr (.inr (.inr (.inr (y g c))))
  ·exact .inr (.inr (.inl rfl))
  ·exact .inr (.inr (.inr (.inl c)))
def LO(low:Nat)(id nodes nb b:Int)(D H S:Nat)(s:Value)(fs:List FD)(left:Int)(L:Nat)(ms:List dK)(a:List UInt8)(w:World)(F:fV w low D H S s fs left L)(x:left≠0)(Q:L<=1200000000)(f:low<=w.heap.size)(B:dW w)(hs:(nodes=2/\b=3)∨(nodes=3/\b=7)∨(nodes=4/\b=15)∨(nodes=5/\b=31))(j:0<=id)(c:id<nodes)(o:1<=nb)(n:nb<=4)(h:(fJ (dX fs eS)).d=ms.flatMap eT++a)(q:∀m∈ms,iP m)(M:pI a)(U:ms.length<=100000000)(p:∀m∈ms,iE m.k m.bl m.zs.length/\e_ m.e)(l:((⟨id,[⟨0,0,b⟩],[],0,0,0,0,0,0,(ms.length:Int),a==[]⟩:SD).play ms).recs.length<=1300000)(i:∀g,g=D∨g=H∨g=S∨s.ownBlock=some g->2<=g):Calls pG 66 #[I id,I nodes,I nb,P0 (Y ⟨D,0,Z⟩)] w λr w'=>∃Kn Nd,r=.returned (.tuple #[P0 (Y ⟨Kn,0,Z⟩),I 0])/\dC w' Kn (kA 0 Nd) 134/\w.heap.size<=Nd/\Nd<Kn/\RD w low D H S s id nodes nb ((⟨id,[⟨0,0,b⟩],[],0,0,0,0,0,0,(ms.length:Int),a==[]⟩:SD).play ms) fs left L Nd Kn w':=by have V:=MY low id nodes nb b D H S s fs left L ms a w F x Q f B hs j c o n h q M U p l i;generalize (⟨id,[⟨0,0,b⟩],[],0,0,0,0,0,0,(ms.length:Int),a==[]⟩:SD).play ms=W at*;clear F B hs j c o n h q M p l i;go_enter func66,ntmps66;go_wp2_with fail;refine Calls.mono V ?_;rintro r w2 ⟨Nd,rfl,u,y,St,Mp,C,K,A,t⟩;have z:=t.size;have E:=dA K;have R:=dA A;have O:=dA t;clear K A t;go_wp2;go_ret2;have v:=a_ w2 (G (kA 0 Nd) 134);exact⟨_,Nd,rfl,dC.new w2 _ 134,u,y,⟨St,Mp,C,E.later v,R,λg N=>(E.lt g N).2,O.alloc z _⟩⟩
def eZ(c:Int):Int:=if c<0 then -(c+1) else c
def LP{c n:Int}(h:c<0):-(c+1).tmod n=eZ c%n:=by
 have e:eZ c = -(c+1):=by unfold eZ;rw[if_pos h]
 rw[e,←Int.neg_tmod,Int.tmod_eq_emod_of_nonneg oG]
set_option maxHeartbeats 400000 in
def nR(c n:Int)(w:World)(d:0<n)(b:-9223372036854775808<=c)(a:c<=9223372036854775807):Calls pG 22 #[.int .i64 c,.int .i64 n] w λe w'=>e=.returned (.int .i64 (eZ c%n))/\w'=w:=by
 by_cases h:c<0;·have H:Hid (-(c+1).tmod n=eZ c%n):=LP h;go_enter func22,ntmps22;go_wp2;go_ret;exact⟨pR H,rfl⟩
 ·have H:Hid (eZ c=c):=by unfold Hid eZ;rw[if_neg h]
  go_enter func22,ntmps22;go_wp2;go_ret;exact⟨pR (by rw[H.out]),rfl⟩
def xD(e s f u:Int)(w:World):Calls pG 48 #[I e,I s,I f,I u] w λr w'=>r=.returned (.bool (decide (f<e)||((e==f)&&decide (u<s))))/\w'=w:=by
 obtain⟨a,c⟩:∃y,decide (f<e)=y:=⟨_,rfl⟩;obtain⟨d,b⟩:∃y,(e==f)=y:=⟨_,rfl⟩;obtain⟨h,g⟩:∃y,decide (u<s)=y:=⟨_,rfl⟩;rw[c,b,g];cases a<;>cases d<;>cases h;all_goals
  go_enter func48,ntmps48
  go_wp2
  go_ret
  exact⟨rfl,rfl⟩
def tB(s:Int)(n:Nat)(w:World)(hs:0<=s/\s<=31)(c:n<64):Calls pG 23 #[I s,I (n:Int)] w λr w'=>r=.returned (.bool (fK s n))/\w'=w:=by have b:=xP hs n;have a:min n 64=n:=oG;go_enter func23,ntmps23;go_wp2;go_ret;exact⟨rfl,rfl⟩
def iB(a b:Int):Nat->Int
 |0=>0
 |t+1=>bif fK b t&&!fK a t then iB a b t+1 else iB a b t
def xW(a b:Int):∀t,0<=iB a b t/\iB a b t<=t
 |0=>by simp[iB]
 |t+1=>by have:=xW a b t;unfold iB;cases(fK b t&&!fK a t)<;>simp<;>omega
def LQ(c e b f g a:Int)(w:World)(ha:0<=b/\b<=31)(L:0<=a/\a<=31)(hE:0<=c/\c<=10000000000000)(hP:1<=g/\g<=5):Calls pG 84 #[.agg #[I c,I e,I b],.agg #[I f,I g,I a]] w λr w'=>r=.returned (.bool (fK a (g - 1).toNat&&((f==c+1)&&((iB b a 5==0)||((iB b a 5==1)&&((iB a b 5==0)&&(e==g)))))))/\Below w.heap.size w w':=by
 obtain⟨n,hn⟩:∃n:Nat,g=(n:Int)+1:=⟨(g - 1).toNat,oG⟩;subst hn;have l:((n:Int)+1 - 1).toNat=n:=oG;rw[l];clear l;obtain⟨c1,H⟩:∃y,fK a n=y:=⟨_,rfl⟩;obtain⟨c2,m⟩:∃y,(f==c+1)=y:=⟨_,rfl⟩;obtain⟨c3,p⟩:∃y,(iB b a 5==0)=y:=⟨_,rfl⟩;obtain⟨c4,o⟩:∃y,(iB b a 5==1)=y:=⟨_,rfl⟩;obtain⟨c5,q⟩:∃y,(iB a b 5==0)=y:=⟨_,rfl⟩;obtain⟨c6,s⟩:∃y,(e==(n:Int)+1)=y:=⟨_,rfl⟩;rw[H,m,p,o,q,s];have D:=dA H;have H2:=dA m;have U:=dA p;have V:=dA o;have S:=dA q;have N:=dA s;clear H m p o q s;have k:=(a_ w (G #[I c,I e,I b] 66)).alloc sG (G #[I f,I ((n:Int)+1),I a] 66);have v:Hid (dC ((w.alloc (G #[I c,I e,I b] 66)).alloc (G #[I f,I ((n:Int)+1),I a] 66)) w.heap.size #[I c,I e,I b] 66):=(dC.new _ _ _).old _;have h:Hid (dC ((w.alloc (G #[I c,I e,I b] 66)).alloc (G #[I f,I ((n:Int)+1),I a] 66)) (w.heap.size+1) #[I f,I ((n:Int)+1),I a] 66):=by have h9:=dC.new (w.alloc (G #[I c,I e,I b] 66)) #[I f,I ((n:Int)+1),I a] 66;unfold Hid;simpa using h9
 have F:=dA k;clear k;have Q:Hid (∀t,iB b a (t+1)=bif fK a t&&!fK b t then iB b a t+1 else iB b a t):=λt=>rfl;have HL:Hid (∀t,iB a b (t+1)=bif fK b t&&!fK a t then iB a b t+1 else iB a b t):=λt=>rfl;have u:=dA (xW b a);have E:=dA (xW a b);have B:Hid (iB b a 0=0):=rfl;have A:Hid (iB a b 0=0):=rfl;generalize iB b a=K at*;generalize iB a b=lf at*;go_enter func84,ntmps84;go_upto_region 4 with fail;generalize (World.alloc (World.alloc _ _) _)=O at*;have a2:=v.cell 2;have b2:=h.cell 2;simp at a2 b2;go_loopw [5,6,7] (λs5 s6 s7 wr=>∃t:Nat,t<=5/\s7=I (t:Int)/\s5=I (K t)/\s6=I (lf t)/\wr=O) (λs5 s6 s7 wr=>5 - (intOf s7).toNat);case atStart=>exact⟨0,oG,rfl,by rw[B.out],by rw[A.out],rfl⟩
 case round=>
  obtain⟨t,X,rfl,rfl,rfl,rfl⟩:=hrel;have a7:=u.out t;have a4:=E.out t;by_cases a6:t<5
  ·obtain⟨x,C⟩:∃y,fK b t=y:=⟨_,rfl⟩;obtain⟨y,hy⟩:∃z,fK a t=z:=⟨_,rfl⟩;have HX:=dA C;have HY:=dA hy;have i:=dA (Q.out t);have j:=dA (HL.out t);rw[C,hy]at i j;have a5:decide ((t:Int)<5)=true:=by simp;omega
   clear C hy;go_wp2_with fail;refine(tB b t _ ha oG).mono ?_;rintro r w1 ⟨rfl,d⟩;obtain rfl:=d.symm;rw[HX.out];go_wp2_with fail;refine(tB a t _ L oG).mono ?_;rintro r w1 ⟨rfl,d⟩;obtain rfl:=d.symm;rw[HY.out];cases x<;>cases y;all_goals
    go_wp2_with fail
    go_roundw
    case rel=>exact⟨t+1,oG,rfl,by rw[i.out];rfl,by rw[j.out];rfl,by trivial⟩
    case measure=>simp[intOf];omega
  obtain rfl:t=5:=oG;have q1:decide ((n:Int)+1<1)=false:=by simp;omega
  have q2:decide (5<(n:Int)+1)=false:=by simp;omega
  have b1:=h.cell 1;have W:=h.cell 0;have a0:=v.cell 0;have a1:=v.cell 1;simp at b1 W a0 a1;have a3:wrap64 ((n:Int)+1 - 1)=(n:Int):=by rw[IntWalk.wrap64_in _ oG];omega
  have R:wrap64 (c+1)=c+1:=IntWalk.wrap64_in _ oG;have m:=H2.out;have p:=U.out;have o:=V.out;have q:=S.out;have s:=N.out;generalize K 5=M at*;generalize lf 5=LF at*;go_wp2_with fail;refine(tB a n _ L oG).mono ?_;rintro r w1 ⟨rfl,d⟩;obtain rfl:=d.symm;rw[D.out];cases c1<;>cases c2<;>cases c3<;>cases c4<;>cases c5<;>cases c6;all_goals
   go_wp2
   go_ret
   exact⟨rfl,by first|exact F|exact F.drew|exact below_drewN F _⟩
def pJ(p:Int×Int)(r:dJ):Int×Int:=bif decide (p.1<r.e)||((r.e==p.1)&&decide (p.2<r.q)) then(r.e,r.q) else p
def kN(rs:List dJ):Int×Int:=rs.foldl pJ (-1,0)
def E2(r:dJ):r.cells.length=5:=rfl
def O6(Wc:Nat)(a:Option Addr)(c:Nat)(rs:List dJ)(w:World)(F:w.cell? ⟨Wc,7,Z⟩=Y (J a rs.length c))(O:Wc<w.heap.size)(m:eL w (J a rs.length c) rs.length (rs.flatMap dJ.cells))(hl:rs.length<=100000000):Calls pG 88 #[P0 (Y ⟨Wc,0,Z⟩)] w λr w'=>r=.returned (.tuple #[I (kN rs).1,I (kN rs).2])/\Below w.heap.size w w':=by
 have V:=dA m;have U:=dA F;clear m F;go_enter func88,ntmps88;go_upto_region 4 with fail;go_loopw [4,5,6] (λs4 s5 s6 wr=>∃t:Nat,t<=rs.length/\s6=I (t:Int)/\s4=I (kN (rs.take t)).1/\s5=I (kN (rs.take t)).2/\Below w.heap.size w wr) (λs4 s5 s6 wr=>rs.length - (intOf s6).toNat);case atStart=>exact⟨0,oG,rfl,rfl,rfl,Below.refl _ _⟩
 case round=>
  obtain⟨t,Q,rfl,rfl,rfl,d⟩:=hrel;have D:=dA d;have cw:wr.cell? ⟨Wc,7,Z⟩=Y (J a rs.length c):=(d.cell (p:=⟨Wc,7,Z⟩) O).trans U;have x:=d.size;by_cases i:t<rs.length
  ·obtain⟨g,S,R,M,j⟩:=V.at oG;cases R;have h:wr.rangeAt g (t*5) (dJ.cells rs[t]):=by
    intro k u E;have N:k<5:=by have:=(List.getElem?_eq_some_iff.1 E).1;simpa[dJ.cells] using this
    rw[d.cell (p:=⟨g,t*5+k,Z⟩) M,j _ _ (kE dJ.cells 5 E2 rs t i k N)];rw[List.getD_eq_getElem?_getD,E];rfl
   have f:kN (rs.take (t+1))=pJ (kN (rs.take t)) rs[t]:=by rw[List.take_succ_eq_append_getElem i];unfold kN;rw[List.foldl_append];rfl
   obtain⟨r,m⟩:∃y,rs[t]=y:=⟨_,rfl⟩;rw[m]at h f;have n:Hid (wr.rangeAt g (t*5) [I r.op,I r.bl,I r.v,I r.e,I r.q]):=h;generalize kN (rs.take t)=p at*;obtain⟨b,o⟩:∃y,(decide (p.1<r.e)||((r.e==p.1)&&decide (p.2<r.q)))=y:=⟨_,rfl⟩;have l:Hid (kN (rs.take (t+1))=bif b then(r.e,r.q) else p):=by unfold Hid;rw[f];unfold pJ;rw[o]
   have B:=dA o;have H:=dA (dC.new wr #[I r.op,I r.bl,I r.v,I r.e,I r.q] 76);have A:Hid (Below w.heap.size w (wr.alloc (G #[I r.op,I r.bl,I r.v,I r.e,I r.q] 76))):=d.alloc x _;clear h f m o d j;go_upto_region 7 with(refine wpList_load_mid rfl 76 _ rfl g (t*5) rfl [I r.op,I r.bl,I r.v,I r.e,I r.q] _ n underlying76 rfl kG ?_);generalize World.alloc _ _=W5 at*;have L:=H.cell 3;have K:=H.cell 4;simp at L K;obtain⟨W,p2⟩:=p;go_wp2_with fail;refine(xD r.e r.q W p2 W5).mono ?_;rintro r9 w6 ⟨rfl,s⟩;obtain rfl:=s.symm;have C:=B.out;(try dsimp only at C);rw[C];clear C;cases b;all_goals
    go_wp2_with fail
    go_roundw
    case rel=>exact⟨t+1,oG,rfl,by rw[l.out];rfl,by rw[l.out];rfl,A⟩
    case measure=>simp[intOf];omega
  obtain z:rs.take t=rs:=List.take_of_length_le oG;rw[z];have X:decide ((t:Int)<(rs.length:Int))=false:=by simp;omega
  clear d;go_wp2;go_ret2;exact⟨rfl,D⟩
end Go.Proofs.YtdcainmlcpafbaaGreatDoor
