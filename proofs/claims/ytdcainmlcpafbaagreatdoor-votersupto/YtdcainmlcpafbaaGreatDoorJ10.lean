import Derived.Test.YtdcainmlcpafbaaGreatDoorJ09
set_option linter.all false
set_option maxHeartbeats 8000000
namespace Go.Proofs.YtdcainmlcpafbaaGreatDoor
open Go.RowKit
open Value renaming int->I,slice->J,pointer->P0
open Tryz renaming prog->pG
open IntKind renaming i64->T
open Option renaming none->Z,some->Y
open Obj renaming cells->G
open Value (bool)
def RN.fits(n:RN)(k bl:Int)(zs:List Int):Prop:=(k=7->bl<n.blocks.length)/\(k=9->zs.length=n.blocks.length)
def kI(w:World)(low:Nat)(r:Ending)(o:Option (Int×List UInt8)):Prop:=match o with
 |none=>r=.returned (J Z 0 0)
 |some (dst,bs)=>∃g,r=.returned (J (Y ⟨g,0,Z⟩) 1 1)/\l9 w low g dst bs
theorem mS{A:Nat->Prop}{w w':World}(h:Below w.heap.size w w'):aK A w w':=⟨h.os,h.tape,h.output,h.size,fun k hk _=>h.block k hk⟩
def RN.wrote(n:RN)(k e q bl v:Int)(zs:List Int):RN:={n with act:=if e=n.seen then n.act else false,cs:=if e=n.seen then n.cs else[],os:=if e=n.seen then n.os else[],seen:=e,last:=q,blocks:=if k=9 then zs else n.blocks.set bl.toNat v}
def RN.storedO(n:RN)(k f e q:Int):Option (Int×List UInt8):=
 if n.act=true/\e=n.seen then none
 else if e<n.seen then(if e<n.lastR.E then some (f,aT 6 n.id e 0 0 (n.recs.getD (e.toNat+1) ⟨0,0,0⟩).P (n.recs.getD (e.toNat+1) ⟨0,0,0⟩).S 0 0 0 []) else none)
 else if e=n.seen/\q<n.last then none
 else some (f,aT (k+1) n.id e 0 0 0 0 q 0 0 [])
section
set_option maxRecDepth 20000
theorem xP(n:RN)(vr vv vb vc vo vs:Value)(p s:Int)(w:World)(hr:aP w vr n.recs.length (n.recs.flatMap aM.cells))(hne:0<n.recs.length)(hlt:n.recs.length<=100000000)(hE:0<=n.lastR.E/\n.lastR.E<=1000000000000):
  Calls pG 165 #[.agg #[I T n.id,I T n.nodes,vr,vv,vb,I T n.seen,I T n.last,.bool n.act,vc,vo,I T n.ops,vs,.bool false,J Z 0 0],I T p,I T s] w fun e w'=>e=.returned (.bool (eV n.lastR.E n.lastR.P n.lastR.S (n.lastR.E+1) p s))/\Below w.heap.size w w':=by
 have hb0:=(Below.refl w.heap.size w).alloc (Nat.le_refl _) (G #[I T n.id,I T n.nodes,vr,vv,vb,I T n.seen,I T n.last,bool n.act,vc,vo,I T n.ops,vs,bool false,J Z 0 0] 225);have HR:=aA (hr.later hb0);have hs0:w.heap.size<(w.alloc (G #[I T n.id,I T n.nodes,vr,vv,vb,I T n.seen,I T n.last,bool n.act,vc,vo,I T n.ops,vs,bool false,J Z 0 0] 225)).heap.size:=by simp
 clear hr;go_enter Tryz.func165,Tryz.ntmps165
 go_wp2_with fail
 generalize (w.alloc (G #[I T n.id,I T n.nodes,vr,vv,vb,I T n.seen,I T n.last,bool n.act,vc,vo,I T n.ops,vs,bool false,J Z 0 0] 225))=W0 at*;refine(kV n vr vv vb vc vo vs W0 HR.out hne (by omega)).mono ?_;rintro r w1 ⟨rfl,hb1⟩;have hb2:=hb0.trans (hb1.mono (by omega));have hs1:=hb1.size;have hs2:w.heap.size<=w1.heap.size:=by omega
 have HB2:Hid _:=hb2;clear hb0 hb1 hb2 HR
 go_wp2_with fail
 have hb3:=HB2.out.alloc hs2 (G #[I T n.lastR.E,I T n.lastR.P,I T n.lastR.S] 66);refine(FB n.lastR.E n.lastR.P n.lastR.S (n.lastR.E+1) p s _).mono ?_;rintro r w3 ⟨rfl,hb4⟩;have HB4:=aA (hb3.trans (hb4.mono hb3.size));clear hb3 hb4;go_wp2;go_ret;exact⟨rfl,HB4.out⟩
def eA(id nodes blocks:Int):Bool:=decide (2<=nodes/\nodes<=5/\0<=id/\id<nodes/\1<=blocks/\blocks<=4)
theorem rQ(id nodes blocks:Int)(w:World):Calls pG 110 #[I T id,I T nodes,I T blocks] w fun e w'=>e=.returned (.bool (eA id nodes blocks))/\w'=w:=by
 by_cases h0:2<=nodes
 ·skip
  by_cases h1:nodes<=5
  ·skip
   by_cases h2:0<=id
   ·skip
    by_cases h3:id<nodes
    ·skip
     by_cases h4:1<=blocks
     ·skip
      by_cases h5:blocks<=4
      ·skip
       have HF:Hid (eA id nodes blocks=true):=by unfold Hid eA;simp;omega
       go_enter Tryz.func110,Tryz.ntmps110;go_wp2;go_ret;exact⟨dW (by first|(rw[HF.out];done)|(rw[HF.out];simp;omega)),rfl⟩
      ·have HF:Hid (eA id nodes blocks=false):=by unfold Hid eA;simp;omega
       have hn5:4<blocks:=by omega
       clear h5;go_enter Tryz.func110,Tryz.ntmps110;go_wp2;go_ret;exact⟨dW (by first|(rw[HF.out];done)|(rw[HF.out];simp;omega)),rfl⟩
     ·have HF:Hid (eA id nodes blocks=false):=by unfold Hid eA;simp;omega
      have hn4:blocks<1:=by omega
      clear h4;go_enter Tryz.func110,Tryz.ntmps110;go_wp2;go_ret;exact⟨dW (by first|(rw[HF.out];done)|(rw[HF.out];simp;omega)),rfl⟩
    ·have HF:Hid (eA id nodes blocks=false):=by unfold Hid eA;simp;omega
     have hn3:nodes<=id:=by omega
     clear h3;go_enter Tryz.func110,Tryz.ntmps110;go_wp2;go_ret;exact⟨dW (by first|(rw[HF.out];done)|(rw[HF.out];simp;omega)),rfl⟩
   ·have HF:Hid (eA id nodes blocks=false):=by unfold Hid eA;simp;omega
    have hn2:id<0:=by omega
    clear h2;go_enter Tryz.func110,Tryz.ntmps110;go_wp2;go_ret;exact⟨dW (by first|(rw[HF.out];done)|(rw[HF.out];simp;omega)),rfl⟩
  ·have HF:Hid (eA id nodes blocks=false):=by unfold Hid eA;simp;omega
   have hn1:5<nodes:=by omega
   clear h1;go_enter Tryz.func110,Tryz.ntmps110;go_wp2;go_ret;exact⟨dW (by first|(rw[HF.out];done)|(rw[HF.out];simp;omega)),rfl⟩
 ·have HF:Hid (eA id nodes blocks=false):=by unfold Hid eA;simp;omega
  have hn0:nodes<2:=by omega
  clear h0;go_enter Tryz.func110,Tryz.ntmps110;go_wp2;go_ret;exact⟨dW (by first|(rw[HF.out];done)|(rw[HF.out];simp;omega)),rfl⟩
end
theorem bO.poke{w:World}{low X:Nat}{n:RN}{vr vv vc vo vs:Value}{g k c:Nat}(h:bO w low X n vr vv (J (Y ⟨g,0,Z⟩) k c) vc vo vs)(t:Nat)(u:Int):
  bO (w.setCell ⟨g,t,Z⟩ (I T u)) low X {n with blocks:=n.blocks.set t u} vr vv (J (Y ⟨g,0,Z⟩) k c) vc vo vs/\w.grownBy (w.setCell ⟨g,t,Z⟩ (I T u)) (Y g):=by
 obtain⟨a,c',hv⟩:=aO h.b;cases hv;have hs:=gX h.b t (I T u);have hgX:g≠X:=fun hh=>aW h.b h.blk (by decide) (by simp[Value.ownBlock,hh]);refine⟨⟨(hs.2.block X h.lt (by simp[Ne.symm hgX])).trans h.blk,h.lx,?_,?_,?_⟩,hs.2⟩
 ·exact aH h.r (fun g' hg'=>hs.2.block g' (h.r.lt g' hg').2 (fun hh=>lR h.b h.r (by decide) g' (by simpa[Value.ownBlock] using hh.symm) hg'))
 ·exact aH h.v (fun g' hg'=>hs.2.block g' (h.v.lt g' hg').2 (fun hh=>lR h.b h.v (by decide) g' (by simpa[Value.ownBlock] using hh.symm) hg'))
 ·have:=hs.1;simp only[List.length_set,List.map_set];exact this
theorem bO.setX{w W:World}{low X:Nat}{n m:RN}{vr vv vb vc vo vs vc' vo':Value}(h:bO w low X n vr vv vb vc vo vs)(hr:m.recs=n.recs)(hv:m.votes=n.votes)(hb:m.blocks=n.blocks)(hB:aD X w W)(hX:aB W X #[I T m.id,I T m.nodes,vr,vv,vb,I T m.seen,I T m.last,bool m.act,vc',vo',I T m.ops,vs,bool false,J Z 0 0] 225):bO W low X m vr vv vb vc' vo' vs:=by
 refine⟨hX.blk,h.lx,?_,?_,?_⟩
 ·rw[hr];exact aH h.r (fun g hg=>hB.block g (fun hh=>aW h.r h.blk (by decide) (hh ▸ hg)))
 ·rw[hv];exact aH h.v (fun g hg=>hB.block g (fun hh=>aW h.v h.blk (by decide) (hh ▸ hg)))
 ·rw[hb];exact aH h.b (fun g hg=>hB.block g (fun hh=>aW h.b h.blk (by decide) (hh ▸ hg)))
theorem rR{w:World}{base:Nat}{e:TypeId}{size g k c n:Nat}{xs:List Value}(h:w.ownsRow base e size (J (Y ⟨g,0,Z⟩) k c) n xs):∀i,w.frozen? ⟨g,i,Z⟩=false:=by
 intro i;rcases h.2 with⟨h0,_⟩|⟨g',cap,cur,h1,_,hg,_⟩
 ·cases h0
 ·cases h1;simp[World.frozen?,hg]
def RN.mixed(n:RN)(k bl v:Int)(zs:List Int)(t:Nat):List Int:=if k=9 then zs.take t++n.blocks.drop t else if bl<(t:Int) then n.blocks.set bl.toNat v else n.blocks
theorem rS(n:RN)(k bl v:Int)(zs:List Int)(t:Nat)(ht:t<=n.blocks.length)(hfit:n.fits k bl zs)(hk:k=7∨k=9):(n.mixed k bl v zs t).length=n.blocks.length:=by
 unfold RN.mixed;rcases hk with rfl|rfl
 ·rw[if_neg (by decide)];split<;>simp
 ·rw[if_pos rfl];have:=hfit.2 rfl;simp;omega
theorem qJ(n:RN)(bl v:Int)(zs:List Int)(t:Nat)(ht:t<n.blocks.length)(hz:zs.length=n.blocks.length):n.mixed 9 bl v zs (t+1)=(n.mixed 9 bl v zs t).set t (zs[t]'(by omega)):=by
 unfold RN.mixed;rw[if_pos rfl,if_pos rfl];apply List.ext_getElem?;intro i;have hzt:t<zs.length:=by omega
 rw[List.getElem?_set]
 by_cases h1:t=i
 ·subst h1;rw[if_pos rfl,if_pos (by simp;omega),List.getElem?_append_left (by simp;omega),List.getElem?_take,if_pos (by omega),List.getElem?_eq_getElem hzt]
 ·rw[if_neg h1]
  by_cases h2:i<t
  ·rw[List.getElem?_append_left (by simp;omega),List.getElem?_append_left (by simp;omega),List.getElem?_take,List.getElem?_take,if_pos (by omega),if_pos h2]
  ·rw[List.getElem?_append_right (by simp;omega),List.getElem?_append_right (by simp;omega),List.getElem?_drop,List.getElem?_drop]
   congr 1
   simp;omega
theorem mJ(n:RN)(bl v:Int)(zs:List Int)(t:Nat)(hb:0<=bl):n.mixed 7 bl v zs (t+1)=if(t:Int)=bl then(n.mixed 7 bl v zs t).set t v else n.mixed 7 bl v zs t:=by
 have m7:∀t:Nat,n.mixed 7 bl v zs t=if bl<(t:Int) then n.blocks.set bl.toNat v else n.blocks:=fun t=>by unfold RN.mixed;rw[if_neg (by decide)]
 rw[m7,m7]
 by_cases h:(t:Int)=bl
 ·rw[if_pos h,if_pos (by omega),if_neg (by omega)]
  congr 1
  omega
 ·rw[if_neg h]
  by_cases h2:bl<(t:Int)
  ·rw[if_pos (by omega),if_pos h2]
  ·rw[if_neg (by omega),if_neg h2]
theorem tE(n:RN)(k bl v:Int)(zs:List Int)(hb:0<=bl):n.mixed k bl v zs 0=n.blocks:=by
 unfold RN.mixed
 split
 ·simp
 ·rw[if_neg (by omega)]
theorem rT(n:RN)(k e q bl v:Int)(zs:List Int)(hfit:n.fits k bl zs)(hk:k=7∨k=9)(hb:0<=bl):n.mixed k bl v zs n.blocks.length=(n.wrote k e q bl v zs).blocks:=by
 unfold RN.mixed RN.wrote;rcases hk with rfl|rfl
 ·have:=hfit.1 rfl;rw[if_neg (by decide),if_pos (by omega)];simp
 ·have:=hfit.2 rfl;rw[if_pos rfl];simp[←this]
theorem lastE{rs:List aM}(hne:0<rs.length)(hep:∀i (h:i<rs.length),(rs[i]).E=(i:Int)):(rs.getD (rs.length - 1) ⟨0,0,0⟩).E=(rs.length:Int) - 1:=by
 have h1:rs.length - 1<rs.length:=by omega
 rw[List.getD_eq_getElem?_getD,List.getElem?_eq_getElem h1];simp only[Option.getD_some];rw[hep _ h1];omega
@[reducible] def cL(n:RN)(k bl:Int)(zs:List Int):Prop:=k=7/\bl<n.blocks.length∨k=9/\zs.length=n.blocks.length
@[reducible] def hZ(n:RN)(e q:Int):Prop:=(n.act=true/\e=n.seen)∨e<n.seen∨(e=n.seen/\q<=n.last)
structure RN.ok(n:RN):Prop where
 nodes2:2<=n.nodes
 nodes5:n.nodes<=5
 id0:0<=n.id
 id1:n.id<n.nodes
 ne:0<n.recs.length
 recs:∀r∈n.recs,(0<=r.P/\r.P<=5)/\(0<=r.S/\r.S<=31)
 ep:∀i (h:i<n.recs.length),(n.recs[i]).E=(i:Int)
 votes:∀v∈n.votes,(0<=v.pr/\v.pr<=1000000000000)/\(0<=v.wa/\v.wa<=1000000000000)/\(0<=v.pm/\v.pm<=5)/\(0<=v.st/\v.st<=31)
 b1:1<=n.blocks.length
 b4:n.blocks.length<=4
theorem RN.ok.lastE{n:RN}(h:n.ok):n.lastR.E=(n.recs.length:Int) - 1:=Go.Proofs.YtdcainmlcpafbaaGreatDoor.lastE h.ne h.ep
def eE(w:World)(low X:Nat)(n':RN)(vr vb vs:Value)(o:Option (Int×List UInt8))(r:Ending)(w':World):Prop:=
 kI w' w.heap.size r o/\∃vr' vv' vb',bO w' low X n' vr' vv' vb' (J Z 0 0) (J Z 0 0) vs/\aK (fun g=>g=X∨vr.ownBlock=Y g∨vb.ownBlock=Y g) w w'
theorem eE.none{w w':World}{low X:Nat}{n:RN}{vr vv vb vs:Value}{r:Ending}(h1:r=.returned (J Z 0 0))(h2:bO w' low X n vr vv vb (J Z 0 0) (J Z 0 0) vs)(h3:Below w.heap.size w w'):eE w low X n vr vb vs none r w':=⟨h1,vr,vv,vb,h2,mS h3⟩
theorem kQ{w W:World}{o:Obj}(h:w.alloc o=W):Below w.heap.size w W:=h ▸ (Below.refl _ _).alloc (Nat.le_refl _) _
theorem lX{w W:World}{cs:Array Value}{t:TypeId}(h:w.alloc (G cs t)=W):aB W w.heap.size cs t:=h ▸ aB.new _ _ _
theorem aB.c3{w:World}{B:Nat}{t:TypeId}{a0 a1 a2:Value}(h:aB w B #[a0,a1,a2] t):w.cell? ⟨B,0,Z⟩=Y a0/\w.cell? ⟨B,1,Z⟩=Y a1/\w.cell? ⟨B,2,Z⟩=Y a2:=⟨h.cell 0,h.cell 1,h.cell 2⟩
end Go.Proofs.YtdcainmlcpafbaaGreatDoor
