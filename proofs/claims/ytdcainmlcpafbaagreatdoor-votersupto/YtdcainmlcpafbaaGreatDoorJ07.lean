import Derived.Test.YtdcainmlcpafbaaGreatDoorJ06
set_option linter.all false
set_option maxHeartbeats 8000000
namespace Go.Proofs.YtdcainmlcpafbaaGreatDoor
open Go.RowKit
open Value renaming int->I,slice->J,pointer->P0
open Tryz renaming prog->pG
open IntKind renaming i64->T
open Option renaming none->Z,some->Y
open Obj renaming cells->G
open Value (bool)
section
set_option maxRecDepth 20000
structure FD where
 n:List UInt8
 d:List UInt8
 s:Nat
def FD.cells(f:FD):List Value:=[.string (aC f.n),.string (aC f.d),I T (f.s:Int)]
theorem lL(a b:List UInt8):((aC a).toList==(aC b).toList)=(a==b):=by
 rw[←beq_toListBytes];show((⟨a⟩:Array UInt8)==⟨b⟩)=(a==b)
 simp
theorem sJ(fs:List FD):(fs.flatMap FD.cells).length=fs.length*3:=by
 induction fs with
 |nil=>rfl
 |cons f fs ih=>rw[List.flatMap_cons,List.length_append,ih];simp[FD.cells];omega
theorem fV:∀(fs:List FD) (i:Nat) (h:i<fs.length) (k:Nat) (hk:k<3),(fs.flatMap FD.cells)[i*3+k]?=Y (fs[i].cells.getD k undef):=by
 intro fs
 induction fs with
 |nil=>intro i h;simp at h
 |cons f fs ih=>
  intro i h k hk;rw[List.flatMap_cons];have hlen:f.cells.length=3:=rfl
  match i with
  |0=>
   rw[List.getElem?_append_left (by rw[hlen];omega)];simp only[Nat.zero_mul,Nat.zero_add,List.getElem_cons_zero];rw[List.getD_eq_getElem?_getD,List.getElem?_eq_getElem (by rw[hlen];exact hk)];rfl
  |i+1=>
   rw[List.getElem?_append_right (by rw[hlen];omega),hlen,show(i+1)*3+k - 3=i*3+k by omega];exact ih i (by simpa using h) k hk
structure DS(ty e:TypeId)(low:Nat)(w:World)(S:Nat)(v:Value)(fs:List FD)(left:Int):Prop where
 st:w.heap[S]?=Y (.cells #[v,I T left] ty (0,0))
 row:w.ownsRow low e 3 v fs.length (fs.flatMap FD.cells)
section
variable {ty e : TypeId} {low : Nat} {w : World} {S : Nat} {v : Value} {fs : List FD} {left : Int}
theorem DS.lt(h:DS ty e low w S v fs left):S<w.heap.size:=(Array.getElem?_eq_some_iff.1 h.st).1
theorem DS.cell(h:DS ty e low w S v fs left)(i:Nat):w.cell? ⟨S,i,Z⟩=#[v,I T left][i]?:=by simp[World.cell?,h.st]
theorem DS.free(h:DS ty e low w S v fs left)(i:Nat):w.frozen? ⟨S,i,Z⟩=false:=by simp[World.frozen?,h.st]
theorem DS.off(h:DS ty e low w S v fs left)(hne:ty≠e):v.ownBlock≠some S:=by
 intro hh;rcases h.row.2 with⟨rfl,_⟩|⟨g,cap,cur,rfl,_,hg,_⟩
 ·simp[Value.ownBlock]at hh
 ·simp[Value.ownBlock]at hh;subst hh;rw[h.st]at hg;simp at hg;exact hne hg.2
theorem DS.kept(h:DS ty e low w S v fs left){w':World}(h1:w'.heap[S]?=w.heap[S]?)(h2:∀g,v.ownBlock=Y g->w'.heap[g]?=w.heap[g]?):DS ty e low w' S v fs left:=by
 refine⟨h1.trans h.st,h.row.1,?_⟩;rcases h.row.2 with h0|⟨g,cap,cur,hv,hb,hg,h3⟩
 ·exact .inl h0
 ·exact .inr ⟨g,cap,cur,hv,hb,(h2 g (by rw[hv];rfl)).trans hg,h3⟩
theorem nK(w:World)(S:Nat)(cur:Array Value)(t:TypeId)(i:Nat)(u:Value)(h:w.heap[S]?=Y (.cells cur t (0,0))):(w.setCell ⟨S,i,Z⟩ u).heap[S]?=Y (.cells (cur.setIfInBounds i u) t (0,0)):=by
 obtain⟨hl,he⟩:=Array.getElem?_eq_some_iff.1 h;simp[World.setCell,Array.getElem_modify,he,hl]
theorem DS.relay(h:DS ty e low w S v fs left)(hne:ty≠e)(l:Int):DS ty e low (w.setCell ⟨S,1,Z⟩ (I T l)) S v fs l:=by
 have hoff:=h.off hne;refine⟨by rw[nK w S _ _ 1 _ h.st];rfl,h.row.1,?_⟩;rcases h.row.2 with h0|⟨g,cap,cur,hv,hb,hg,h3⟩
 ·exact .inl h0
 ·refine .inr ⟨g,cap,cur,hv,hb,?_,h3⟩;rw[Below.heap_setCell _ _ _ _ (by intro hh;apply hoff;rw[hv,hh];rfl)];exact hg
end
theorem kP(low S:Nat)(v:Value)(fs:List FD)(left:Int)(w:World)(h:DS 98 107 low w S v fs left)(hb:-9223372036854775808<=left/\left<=9223372036854775807):
  Calls pG 76 #[P0 (Y ⟨S,0,Z⟩)] w fun r w'=>r=.returned (.bool (decide (left≠0)))/\w'=if 0<left then w.setCell ⟨S,1,Z⟩ (I T (left - 1)) else w:=by
 have c1:=h.cell 1;have f1:=h.free 1;simp at c1;clear h
 by_cases h0:left=0
 ·subst h0;go_enter Tryz.func76,Tryz.ntmps76;go_wp2;go_ret;exact⟨rfl,rfl⟩
 ·have q0:(left==0)=false:=by simpa using h0
  by_cases h1:0<left
  ·have HP:Hid (decide (left≠0)=true/\(if 0<left then w.setCell ⟨S,1,Z⟩ (I T (left - 1)) else w)=w.setCell ⟨S,1,Z⟩ (I T (left - 1))):=⟨by simpa using h0,if_pos h1⟩;go_enter Tryz.func76,Tryz.ntmps76;go_wp2;go_ret;exact⟨rfl,rfl⟩
  ·have HP:Hid (decide (left≠0)=true/\(if 0<left then w.setCell ⟨S,1,Z⟩ (I T (left - 1)) else w)=w):=⟨by simpa using h0,if_neg h1⟩;go_enter Tryz.func76,Tryz.ntmps76;go_wp2;go_ret;exact⟨rfl,rfl⟩
theorem pF:(Tryz.prog.info? 107).map (fun i=>(i.zero,i.size,i.bytes))=Y (Y (.agg #[.string ⟨#[]⟩,.string ⟨#[]⟩,I T 0]),3,40):=by kernel_rfl
theorem gP{w:World}{base e n:Nat}{v:Value}{xs:List Value}(h:w.ownsRow base e 3 v n xs):∃a c,v=J a n c/\(n=0∨∃g,a=Y ⟨g,0,Z⟩/\base<=g/\g<w.heap.size/\∀j u,xs[j]?=Y u->w.cell? ⟨g,j,Z⟩=Y u):=by
 rcases h.2 with⟨rfl,rfl⟩|⟨g,cap,cur,rfl,hb,hg,_⟩
 ·exact⟨none,0,rfl,.inl rfl⟩
 ·refine⟨_,cap,rfl,.inr ⟨g,rfl,hb,(h.lt g rfl).2,fun j u hj=>?_⟩⟩;have:=h.cells (g:=g) rfl j u hj;rw[Go.WideShapes.add_plain]at this
  simpa using this
def eQ(fs:List FD)(nm:List UInt8):Option Nat:=fs.findIdx? (fun f=>f.n==nm)
def jM(fs:List FD)(nm:List UInt8):Int:=match eQ fs nm with
 |none=> -1
 |some i=>(i:Int)
theorem BN{fs:List FD}{nm:List UInt8}{t:Nat}(h:t<fs.length)(h1:(fs[t].n==nm)=true)(h2:∀j (hj:j<fs.length),j<t->(fs[j].n==nm)=false):eQ fs nm=Y t:=by
 unfold eQ;rw[List.findIdx?_eq_some_iff_getElem];refine⟨h,h1,fun j hj=>?_⟩;rw[h2 j (by omega) hj];simp
theorem BO{fs:List FD}{nm:List UInt8}(h2:∀j (hj:j<fs.length),(fs[j].n==nm)=false):eQ fs nm=none:=by
 unfold eQ;rw[List.findIdx?_eq_none_iff];intro f hf;obtain⟨j,hj,rfl⟩:=List.getElem_of_mem hf;exact h2 j hj
theorem lT(low S:Nat)(v:Value)(fs:List FD)(left:Int)(nm:List UInt8)(w:World)(h:DS 98 107 low w S v fs left)(hl:fs.length<=4611686018427387904):
  Calls pG 77 #[P0 (Y ⟨S,0,Z⟩),.string (aC nm)] w fun r w'=>r=.returned (I T (jM fs nm))/\w'=w:=by
 have c0:=h.cell 0;simp at c0;obtain⟨a,c,rfl,hrow⟩:=gP h.row;have HR:Hid _:=hrow;clear h hrow;go_enter Tryz.func77,Tryz.ntmps77;go_wp2
 go_loop [11,5] (fun ix _=>∃t:Nat,t<=fs.length/\ix=I T t/\∀j (hj:j<fs.length),j<t->(fs[j].n==nm)=false) (fun ix _=>fs.length - (intOf ix).toNat)
 case atStart=>exact⟨0,by omega,rfl,fun j hj h0=>by omega⟩
 case round=>
  obtain⟨t,ht,rfl,hno⟩:=hrel;have HNo:Hid _:=hno;clear hno
  by_cases htl:t<fs.length
  ·obtain⟨g,rfl,_,_,hcc⟩:=HR.out.resolve_left (by omega);have j0:=hcc _ _ (fV fs t htl 0 (by omega));simp[FD.cells]at j0;have htl2:(t:Int)<(fs.length:Int):=by omega
   clear hcc
   cases hq:(fs[t].n==nm) with
   |true=>
    have q:=lL fs[t].n nm;rw[hq]at q;have HF:Hid (jM fs nm=(t:Int)):=by unfold Hid jM;rw[BN htl hq HNo.out]
    clear hq;generalize fs[t].n=nt at*;go_wp2;go_ret;exact⟨iP HF.out.symm,rfl⟩
   |false=>
    have q:=lL fs[t].n nm;rw[hq]at q;have HQ:=aA hq;clear hq;generalize fs[t].n=nt at j0 q;go_wp2
    go_round
    case rel=>
     refine⟨t+1,by omega,by go_num,fun j hj hjt=>?_⟩
     by_cases he:j=t
     ·subst he;exact HQ.out
     ·exact HNo.out j hj (by omega)
    case measure=>simp[intOf];omega
  ·have HF:Hid (jM fs nm = -1):=by unfold Hid jM;rw[BO (fun j hj=>HNo.out j hj (by omega))]
   go_wp2;go_ret
   exact⟨iP HF.out.symm,rfl⟩
def aX(fs:List FD)(nm:List UInt8):List FD:=fs.filter (fun f=>f.n != nm)
theorem BP(fs:List FD)(nm:List UInt8)(t:Nat)(h:t<fs.length):aX (fs.take (t+1)) nm=if(fs[t].n==nm)=true then aX (fs.take t) nm else aX (fs.take t) nm++[fs[t]]:=by
 unfold aX;rw[List.take_succ_eq_append_getElem h,List.filter_append];cases hq:(fs[t].n==nm)<;>simp[hq,bne]
theorem DR(fs:List FD)(nm:List UInt8)(t:Nat):(aX (fs.take t) nm).length<=t:=by
 unfold aX;exact Nat.le_trans (List.length_filter_le _ _) (by rw[List.length_take];omega)
theorem nM(low S:Nat)(v:Value)(fs:List FD)(left:Int)(nm:List UInt8)(w:World)(h:DS 98 107 low w S v fs left)(hl:fs.length<=3000000000):
  Calls pG 80 #[P0 (Y ⟨S,0,Z⟩),.string (aC nm)] w fun r w'=>∃v',r=.returned v'/\w'.ownsRow w.heap.size 107 3 v' (aX fs nm).length ((aX fs nm).flatMap FD.cells)/\Below w.heap.size w w':=by
 obtain⟨i0,hi0,hz0,hz1,hz2⟩:=info_parts pF;have c0:=h.cell 0;simp at c0;have hS:=h.lt;obtain⟨a,c,rfl,hrow⟩:=gP h.row;have HR:Hid _:=hrow;have HT:Hid (fs.take fs.length=fs):=List.take_length;clear h hrow;go_enter Tryz.func80,Tryz.ntmps80;go_wp2
 go_loopw [5,13,7] (fun lx ix _ wr=>∃t:Nat,t<=fs.length/\ix=I T t/\wr.ownsRow w.heap.size 107 3 lx (aX (fs.take t) nm).length ((aX (fs.take t) nm).flatMap FD.cells)/\Below w.heap.size w wr) (fun _ ix _ _=>fs.length - (intOf ix).toNat)
 case atStart=>exact⟨0,by omega,rfl,World.ownsRow_nil _ _ _ _,Below.refl _ _⟩
 case round=>
  obtain⟨t,ht,rfl,ho,hb⟩:=hrel;have HO:=aA ho;have HB:=aA hb;have hc:=(hb.cell (p:=⟨S,0,Z⟩) hS).trans c0;have hbs:=hb.size
  obtain⟨la,lc,rfl⟩:∃la lc,u5=J la (aX (fs.take t) nm).length lc:=by
   obtain⟨x,y,h1,_⟩:=gP ho;exact⟨x,y,h1⟩
  clear ho hb;have hwl:=DR fs nm t
  by_cases htl:t<fs.length
  ·obtain⟨g,rfl,_,hgl,hcc⟩:=HR.out.resolve_left (by omega);have j0:=(HB.out.cell (p:=⟨g,t*3+0,Z⟩) hgl).trans (hcc _ _ (fV fs t htl 0 (by omega)));have j1:=(HB.out.cell (p:=⟨g,t*3+1,Z⟩) hgl).trans (hcc _ _ (fV fs t htl 1 (by omega)));have j2:=(HB.out.cell (p:=⟨g,t*3+2,Z⟩) hgl).trans (hcc _ _ (fV fs t htl 2 (by omega)));simp[FD.cells]at j0 j1 j2;have htl2:(t:Int)<(fs.length:Int):=by omega
   have HW:Hid _:=BP fs nm t htl;clear hcc;generalize fs[t]=F at*
   cases hq:(F.n==nm) with
   |true=>
    have q:=lL F.n nm;rw[hq]at q;have HW2:Hid (aX (fs.take (t+1)) nm=aX (fs.take t) nm):=by unfold Hid;rw[HW.out,hq];rfl
    clear hq HW;go_wp2
    go_roundw
    case rel=>exact⟨t+1,by omega,by go_num,by rw[HW2.out];exact HO.out.alloc _,HB.out.alloc hbs _⟩
    case measure=>simp[intOf];omega
   |false=>
    have q:=lL F.n nm;rw[hq]at q;have HW2:Hid (aX (fs.take (t+1)) nm=aX (fs.take t) nm++[F]):=by unfold Hid;rw[HW.out,hq];rfl
    clear hq HW
    go_wp2_with(at_builtin;go_loud (refine wpList_append_own _ rfl _ _ 96 rfl w.heap.size 107 i0 (.agg #[.string ⟨#[]⟩,.string ⟨#[]⟩,I T 0]) 3 40 Tryz.underlying96 hi0 hz0 hz1 hz2 rfl (by decide) _ (aX (fs.take t) nm).length ((aX (fs.take t) nm).flatMap FD.cells) rfl (World.ownsRow.alloc (World.ownsRow.alloc HO.out _) _) ⟨wr.heap.size+1,0,Z⟩ 1 1 [Value.string (aC F.n),Value.string (aC F.d),I T (F.s:Int)] rfl rfl ?c1 ?c2 ?c3 ?c4 ?c5 ?_))
    case c1=>
     intro j u hu;rw[Go.WideShapes.add_plain];refine(World.cell?_alloc_at _ _ _ _ (by simp)).trans ?_
     simpa using hu
    case c2=>intro u hu;simp at hu;rcases hu with rfl|rfl|rfl<;>rfl
    case c3=>unfold maxLen;omega
    case c4=>omega
    case c5=>simp;omega
    intro v' w9 ho' hg' _
    obtain⟨xa,xc,rfl⟩:∃la lc,v'=J la ((aX (fs.take t) nm).length+1) lc:=by
     obtain⟨x,y,h1,_⟩:=gP ho';exact⟨x,y,h1⟩
    have HN:Hid (w9.ownsRow w.heap.size 107 3 (J xa ((aX (fs.take t) nm).length+1) xc) (aX (fs.take (t+1)) nm).length ((aX (fs.take (t+1)) nm).flatMap FD.cells)):=by
     unfold Hid;rw[HW2.out,List.length_append,List.flatMap_append];simp only[List.length_cons,List.length_nil,List.flatMap_cons,List.flatMap_nil,List.append_nil];exact ho'
    have hb9:=((HB.out.alloc hbs _).alloc (by simp;omega) _).grown hg' (by simp;omega) (fun g hg=>(World.ownsRow.lt HO.out g hg).1);have HB9:Hid _:=hb9;clear ho' hg' hb9;go_wp2
    go_roundw
    case rel=>exact⟨t+1,by omega,by go_num,HN.out,HB9.out⟩
    case measure=>simp[intOf];omega
  ·obtain rfl:t=fs.length:=by omega
   have HO2:Hid (wr.ownsRow w.heap.size 107 3 (J la (aX (fs.take fs.length) nm).length lc) (aX fs nm).length ((aX fs nm).flatMap FD.cells)):=by have:=HO.out;unfold Hid;rw[HT.out]at this⊢;exact this
   clear HO;go_wp2;go_ret;exact⟨_,rfl,HO2.out,HB.out⟩
structure cR(A:Nat->Prop)(w w':World):Prop where
 os:w'.os=w.os
 tape:w'.tape=w.tape
 output:w'.output=w.output
 size:w.heap.size<=w'.heap.size
 block:∀k,k<w.heap.size->¬A k->w'.heap[k]?=w.heap[k]?
theorem cR.refl(A:Nat->Prop)(w:World):cR A w w:=⟨rfl,rfl,rfl,Nat.le_refl _,fun _ _ _=>rfl⟩
theorem cR.of_below{A:Nat->Prop}{w w':World}(h:Below w.heap.size w w'):cR A w w':=⟨h.os,h.tape,h.output,h.size,fun k hk _=>h.block k hk⟩
theorem cR.trans{A B:Nat->Prop}{w w1 w2:World}(h:cR A w w1)(k:cR B w1 w2)(hB:∀b,b<w.heap.size->B b->A b):cR A w w2:=
 ⟨k.os.trans h.os,k.tape.trans h.tape,k.output.trans h.output,Nat.le_trans h.size k.size,fun b hb hA=>(k.block b (Nat.lt_of_lt_of_le hb h.size) (fun hh=>hA (hB b hb hh))).trans (h.block b hb hA)⟩
theorem cR.set(w:World)(S i:Nat)(u:Value):cR (fun b=>b=S) w (w.setCell ⟨S,i,Z⟩ u):=
 have h:=aD.setCell w ⟨S,i,Z⟩ u
 ⟨h.os,h.tape,h.output,Nat.le_of_eq h.size.symm,fun k _ hk=>h.block k hk⟩
theorem BQ(w:World)(a:Addr)(u:Value):w.grownBy (w.setCell a u) (Y a.block):=
 have h:=aD.setCell w a u
 ⟨h.os,h.tape,h.output,Nat.le_of_eq h.size.symm,fun k _ hk=>h.block k (fun e=>hk (by rw[e]))⟩
theorem tD{w:World}{base base':Nat}{e:TypeId}{size:Nat}{v:Value}{n:Nat}{xs:List Value}(h:w.ownsRow base e size v n xs)(hb:base'<=base):w.ownsRow base' e size v n xs:=by
 refine⟨h.1,?_⟩;rcases h.2 with h0|⟨g,cap,cur,h1,h2,h3⟩
 ·exact .inl h0
 ·exact .inr ⟨g,cap,cur,h1,Nat.le_trans hb h2,h3⟩
def cA(ty e:TypeId)(low:Nat)(w:World)(S:Nat)(v:Value)(fs':List FD)(left':Int)(w':World):Prop:=
 ∃v',DS ty e low w' S v' fs' left'/\cR (fun b=>b=S∨some b=v.ownBlock) w w'/\∀g,v'.ownBlock=Y g->v.ownBlock=Y g∨w.heap.size<=g
theorem DS.store{ty e:TypeId}{low low':Nat}{w2:World}{R:Nat}{v v2:Value}{fs2:List FD}{left:Int}(hst:w2.heap[R]?=Y (.cells #[v,I T left] ty (0,0)))(ho:w2.ownsRow low' e 3 v2 fs2.length (fs2.flatMap FD.cells))(hlow:low<=low')(hne:v2.ownBlock≠some R):
  DS ty e low (w2.setCell ⟨R,0,Z⟩ v2) R v2 fs2 left:=by
 refine⟨by rw[nK w2 R _ _ 0 _ hst];rfl,?_⟩;refine(tD ho hlow).kept (BQ w2 ⟨R,0,Z⟩ v2) ?_
 by_cases hn:v2.ownBlock=none
 ·exact .inl hn
 ·exact .inr hne
theorem DS.later{ty e:TypeId}{low:Nat}{w w':World}{S:Nat}{v:Value}{fs:List FD}{left:Int}(h:DS ty e low w S v fs left)(hb:Below w.heap.size w w'):DS ty e low w' S v fs left:=
 h.kept (hb.block S h.lt) (fun g hg=>hb.block g (h.row.lt g hg).2)
def fH(fs:List FD)(nm:List UInt8):Option FD:=fs.find? (fun f=>f.n==nm)
theorem BR{fs:List FD}{nm:List UInt8}{t:Nat}(h:t<fs.length)(h1:(fs[t].n==nm)=true)(h2:∀j (hj:j<fs.length),j<t->(fs[j].n==nm)=false):fH fs nm=Y fs[t]:=by
 unfold fH;rw[List.find?_eq_some_iff_getElem];refine⟨h1,t,h,rfl,fun j hj=>?_⟩;rw[h2 j (by omega) hj];rfl
theorem BS{fs:List FD}{nm:List UInt8}(h2:∀j (hj:j<fs.length),(fs[j].n==nm)=false):fH fs nm=none:=by
 unfold fH;rw[List.find?_eq_none];intro f hf;obtain⟨j,hj,rfl⟩:=List.getElem_of_mem hf;rw[h2 j hj];simp
def fY:FD:=⟨[],[],0⟩
def pN(o:Option FD):FD:=o.getD fY
def cZ(left:Int):Int:=if 0<left then left - 1 else left
theorem kX{ty e:TypeId}{low:Nat}{w:World}{S:Nat}{v:Value}{fs:List FD}{left:Int}(h:DS ty e low w S v fs left)(hne:ty≠e)(w':World)(hw:w'=if 0<left then w.setCell ⟨S,1,Z⟩ (I T (left - 1)) else w):
  DS ty e low w' S v fs (cZ left)/\cR (fun b=>b=S) w w'/\w'.heap.size=w.heap.size:=by
 unfold cZ
 by_cases h0:0<left
 ·rw[if_pos h0]at hw⊢;subst hw;exact⟨h.relay hne _,cR.set _ _ _ _,(aD.setCell w ⟨S,1,Z⟩ _).size⟩
 ·rw[if_neg h0]at hw⊢;subst hw;exact⟨h,cR.refl _ _,rfl⟩
theorem cA.pre{ty e:TypeId}{low S:Nat}{w w1 w':World}{v:Value}{fs':List FD}{left':Int}(hk:cR (fun b=>b=S) w w1)(h:cA ty e low w1 S v fs' left' w'):cA ty e low w S v fs' left' w':=by
 obtain⟨v',h1,h2,h3⟩:=h;refine⟨v',h1,?_,fun g hg=>?_⟩
 ·refine⟨h2.os.trans hk.os,h2.tape.trans hk.tape,h2.output.trans hk.output,Nat.le_trans hk.size h2.size,fun k hk1 hA=>?_⟩;exact(h2.block k (Nat.lt_of_lt_of_le hk1 hk.size) hA).trans (hk.block k hk1 (fun hh=>hA (.inl hh)))
 ·rcases h3 g hg with h4|h4
  ·exact .inl h4
  ·exact .inr (Nat.le_trans hk.size h4)
theorem cA.same{ty e:TypeId}{low S:Nat}{w w':World}{v:Value}{fs:List FD}{left:Int}(h:DS ty e low w' S v fs left)(hk:cR (fun b=>b=S) w w'):cA ty e low w S v fs left w':=
 ⟨v,h,⟨hk.os,hk.tape,hk.output,hk.size,fun k h1 h2=>hk.block k h1 (fun hh=>h2 (.inl hh))⟩,fun g hg=>.inl hg⟩
structure eB(w:World)(D H S:Nat):Prop where
 d:w.heap[D]?=Y (.cells #[P0 (Y ⟨S,0,Z⟩)] 100 (0,0))
 h:w.heap[H]?=Y (.cells #[P0 (Y ⟨S,0,Z⟩)] 102 (0,0))
theorem eB.cd{w:World}{D H S:Nat}(h:eB w D H S):w.cell? ⟨D,0,Z⟩=Y (P0 (Y ⟨S,0,Z⟩)):=by simp[World.cell?,h.d]
theorem sK(low:Nat)(w:World):
  Calls pG 12 #[] w fun r w'=>r=.returned (.tuple #[P0 (Y ⟨w.heap.size+1,0,Z⟩),P0 (Y ⟨w.heap.size+2,0,Z⟩)])/\DS 98 107 low w' w.heap.size (J Z 0 0) [] (-1)/\eB w' (w.heap.size+1) (w.heap.size+2) w.heap.size/\Below w.heap.size w w'/\w'.heap.size=w.heap.size+3:=by
 have hb0:=(Below.refl w.heap.size w).alloc (Nat.le_refl _) (G #[J Z 0 0,I T (-1)] 98);have h0:(w.alloc (G #[J Z 0 0,I T (-1)] 98)).heap[w.heap.size]?=Y (.cells #[J Z 0 0,I T (-1)] 98 (0,0)):=heap_alloc_new w _;have hs0:(w.alloc (G #[J Z 0 0,I T (-1)] 98)).heap.size=w.heap.size+1:=by simp
 have hP:∀W0:World,W0.heap.size=w.heap.size+1->W0.heap[w.heap.size]?=Y (.cells #[J Z 0 0,I T (-1)] 98 (0,0))->Below w.heap.size w W0->
   DS 98 107 low ((W0.alloc (G #[P0 (Y ⟨w.heap.size,0,Z⟩)] 100)).alloc (G #[P0 (Y ⟨w.heap.size,0,Z⟩)] 102)) w.heap.size (J Z 0 0) [] (-1)/\eB ((W0.alloc (G #[P0 (Y ⟨w.heap.size,0,Z⟩)] 100)).alloc (G #[P0 (Y ⟨w.heap.size,0,Z⟩)] 102)) (w.heap.size+1) (w.heap.size+2) w.heap.size/\Below w.heap.size w ((W0.alloc (G #[P0 (Y ⟨w.heap.size,0,Z⟩)] 100)).alloc (G #[P0 (Y ⟨w.heap.size,0,Z⟩)] 102))/\((W0.alloc (G #[P0 (Y ⟨w.heap.size,0,Z⟩)] 100)).alloc (G #[P0 (Y ⟨w.heap.size,0,Z⟩)] 102)).heap.size=w.heap.size+3:=by
  intro W0 e0 e1 e2;have s1:(W0.alloc (G #[P0 (Y ⟨w.heap.size,0,Z⟩)] 100)).heap.size=w.heap.size+2:=by simp[e0]
  refine⟨⟨?_,World.ownsRow_nil _ _ _ _⟩,⟨?_,?_⟩,(e2.alloc (by omega) _).alloc (by simp;omega) _,by simp[e0]⟩
  ·exact(heap_alloc_old _ _ (by omega)).trans ((heap_alloc_old _ _ (by omega)).trans e1)
  ·refine(heap_alloc_old _ _ (by omega)).trans ?_;have:=heap_alloc_new W0 (G #[P0 (Y ⟨w.heap.size,0,Z⟩)] 100);rw[e0]at this;exact this
  ·have:=heap_alloc_new (W0.alloc (G #[P0 (Y ⟨w.heap.size,0,Z⟩)] 100)) (G #[P0 (Y ⟨w.heap.size,0,Z⟩)] 102);rw[s1]at this;exact this
 have HP:=hP _ hs0 h0 hb0;have HP':Hid _:=HP;clear hP HP h0 hb0;go_enter Tryz.func12,Tryz.ntmps12;go_wp2;exact bodyPost_ret (v:=.tuple #[P0 (Y ⟨w.heap.size+1,0,Z⟩),P0 (Y ⟨w.heap.size+2,0,Z⟩)]) (by simp[results,Tryz.results12,go_sem]) rfl ⟨rfl,HP'.out⟩
theorem eB.later{w w':World}{D H S:Nat}(h:eB w D H S)(h1:w'.heap[D]?=w.heap[D]?)(h2:w'.heap[H]?=w.heap[H]?):eB w' D H S:=⟨h1.trans h.d,h2.trans h.h⟩
theorem lW(fs:List FD)(nm:List UInt8):jM fs nm = -1/\eQ fs nm=none∨∃i:Nat,jM fs nm=(i:Int)/\eQ fs nm=Y i/\i<fs.length:=by
 unfold jM
 cases h:eQ fs nm with
 |none=>exact .inl ⟨rfl,rfl⟩
 |some i=>
  refine .inr ⟨i,rfl,rfl,?_⟩;unfold eQ at h;rw[List.findIdx?_eq_some_iff_getElem]at h;exact h.1
theorem qH{fs:List FD}{nm:List UInt8}{i:Nat}(h:eQ fs nm=Y i)(hi:i<fs.length):fH fs nm=Y fs[i]:=by
 unfold eQ at h;rw[List.findIdx?_eq_some_iff_getElem]at h;obtain⟨_,h1,h2⟩:=h;exact BR hi h1 (fun j hj hjt=>by have:=h2 j hjt;simpa using this)
theorem pY{fs:List FD}{nm:List UInt8}(h:eQ fs nm=none):fH fs nm=none:=by
 unfold eQ at h;rw[List.findIdx?_eq_none_iff]at h;exact BS (fun j hj=>h _ (List.getElem_mem hj))
theorem DT(low D H S:Nat)(v:Value)(fs:List FD)(left:Int)(nm:List UInt8)(w:World)(hH:eB w D H S)(h:DS 98 107 low w S v fs left)(hl:fs.length<=3000000000):
  Calls pG 41 #[P0 (Y ⟨D,0,Z⟩),.string (aC nm)] w fun r w'=>r=.returned (.bool (fH fs nm).isSome)/\w'=w:=by
 have cd:=hH.cd;clear hH;go_enter Tryz.func41,Tryz.ntmps41
 go_wp2_with fail
 refine(lT low S v fs left nm w h (by omega)).mono ?_;rintro r w' ⟨rfl,hh⟩;replace hh:=hh.symm;subst hh;rcases lW fs nm with⟨h1,h2⟩|⟨i,h1,h2,h3⟩
 ·have HF:Hid ((fH fs nm).isSome=false):=by unfold Hid;rw[pY h2];rfl
  rw[h1];clear h1 h2 h;go_wp2;go_ret;exact⟨dW HF.out.symm,rfl⟩
 ·have HF:Hid ((fH fs nm).isSome=true):=by unfold Hid;rw[qH h2 h3];rfl
  rw[h1];clear h1 h2 h;go_wp2;go_ret;exact⟨dW HF.out.symm,rfl⟩
theorem BT(low D H S:Nat)(v:Value)(fs:List FD)(left:Int)(nm:List UInt8)(w:World)(hH:eB w D H S)(h:DS 98 107 low w S v fs left)(hl:fs.length<=3000000000):
  Calls pG 40 #[P0 (Y ⟨D,0,Z⟩),.string (aC nm)] w fun r w'=>r=.returned (.string (aC (pN (fH fs nm)).d))/\w'=w:=by
 have cd:=hH.cd;have c0:=h.cell 0;simp at c0;clear hH;go_enter Tryz.func40,Tryz.ntmps40
 go_wp2_with fail
 refine(lT low S v fs left nm w h (by omega)).mono ?_;rintro r w' ⟨rfl,hh⟩;replace hh:=hh.symm;subst hh;rcases lW fs nm with⟨h1,h2⟩|⟨i,h1,h2,h3⟩
 ·have HF:Hid (aC (pN (fH fs nm)).d=⟨#[]⟩):=by unfold Hid;rw[pY h2];rfl
  rw[h1];clear h1 h2 h;go_wp2;go_ret;exact⟨by rw[HF.out];rfl,rfl⟩
 ·have HF:Hid (aC (pN (fH fs nm)).d=aC fs[i].d):=by unfold Hid;rw[qH h2 h3];rfl
  rw[h1];obtain⟨a,c,rfl,hrow⟩:=gP h.row;obtain⟨g,rfl,_,_,hcc⟩:=hrow.resolve_left (by omega);have j1:=hcc _ _ (fV fs i h3 1 (by omega));simp[FD.cells]at j1;have h3i:(i:Int)<(fs.length:Int):=by omega
  clear h1 h2 h hcc hrow;go_wp2;go_ret;exact⟨by rw[HF.out];rfl,rfl⟩
theorem nN(low D H S:Nat)(v:Value)(fs:List FD)(left:Int)(w:World)(hH:eB w D H S)(h:DS 98 107 low w S v fs left):
  Calls pG 42 #[P0 (Y ⟨D,0,Z⟩)] w fun r w'=>r=.returned (.bool (left==0))/\w'=w:=by
 have cd:=hH.cd;have c1:=h.cell 1;simp at c1;clear hH h;go_enter Tryz.func42,Tryz.ntmps42;go_wp2;go_ret;exact⟨rfl,rfl⟩
theorem DS.drew{ty e:TypeId}{low:Nat}{w:World}{S:Nat}{v:Value}{fs:List FD}{left:Int}(h:DS ty e low w S v fs left):DS ty e low w.drew S v fs left:=⟨h.st,h.row⟩
end
structure aB(w:World)(B:Nat)(cs:Array Value)(t:TypeId):Prop where
 blk:w.heap[B]?=Y (.cells cs t (0,0))
section
variable {w w' : World} {B C : Nat} {cs : Array Value} {t : TypeId}
theorem aB.lt(h:aB w B cs t):B<w.heap.size:=(Array.getElem?_eq_some_iff.1 h.blk).1
theorem aB.cell(h:aB w B cs t)(i:Nat):w.cell? ⟨B,i,Z⟩=cs[i]?:=by simp[World.cell?,h.blk]
theorem aB.free(h:aB w B cs t)(i:Nat):w.frozen? ⟨B,i,Z⟩=false:=by simp[World.frozen?,h.blk]
theorem aB.later(h:aB w B cs t)(hb:Below w.heap.size w w'):aB w' B cs t:=⟨(hb.block B h.lt).trans h.blk⟩
theorem aB.low(h:aB w B cs t)(hb:Below C w w')(hB:B<C):aB w' B cs t:=⟨(hb.block B hB).trans h.blk⟩
theorem aB.same(h:aB w B cs t)(hb:w'.heap[B]?=w.heap[B]?):aB w' B cs t:=⟨hb.trans h.blk⟩
theorem aB.set(h:aB w B cs t)(i:Nat)(u:Value):aB (w.setCell ⟨B,i,Z⟩ u) B (cs.setIfInBounds i u) t:=⟨nK w B cs t i u h.blk⟩
theorem aB.setO(h:aB w B cs t)(hne:B≠C)(i:Nat)(u:Value):aB (w.setCell ⟨C,i,Z⟩ u) B cs t:=⟨((aD.setCell w ⟨C,i,Z⟩ u).block B hne).trans h.blk⟩
theorem aB.old(h:aB w B cs t)(o:Obj):aB (w.alloc o) B cs t:=⟨(heap_alloc_old w o h.lt).trans h.blk⟩
theorem aB.new(w:World)(cs:Array Value)(t:TypeId):aB (w.alloc (G cs t)) w.heap.size cs t:=⟨heap_alloc_new _ _⟩
theorem aB.drew(h:aB w B cs t):aB w.drew B cs t:=⟨h.blk⟩
theorem aB.grown(h:aB w B cs t){x:Option Nat}(hg:w.grownBy w' x)(hne:x≠some B):aB w' B cs t:=⟨(hg.block B h.lt (fun hh=>hne hh.symm)).trans h.blk⟩
theorem aB.ne{cs':Array Value}{t':TypeId}(h:aB w B cs t)(h':aB w C cs' t')(ht:t≠t'):B≠C:=by
 intro hh;subst hh;have:=h.blk.symm.trans h'.blk;simp at this;exact ht this.2
theorem bX{A:Nat}{a b:World}(h:Below A a b){C:Nat}(hC:A<=C)(i:Nat)(u:Value):Below A a (b.setCell ⟨C,i,Z⟩ u):=h.trans ((aD.setCell b ⟨C,i,Z⟩ u).below hC)
theorem mP(a:World)(C i:Nat)(u:Value):(a.setCell ⟨C,i,Z⟩ u).heap.size=a.heap.size:=(aD.setCell a ⟨C,i,Z⟩ u).size
end
theorem aB.c11{w:World}{B:Nat}{t:TypeId}{a0 a1 a2 a3 a4 a5 a6 a7 a8 a9 a10:Value}(h:aB w B #[a0,a1,a2,a3,a4,a5,a6,a7,a8,a9,a10] t):w.cell? ⟨B,0,Z⟩=Y a0/\w.cell? ⟨B,1,Z⟩=Y a1/\w.cell? ⟨B,2,Z⟩=Y a2/\w.cell? ⟨B,3,Z⟩=Y a3/\w.cell? ⟨B,4,Z⟩=Y a4/\w.cell? ⟨B,5,Z⟩=Y a5/\w.cell? ⟨B,6,Z⟩=Y a6/\w.cell? ⟨B,7,Z⟩=Y a7/\w.cell? ⟨B,8,Z⟩=Y a8/\w.cell? ⟨B,9,Z⟩=Y a9/\w.cell? ⟨B,10,Z⟩=Y a10:=⟨h.cell 0,h.cell 1,h.cell 2,h.cell 3,h.cell 4,h.cell 5,h.cell 6,h.cell 7,h.cell 8,h.cell 9,h.cell 10⟩
theorem aB.c14{w:World}{B:Nat}{t:TypeId}{a0 a1 a2 a3 a4 a5 a6 a7 a8 a9 a10 a11 a12 a13:Value}(h:aB w B #[a0,a1,a2,a3,a4,a5,a6,a7,a8,a9,a10,a11,a12,a13] t):w.cell? ⟨B,0,Z⟩=Y a0/\w.cell? ⟨B,1,Z⟩=Y a1/\w.cell? ⟨B,2,Z⟩=Y a2/\w.cell? ⟨B,3,Z⟩=Y a3/\w.cell? ⟨B,4,Z⟩=Y a4/\w.cell? ⟨B,5,Z⟩=Y a5/\w.cell? ⟨B,6,Z⟩=Y a6/\w.cell? ⟨B,7,Z⟩=Y a7/\w.cell? ⟨B,8,Z⟩=Y a8/\w.cell? ⟨B,9,Z⟩=Y a9/\w.cell? ⟨B,10,Z⟩=Y a10/\w.cell? ⟨B,11,Z⟩=Y a11/\w.cell? ⟨B,12,Z⟩=Y a12/\w.cell? ⟨B,13,Z⟩=Y a13:=⟨h.cell 0,h.cell 1,h.cell 2,h.cell 3,h.cell 4,h.cell 5,h.cell 6,h.cell 7,h.cell 8,h.cell 9,h.cell 10,h.cell 11,h.cell 12,h.cell 13⟩
theorem aB.s11{w:World}{B:Nat}{t:TypeId}{a0 a1 a2 a3 a4 a5 a6 a7 a8 a9 a10:Value}(h:aB w B #[a0,a1,a2,a3,a4,a5,a6,a7,a8,a9,a10] t)(v0 v1 v2 v3 v4 v5 v6 v7 v8 v9 v10:Value):aB (((((((((((w.setCell ⟨B,0,none⟩ v0).setCell ⟨B,1,none⟩ v1).setCell ⟨B,2,none⟩ v2).setCell ⟨B,3,none⟩ v3).setCell ⟨B,4,none⟩ v4).setCell ⟨B,5,none⟩ v5).setCell ⟨B,6,none⟩ v6).setCell ⟨B,7,none⟩ v7).setCell ⟨B,8,none⟩ v8).setCell ⟨B,9,none⟩ v9).setCell ⟨B,10,none⟩ v10) B #[v0,v1,v2,v3,v4,v5,v6,v7,v8,v9,v10] t:=by
 have h9:=(((((((((((h.set 0 v0).set 1 v1).set 2 v2).set 3 v3).set 4 v4).set 5 v5).set 6 v6).set 7 v7).set 8 v8).set 9 v9).set 10 v10)
 simpa using h9
theorem lM(B:Nat){A:Nat}{a w:World}(h:Below A a w)(hC:A≤B)(v0 v1 v2 v3 v4 v5 v6 v7 v8 v9 v10:Value):Below A a (((((((((((w.setCell ⟨B,0,none⟩ v0).setCell ⟨B,1,none⟩ v1).setCell ⟨B,2,none⟩ v2).setCell ⟨B,3,none⟩ v3).setCell ⟨B,4,none⟩ v4).setCell ⟨B,5,none⟩ v5).setCell ⟨B,6,none⟩ v6).setCell ⟨B,7,none⟩ v7).setCell ⟨B,8,none⟩ v8).setCell ⟨B,9,none⟩ v9).setCell ⟨B,10,none⟩ v10):=bX (bX (bX (bX (bX (bX (bX (bX (bX (bX (bX (h) hC 0 v0) hC 1 v1) hC 2 v2) hC 3 v3) hC 4 v4) hC 5 v5) hC 6 v6) hC 7 v7) hC 8 v8) hC 9 v9) hC 10 v10
theorem mA(w:World)(B:Nat)(v0 v1 v2 v3 v4 v5 v6 v7 v8 v9 v10:Value):aD B w (((((((((((w.setCell ⟨B,0,none⟩ v0).setCell ⟨B,1,none⟩ v1).setCell ⟨B,2,none⟩ v2).setCell ⟨B,3,none⟩ v3).setCell ⟨B,4,none⟩ v4).setCell ⟨B,5,none⟩ v5).setCell ⟨B,6,none⟩ v6).setCell ⟨B,7,none⟩ v7).setCell ⟨B,8,none⟩ v8).setCell ⟨B,9,none⟩ v9).setCell ⟨B,10,none⟩ v10):=((((((((((aD.setCell w ⟨B,0,none⟩ v0).trans (aD.setCell _ ⟨B,1,none⟩ v1)).trans (aD.setCell _ ⟨B,2,none⟩ v2)).trans (aD.setCell _ ⟨B,3,none⟩ v3)).trans (aD.setCell _ ⟨B,4,none⟩ v4)).trans (aD.setCell _ ⟨B,5,none⟩ v5)).trans (aD.setCell _ ⟨B,6,none⟩ v6)).trans (aD.setCell _ ⟨B,7,none⟩ v7)).trans (aD.setCell _ ⟨B,8,none⟩ v8)).trans (aD.setCell _ ⟨B,9,none⟩ v9)).trans (aD.setCell _ ⟨B,10,none⟩ v10)
theorem BU(vs:List aS)(e:Int):(aY vs e).ep=e:=by
 unfold aY
 cases h:vs.find? (fun v=>v.ep==e) with
 |none=>rfl
 |some x=>have:=List.find?_some h;simpa using this
def RN.votedN(n:RN)(k e b p s:Int):RN:=if b<(aY n.votes e).pr then n else if k=3 then{n with votes:=fN n.votes ⟨e,b,b,p,s⟩} else{n with votes:=fN n.votes ⟨e,b,(aY n.votes e).wa,(aY n.votes e).pm,(aY n.votes e).st⟩}
def RN.votedA(n:RN)(k e b:Int):List UInt8:=if b<(aY n.votes e).pr then aT 5 n.id e b (aY n.votes e).pr 0 0 0 0 0 [] else if k=3 then aT 4 n.id e b 0 0 0 0 0 0 [] else aT 2 n.id e b (aY n.votes e).wa (aY n.votes e).pm (aY n.votes e).st 0 0 0 []
section
set_option maxRecDepth 20000
theorem sL(fs:List FD)(j:Nat):(fs.flatMap FD.cells)[j]?=if h:j / 3<fs.length then some (fs[j / 3].cells.getD (j%3) undef) else none:=by
 by_cases h:j / 3<fs.length
 ·rw[dif_pos h];have:=fV fs (j / 3) h (j%3) (by omega)
  rwa[show j / 3*3+j%3=j by omega]at this
 ·rw[dif_neg h,List.getElem?_eq_none (by rw[sJ];omega)]
theorem DU(fs:List FD)(i:Nat)(h:i<fs.length)(k:Nat)(hk:k<3)(f':FD)(ho:∀k',k'<3->k'≠k->f'.cells.getD k' undef=fs[i].cells.getD k' undef):
  (fs.flatMap FD.cells).set (i*3+k) (f'.cells.getD k undef)=(fs.set i f').flatMap FD.cells:=by
 apply List.ext_getElem?;intro j;rw[sL (fs.set i f') j]
 by_cases hj:j=i*3+k
 ·subst hj;rw[List.getElem?_set_self (by rw[sJ];omega)];have e1:(i*3+k) / 3=i:=by omega
  have e2:(i*3+k)%3=k:=by omega
  rw[dif_pos (by rw[List.length_set,e1];exact h)];simp only[e1,e2,List.getElem_set_self]
 ·rw[List.getElem?_set_ne (by omega),sL fs j]
  by_cases hl:j / 3<fs.length
  ·rw[dif_pos hl,dif_pos (by rw[List.length_set];exact hl)]
   by_cases hi:j / 3=i
   ·have hm:j%3≠k:=by omega
    have:=ho (j%3) (by omega) hm;simp only[hi,List.getElem_set_self];rw[this]
   ·rw[List.getElem_set_ne (by omega)]
  ·rw[dif_neg hl,dif_neg (by rw[List.length_set];exact hl)]
theorem DS.poke{ty e:TypeId}{low:Nat}{w:World}{S g c:Nat}{fs:List FD}{left:Int}(h:DS ty e low w S (J (Y ⟨g,0,Z⟩) fs.length c) fs left)(hSg:S≠g)(i:Nat)(hi:i<fs.length)(k:Nat)(hk:k<3)(f':FD)(ho:∀k',k'<3->k'≠k->f'.cells.getD k' undef=fs[i].cells.getD k' undef):
  DS ty e low (w.setCell ⟨g,i*3+k,Z⟩ (f'.cells.getD k undef)) S (J (Y ⟨g,0,Z⟩) fs.length c) (fs.set i f') left:=by
 refine⟨((aD.setCell w ⟨g,i*3+k,Z⟩ _).block S hSg).trans h.st,?_⟩;have:=(h.row.stored (i*3+k) (f'.cells.getD k undef)).1;rw[DU fs i hi k hk f' ho]at this;rw[List.length_set];exact this
theorem cR.mono{A B:Nat->Prop}{w w':World}(h:cR A w w')(hAB:∀b,A b->B b):cR B w w':=⟨h.os,h.tape,h.output,h.size,fun k hk hB=>h.block k hk (fun hA=>hB (hAB k hA))⟩
theorem mQ{w:World}{base e n g c:Nat}{xs:List Value}(h:w.ownsRow base e 3 (J (Y ⟨g,0,Z⟩) n c) n xs):∃cur,w.heap[g]?=Y (.cells cur e (0,0)):=by
 rcases h.2 with⟨h1,_⟩|⟨g',cap,cur,h1,_,hg,_⟩
 ·cases h1
 ·cases h1;exact⟨cur,hg⟩
theorem cA.drew{ty e:TypeId}{low S:Nat}{w w':World}{v:Value}{fs':List FD}{left':Int}(h:cA ty e low w S v fs' left' w'):cA ty e low w S v fs' left' w'.drew:=by
 obtain⟨v',h1,h2,h3⟩:=h;exact⟨v',h1.drew,⟨h2.os,h2.tape,h2.output,h2.size,h2.block⟩,h3⟩
def fD(fs:List FD)(nm:List UInt8):List FD:=match eQ fs nm with
 |none=>fs
 |some i=>fs.set i ⟨(fs.getD i fY).n,(fs.getD i fY).d,(fs.getD i fY).d.length⟩
def eR(fs:List FD)(nm dt:List UInt8):List FD:=match eQ fs nm with
 |none=>fs++[⟨nm,dt,0⟩]
 |some i=>fs.set i ⟨(fs.getD i fY).n,(fs.getD i fY).d++dt,(fs.getD i fY).s⟩
theorem zN(low D H S:Nat)(v:Value)(fs:List FD)(nm:List UInt8)(w:World)(hH:eB w D H S)(h:DS 98 107 low w S v fs 0):
  Calls pG 34 #[P0 (Y ⟨D,0,Z⟩),.string (aC nm)] w fun r w'=>r=.returned (.bool false)/\cA 98 107 low w S v fs (cZ 0) w':=by
 have cd:=hH.cd;clear hH;go_enter Tryz.func34,Tryz.ntmps34
 go_wp2_with fail
 refine(kP low S v fs 0 w h (by omega)).mono ?_;rintro r w1 ⟨rfl,hw1⟩;obtain⟨h1,hk1,hs1⟩:=kX h (by decide) w1 hw1;clear hw1;rw[show decide ((0:Int)≠0)=false from rfl];have HD:Hid _:=cA.same h1 hk1;clear h1 hk1 h;go_wp2;go_ret;exact⟨rfl,HD.out⟩
theorem DV(low D H S:Nat)(v:Value)(fs:List FD)(left:Int)(nm:List UInt8)(w:World)(hH:eB w D H S)(hDS:D≠S)(h:DS 98 107 low w S v fs left)(h0:left≠0)(hb:-9223372036854775808<=left/\left<=9223372036854775807)(hl:fs.length<=3000000000)(hlow:low<=w.heap.size)(hdl:∀f∈fs,f.d.length<=3000000000):
  Calls pG 34 #[P0 (Y ⟨D,0,Z⟩),.string (aC nm)] w fun r w'=>r=.returned (.bool true)/\cA 98 107 low w S v (fD fs nm) (cZ left) w':=by
 have cd:=hH.cd;have hDlt:D<w.heap.size:=(Array.getElem?_eq_some_iff.1 hH.d).1;have HD0:=hH.d;clear hH;go_enter Tryz.func34,Tryz.ntmps34
 go_wp2_with fail
 refine(kP low S v fs left w h hb).mono ?_;rintro r w1 ⟨rfl,hw1⟩;obtain⟨h1,hk1,hs1⟩:=kX h (by decide) w1 hw1;clear hw1;rw[show decide (left≠0)=true by simpa using h0];have hd1:=(hk1.block D hDlt hDS).trans HD0;have cd1:w1.cell? ⟨D,0,Z⟩=Y (P0 (Y ⟨S,0,Z⟩)):=by simp[World.cell?,hd1]
 have cs1:=h1.cell 0;have fs1:=h1.free 0;simp at cs1;have H1:=aA h1;have HK:=aA hk1;have HD1:Hid _:=hd1;have hS1:=h1.lt;have hD1:D<w1.heap.size:=by omega
 clear h h1 hk1 cd HD0 hd1
 go_wp2_with fail
 refine(lT low S v fs (cZ left) nm w1 H1.out (by omega)).mono ?_;rintro r w' ⟨rfl,hh⟩;replace hh:=hh.symm;subst hh;rcases lW fs nm with⟨e1,e2⟩|⟨i,e1,e2,e3⟩
 ·have HR:Hid (fD fs nm=fs):=by unfold Hid fD;rw[e2]
  rw[e1];have HD:Hid (cA 98 107 low w S v (fD fs nm) (cZ left) w1):=by unfold Hid;rw[HR.out];exact cA.same H1.out HK.out
  clear e1 e2;go_wp2;go_ret;exact⟨rfl,HD.out⟩
 ·have hdi:=hdl fs[i] (List.getElem_mem e3);rw[e1];have eD:fs.getD i fY=fs[i]:=by rw[List.getD_eq_getElem?_getD,List.getElem?_eq_getElem e3,Option.getD_some]
  obtain⟨a,c,hv,hrow⟩:=gP H1.out.row;subst hv;obtain⟨g,ha,_,hgl,hcc⟩:=hrow.resolve_left (by omega);subst ha;obtain⟨cur,hgt⟩:=mQ H1.out.row;have hSg:S≠g:=by intro hh;subst hh;rw[H1.out.st]at hgt;simp at hgt
  have hDg:D≠g:=by intro hh;subst hh;rw[HD1.out]at hgt;simp at hgt
  have j0:=hcc _ _ (fV fs i e3 0 (by omega));have j1:=hcc _ _ (fV fs i e3 1 (by omega));have j2:=hcc _ _ (fV fs i e3 2 (by omega));simp[FD.cells]at j0 j1 j2;have k1:=H1.out.row.frozenAt (i*3+1);have k2:=H1.out.row.frozenAt (i*3+2);have e3i:(i:Int)<(fs.length:Int):=by omega
  have HR:Hid (fD fs nm=fs.set i ⟨fs[i].n,fs[i].d,fs[i].d.length⟩):=by unfold Hid fD;rw[e2];simp only[eD]
  have hp:=H1.out.poke hSg i e3 2 (by omega) ⟨fs[i].n,fs[i].d,fs[i].d.length⟩ (by intro k' h1 h2;rcases(show k'=0∨k'=1 by omega) with rfl|rfl<;>rfl)
  have HD:Hid (cA 98 107 low w S (J (Y ⟨g,0,Z⟩) fs.length c) (fD fs nm) (cZ left) (w1.setCell ⟨g,i*3+2,Z⟩ (I T (fs[i].d.length:Int)))):=by
   unfold Hid;rw[HR.out];exact cA.pre HK.out ⟨_,hp,(cR.set w1 g (i*3+2) _).mono (fun b hb=>.inr (by rw[hb];rfl)),fun g' hg'=>.inl hg'⟩
  have hsz:(aC fs[i].d).size=fs[i].d.length:=fT _;clear hp hcc hrow e1 e2 hgt hdl eD;generalize fs[i]=F at*;have z1:(w1.setCell ⟨g,i*3+2,Z⟩ (I T (F.d.length:Int))).drew.cell? ⟨D,0,Z⟩=Y (P0 (Y ⟨S,0,Z⟩)):=(World.cell?_setCell_other _ _ _ _ (by intro hh;have h9:=congrArg Addr.block hh;simp at h9;omega)).trans cd1;have z2:(w1.setCell ⟨g,i*3+2,Z⟩ (I T (F.d.length:Int))).drew.cell? ⟨S,0,Z⟩=Y (J (Y ⟨g,0,Z⟩) fs.length c):=(World.cell?_setCell_other _ _ _ _ (by intro hh;have h9:=congrArg Addr.block hh;simp at h9;omega)).trans cs1;have z3:(w1.setCell ⟨g,i*3+2,Z⟩ (I T (F.d.length:Int))).drew.cell? ⟨g,i*3+1,Z⟩=Y (.string (aC F.d)):=(World.cell?_setCell_other _ _ _ _ (by intro hh;have h9:=congrArg Addr.off hh;simp at h9)).trans j1
  go_wp2_with fail
  go_region_held3 (fun w'=>w'.cell? ⟨D,0,Z⟩=Y (P0 (Y ⟨S,0,Z⟩))/\w'.cell? ⟨S,0,Z⟩=Y (J (Y ⟨g,0,Z⟩) fs.length c)/\w'.cell? ⟨g,i*3+1,Z⟩=Y (.string (aC F.d))) (first|(exact⟨z1,z2,z3⟩)|go_keep) (fail)
  all_goals go_wp2
  all_goals go_ret
  all_goals exact⟨rfl,HD.out.drew⟩
theorem vY(low D H S:Nat)(v:Value)(fs:List FD)(nm dt:List UInt8)(w:World)(hH:eB w D H S)(h:DS 98 107 low w S v fs 0):
  Calls pG 32 #[P0 (Y ⟨D,0,Z⟩),.string (aC nm),.string (aC dt)] w fun r w'=>r=.returned (.bool false)/\cA 98 107 low w S v fs (cZ 0) w':=by
 have cd:=hH.cd;clear hH;go_enter Tryz.func32,Tryz.ntmps32
 go_wp2_with fail
 refine(kP low S v fs 0 w h (by omega)).mono ?_;rintro r w1 ⟨rfl,hw1⟩;obtain⟨h1,hk1,hs1⟩:=kX h (by decide) w1 hw1;clear hw1;rw[show decide ((0:Int)≠0)=false from rfl];have HD:Hid _:=cA.same h1 hk1;clear h1 hk1 h;go_wp2;go_ret;exact⟨rfl,HD.out⟩
theorem zO(low D H S:Nat)(v:Value)(fs:List FD)(left:Int)(nm dt:List UInt8)(w:World)(hH:eB w D H S)(hDS:D≠S)(h:DS 98 107 low w S v fs left)(h0:left≠0)(hb:-9223372036854775808<=left/\left<=9223372036854775807)(hl:fs.length<=3000000000)(hlow:low<=w.heap.size)(hcat:∀f∈fs,f.d.length+dt.length<=3000000000)(hdt:dt.length<=3000000000):
  Calls pG 32 #[P0 (Y ⟨D,0,Z⟩),.string (aC nm),.string (aC dt)] w fun r w'=>r=.returned (.bool true)/\cA 98 107 low w S v (eR fs nm dt) (cZ left) w':=by
 have cd:=hH.cd;have hDlt:D<w.heap.size:=(Array.getElem?_eq_some_iff.1 hH.d).1;have HD0:=hH.d;clear hH;go_enter Tryz.func32,Tryz.ntmps32
 go_wp2_with fail
 refine(kP low S v fs left w h hb).mono ?_;rintro r w1 ⟨rfl,hw1⟩;obtain⟨h1,hk1,hs1⟩:=kX h (by decide) w1 hw1;clear hw1;rw[show decide (left≠0)=true by simpa using h0];have hd1:=(hk1.block D hDlt hDS).trans HD0;have cd1:w1.cell? ⟨D,0,Z⟩=Y (P0 (Y ⟨S,0,Z⟩)):=by simp[World.cell?,hd1]
 have cs1:=h1.cell 0;have fs1:=h1.free 0;simp at cs1;have H1:=aA h1;have HK:=aA hk1;have HD1:Hid _:=hd1;have hS1:=h1.lt;have hD1:D<w1.heap.size:=by omega
 clear h h1 hk1 cd HD0 hd1
 go_wp2_with fail
 refine(lT low S v fs (cZ left) nm w1 H1.out (by omega)).mono ?_;rintro r w' ⟨rfl,hh⟩;replace hh:=hh.symm;subst hh;rcases lW fs nm with⟨e1,e2⟩|⟨i,e1,e2,e3⟩
 ·have HR:Hid (eR fs nm dt=fs++[⟨nm,dt,0⟩]):=by unfold Hid eR;rw[e2]
  rw[e1];obtain⟨i0,hi0,hz0,hz1,hz2⟩:=info_parts pF;obtain⟨a,c,hv,hrow⟩:=gP H1.out.row;subst hv;have hoff:=H1.out.off (by decide)
  have hoffD:Value.ownBlock (J a fs.length c)≠some D:=by
   intro hh;rcases H1.out.row.2 with⟨h1,_⟩|⟨g',cap,cur,h1,_,hg,_⟩
   ·rw[h1]at hh;simp[Value.ownBlock]at hh
   ·rw[h1]at hh;simp[Value.ownBlock]at hh;subst hh;rw[HD1.out]at hg;simp at hg
  have q1:(w1.alloc (G #[Value.string (aC nm),Value.string ⟨#[]⟩,I T 0] 107)).drew.cell? ⟨S,0,Z⟩=Y (J a fs.length c):=(World.cell?_alloc_past _ _ _ hS1).trans cs1;have q2:(w1.alloc (G #[Value.string (aC nm),Value.string ⟨#[]⟩,I T 0] 107)).drew.cell? ⟨D,0,Z⟩=Y (P0 (Y ⟨S,0,Z⟩)):=(World.cell?_alloc_past _ _ _ hD1).trans cd1;clear e1 e2 hrow hcat
  go_wp2_with fail
  go_cut [7] from 22 to 38 (fun x wc=>x=I T (-1)/\∃v2,DS 98 107 low wc S v2 (fs++[⟨nm,[],0⟩]) (cZ left)/\cR (fun b=>b=S∨some b=Value.ownBlock (J a fs.length c)) w1 wc/\(∀g,v2.ownBlock=Y g->Value.ownBlock (J a fs.length c)=Y g∨w1.heap.size<=g)/\wc.heap[D]?=w1.heap[D]?)
  case first=>
   go_region_law (refine gC rfl (.tmp 32) (.tmp 35) 96 rfl low 107 i0 (.agg #[.string ⟨#[]⟩,.string ⟨#[]⟩,I T 0]) 3 40 Tryz.underlying96 hi0 hz0 hz1 hz2 rfl (by decide) (J a fs.length c) fs.length (fs.flatMap FD.cells) (by simp[Act.eval]) (by exact(World.ownsRow.alloc H1.out.row _).drew) ⟨w1.heap.size,0,Z⟩ 1 1 [Value.string (aC nm),Value.string ⟨#[]⟩,I T 0] (by omega) (by simp[Act.eval]) rfl (by intro j u hu;rw[Go.WideShapes.add_plain];refine(World.cell?_alloc_at _ _ _ _ rfl).trans ?_;simpa using hu) (by intro u hu;simp at hu;rcases hu with rfl|rfl|rfl<;>rfl) (by unfold maxLen;omega) (by omega) (by show _<=(World.alloc _ _).heap.size;simp;omega) ?_;intro v' w2 ho2 hg2 hloc;obtain⟨va,vc,rfl⟩:=aO ho2;have hSb:w2.heap[S]?=w1.heap[S]?:=(hg2.block S (by show _<(World.alloc _ _).heap.size;simp;omega) (Ne.symm hoff)).trans (heap_alloc_old w1 _ hS1);have hDb:w2.heap[D]?=w1.heap[D]?:=(hg2.block D (by show _<(World.alloc _ _).heap.size;simp;omega) (Ne.symm hoffD)).trans (heap_alloc_old w1 _ hD1);have ks:w2.cell? ⟨S,0,Z⟩=Y (J a fs.length c):=(World.cell?_of_block (w:=w1) (a:=⟨S,0,Z⟩) hSb).trans cs1;have kf:w2.frozen? ⟨S,0,Z⟩=false:=(World.frozen?_of_block (w:=w1) (a:=⟨S,0,Z⟩) hSb).trans fs1;have kd:w2.cell? ⟨D,0,Z⟩=Y (P0 (Y ⟨S,0,Z⟩)):=(World.cell?_of_block (w:=w1) (a:=⟨D,0,Z⟩) hDb).trans cd1)
   all_goals go_wp2_with fail
   all_goals go_meet
   all_goals
    refine⟨rfl,J va (fs.length+1) vc,DS.store (low:=low) (low':=low) (hSb.trans H1.out.st) ?_ (Nat.le_refl _) ?_,?_,?_,?_⟩
    ·rw[List.length_append,List.flatMap_append];simp only[List.length_cons,List.length_nil,List.flatMap_cons,List.flatMap_nil,List.append_nil];exact ho2
    ·intro hh;obtain⟨g',e1,e2⟩:=hloc;rw[e1]at hh;have hgS:g'=S:=by simpa using hh
     subst hgS;rcases e2 with e2|⟨e2,_⟩
     ·exact hoff e2
     ·have:(World.alloc w1 (G #[Value.string (aC nm),Value.string ⟨#[]⟩,I T 0] 107)).heap.size<=g':=e2;simp at this;omega
    ·have k1:cR (fun b=>b=S∨some b=Value.ownBlock (J a fs.length c)) w1 w2:=⟨hg2.os,hg2.tape,hg2.output,Nat.le_trans (by show _<=(World.alloc _ _).heap.size;simp) hg2.size,fun k hk hA=>(hg2.block k (by show _<(World.alloc _ _).heap.size;simp;omega) (fun hh=>hA (.inr hh))).trans (heap_alloc_old w1 _ hk)⟩;exact k1.trans (cR.set w2 S 0 _) (fun b _ hb=>.inl hb)
    ·intro g hg;obtain⟨g',e1,e2⟩:=hloc;rw[e1]at hg;have hgg:g'=g:=by simpa using hg
     subst hgg;rcases e2 with e2|⟨e2,_⟩
     ·exact .inl e2
     ·right;have:(World.alloc w1 (G #[Value.string (aC nm),Value.string ⟨#[]⟩,I T 0] 107)).heap.size<=g':=e2
      simp at this;omega
    ·exact((aD.setCell w2 ⟨S,0,Z⟩ _).block D hDS).trans hDb
  case rest=>
  obtain⟨rfl,v2,hd2,hk2,hown2,hDb2⟩:=hcut;have hl2:(fs++[(⟨nm,[],0⟩:FD)]).length=fs.length+1:=by simp
  have e3:fs.length<(fs++[(⟨nm,[],0⟩:FD)]).length:=by omega
  have eF:(fs++[(⟨nm,[],0⟩:FD)])[fs.length]=⟨nm,[],0⟩:=by simp
  have HSet:Hid ((fs++[(⟨nm,[],0⟩:FD)]).set fs.length ⟨nm,dt,0⟩=fs++[⟨nm,dt,0⟩]):=by simp[Hid]
  obtain⟨a2,c2,hv2,hrow2⟩:=gP hd2.row;subst hv2;obtain⟨g,ha,_,hgl,hcc⟩:=hrow2.resolve_left (by omega);subst ha;obtain⟨cur,hgt⟩:=mQ hd2.row;have hSg:S≠g:=by intro hh;subst hh;rw[hd2.st]at hgt;simp at hgt
  have hp:=hd2.poke hSg fs.length e3 1 (by omega) ⟨nm,dt,0⟩ (by intro k' h1 h2;rw[eF];rcases(show k'=0∨k'=2 by omega) with rfl|rfl<;>rfl);rw[HSet.out]at hp;have j1:=hcc _ _ (fV _ fs.length e3 1 (by omega));rw[eF]at j1;have k1:=hd2.row.frozenAt (fs.length*3+1);have cs2:=hd2.cell 0;simp at cs2;have cd2:=(World.cell?_of_block (w:=w1) (a:=⟨D,0,Z⟩) hDb2).trans cd1;have ee:aC []++aC dt=aC dt:=by rw[jU];rfl
  have HD:Hid (cA 98 107 low w S (J a fs.length c) (eR fs nm dt) (cZ left) (wc.setCell ⟨g,fs.length*3+1,Z⟩ (.string (aC []++aC dt)))):=by
   unfold Hid;rw[HR.out,ee];refine cA.pre HK.out ⟨_,hp,hk2.trans (cR.set wc g (fs.length*3+1) _) (fun b hb1 hb2=>?_),fun g' hg'=>hown2 g' hg'⟩;subst hb2;rcases hown2 b rfl with hh|hh
   ·exact .inr hh.symm
   ·omega
  have hsz:(aC ([]:List UInt8)).size+(aC dt).size<=3000000000:=by rw[fT,fT];simpa using hdt
  simp[FD.cells]at j1;clear hp hd2 hcc hrow2 hgt hown2 hk2 hDb2 eF e3 ee;go_wp2;go_ret;exact⟨rfl,HD.out⟩
 ·have hdi:=hcat fs[i] (List.getElem_mem e3);rw[e1];have eD:fs.getD i fY=fs[i]:=by rw[List.getD_eq_getElem?_getD,List.getElem?_eq_getElem e3,Option.getD_some]
  obtain⟨a,c,hv,hrow⟩:=gP H1.out.row;subst hv;obtain⟨g,ha,_,hgl,hcc⟩:=hrow.resolve_left (by omega);subst ha;obtain⟨cur,hgt⟩:=mQ H1.out.row;have hSg:S≠g:=by intro hh;subst hh;rw[H1.out.st]at hgt;simp at hgt
  have hDg:D≠g:=by intro hh;subst hh;rw[HD1.out]at hgt;simp at hgt
  have j0:=hcc _ _ (fV fs i e3 0 (by omega));have j1:=hcc _ _ (fV fs i e3 1 (by omega));have j2:=hcc _ _ (fV fs i e3 2 (by omega));simp[FD.cells]at j0 j1 j2;have k1:=H1.out.row.frozenAt (i*3+1);have k2:=H1.out.row.frozenAt (i*3+2);have e3i:(i:Int)<(fs.length:Int):=by omega
  have HR:Hid (eR fs nm dt=fs.set i ⟨fs[i].n,fs[i].d++dt,fs[i].s⟩):=by unfold Hid eR;rw[e2];simp only[eD]
  have hp:=H1.out.poke hSg i e3 1 (by omega) ⟨fs[i].n,fs[i].d++dt,fs[i].s⟩ (by intro k' h1 h2;rcases(show k'=0∨k'=2 by omega) with rfl|rfl<;>rfl)
  have HD:Hid (cA 98 107 low w S (J (Y ⟨g,0,Z⟩) fs.length c) (eR fs nm dt) (cZ left) (w1.setCell ⟨g,i*3+1,Z⟩ (.string (aC fs[i].d++aC dt)))):=by
   unfold Hid;rw[HR.out,jU];exact cA.pre HK.out ⟨_,hp,(cR.set w1 g (i*3+1) _).mono (fun b hb=>.inr (by rw[hb];rfl)),fun g' hg'=>.inl hg'⟩
  have hsz:(aC fs[i].d).size+(aC dt).size<=3000000000:=by rw[fT,fT];exact hdi
  clear hp hcc hrow e1 e2 hgt hcat eD;generalize fs[i]=F at*;go_wp2;go_ret;exact⟨rfl,HD.out⟩
def gQ(fs:List FD)(a b:List UInt8):List FD:=match eQ fs a with
 |none=>fs
 |some i=>if a=b then fs else aX (aX fs a) b++[⟨b,(fs.getD i fY).d,(fs.getD i fY).s⟩]
theorem vZ(low D H S:Nat)(v:Value)(fs:List FD)(nm dt:List UInt8)(w:World)(hH:eB w D H S)(h:DS 98 107 low w S v fs 0):
  Calls pG 36 #[P0 (Y ⟨D,0,Z⟩),.string (aC nm),.string (aC dt)] w fun r w'=>r=.returned (.bool false)/\cA 98 107 low w S v fs (cZ 0) w':=by
 have cd:=hH.cd;clear hH;go_enter Tryz.func36,Tryz.ntmps36
 go_wp2_with fail
 refine(kP low S v fs 0 w h (by omega)).mono ?_;rintro r w1 ⟨rfl,hw1⟩;obtain⟨h1,hk1,hs1⟩:=kX h (by decide) w1 hw1;clear hw1;rw[show decide ((0:Int)≠0)=false from rfl];have HD:Hid _:=cA.same h1 hk1;clear h1 hk1 h;go_wp2;go_ret;exact⟨rfl,HD.out⟩
theorem zP(low D H S:Nat)(v:Value)(fs:List FD)(left:Int)(nm dt:List UInt8)(w:World)(hH:eB w D H S)(hDS:D≠S)(h:DS 98 107 low w S v fs left)(h0:left≠0)(hb:-9223372036854775808<=left/\left<=9223372036854775807)(hl:fs.length<=3000000000)(hlow:low<=w.heap.size):
  Calls pG 36 #[P0 (Y ⟨D,0,Z⟩),.string (aC nm),.string (aC dt)] w fun r w'=>r=.returned (.bool true)/\cA 98 107 low w S v (gQ fs nm dt) (cZ left) w':=by
 have cd:=hH.cd;have hDlt:D<w.heap.size:=(Array.getElem?_eq_some_iff.1 hH.d).1;have HD0:=hH.d;clear hH;go_enter Tryz.func36,Tryz.ntmps36
 go_wp2_with fail
 refine(kP low S v fs left w h hb).mono ?_;rintro r w1 ⟨rfl,hw1⟩;obtain⟨h1,hk1,hs1⟩:=kX h (by decide) w1 hw1;clear hw1;rw[show decide (left≠0)=true by simpa using h0];have hd1:w1.heap[D]?=Y (.cells #[P0 (Y ⟨S,0,Z⟩)] 100 (0,0)):=(hk1.block D hDlt hDS).trans HD0;have cd1:w1.cell? ⟨D,0,Z⟩=Y (P0 (Y ⟨S,0,Z⟩)):=by simp[World.cell?,hd1]
 have cs1:=h1.cell 0;have fs1:=h1.free 0;simp at cs1;have H1:=aA h1;have HK:=aA hk1;have HD1:Hid _:=hd1;have hS1:=h1.lt;have hD1:D<w1.heap.size:=by omega
 clear h h1 hk1 cd HD0 hd1
 go_wp2_with fail
 refine(lT low S v fs (cZ left) nm w1 H1.out (by omega)).mono ?_;rintro r w' ⟨rfl,hh⟩;replace hh:=hh.symm;subst hh;rcases lW fs nm with⟨e1,e2⟩|⟨i,e1,e2,e3⟩
 ·have HR:Hid (gQ fs nm dt=fs):=by unfold Hid gQ;rw[e2]
  rw[e1];have HD:Hid (cA 98 107 low w S v (gQ fs nm dt) (cZ left) w1):=by unfold Hid;rw[HR.out];exact cA.same H1.out HK.out
  clear e1 e2;go_wp2;go_ret;exact⟨rfl,HD.out⟩
 ·by_cases hab:nm=dt
  ·have HR:Hid (gQ fs nm dt=fs):=by unfold Hid gQ;rw[e2];exact if_pos hab
   rw[e1];have HD:Hid (cA 98 107 low w S v (gQ fs nm dt) (cZ left) w1):=by unfold Hid;rw[HR.out];exact cA.same H1.out HK.out
   have q:=lL nm dt;rw[show(nm==dt)=true by simpa using hab]at q;clear e1 e2 hab;go_wp2;go_ret;exact⟨rfl,HD.out⟩
  rw[e1];have eD:fs.getD i fY=fs[i]:=by rw[List.getD_eq_getElem?_getD,List.getElem?_eq_getElem e3,Option.getD_some]
  obtain⟨a,c,hv,hrow⟩:=gP H1.out.row;subst hv;obtain⟨g,ha,_,hgl,hcc⟩:=hrow.resolve_left (by omega);subst ha;obtain⟨cur,hgt⟩:=mQ H1.out.row;have hSg:S≠g:=by intro hh;subst hh;rw[H1.out.st]at hgt;simp at hgt
  have hDg:D≠g:=by intro hh;subst hh;rw[HD1.out]at hgt;simp at hgt
  have j0:=hcc _ _ (fV fs i e3 0 (by omega));have j1:=hcc _ _ (fV fs i e3 1 (by omega));have j2:=hcc _ _ (fV fs i e3 2 (by omega));simp[FD.cells]at j0 j1 j2;have k1:=H1.out.row.frozenAt (i*3+1);have k2:=H1.out.row.frozenAt (i*3+2);have e3i:(i:Int)<(fs.length:Int):=by omega
  have HR:Hid (gQ fs nm dt=aX (aX fs nm) dt++[⟨dt,fs[i].d,fs[i].s⟩]):=by unfold Hid gQ;rw[e2];simp only[eD];exact if_neg hab
  have q:=lL nm dt;rw[show(nm==dt)=false by simpa using hab]at q;obtain⟨i0,hi0,hz0,hz1,hz2⟩:=info_parts pF;clear hcc hrow e1 e2 hgt hab eD;generalize fs[i]=F at*;have hb2:=(Below.refl w1.heap.size w1).alloc (Nat.le_refl _) (G #[Value.string (aC dt),Value.string (aC F.d),I T (F.s:Int)] 107);have hs2:(w1.alloc (G #[Value.string (aC dt),Value.string (aC F.d),I T (F.s:Int)] 107)).heap.size=w1.heap.size+1:=by simp
  have fc2:∀i,(w1.alloc (G #[Value.string (aC dt),Value.string (aC F.d),I T (F.s:Int)] 107)).cell? ⟨w1.heap.size,i,Z⟩=#[Value.string (aC dt),Value.string (aC F.d),I T (F.s:Int)][i]?:=fun i=>World.cell?_alloc_at _ _ _ _ rfl;have H2:=aA (H1.out.later hb2);have cd2:(w1.alloc (G #[Value.string (aC dt),Value.string (aC F.d),I T (F.s:Int)] 107)).cell? ⟨D,0,Z⟩=Y (P0 (Y ⟨S,0,Z⟩)):=(hb2.cell (by exact hD1)).trans cd1;have hd2:(w1.alloc (G #[Value.string (aC dt),Value.string (aC F.d),I T (F.s:Int)] 107)).heap[D]?=w1.heap[D]?:=hb2.block D hD1;have hk2:cR (fun b=>b=S) w (w1.alloc (G #[Value.string (aC dt),Value.string (aC F.d),I T (F.s:Int)] 107)):=HK.out.trans (cR.of_below (A:=fun b=>b=S) hb2) (fun _ _ hh=>hh);have HK2:Hid _:=hk2;have HDb2:Hid _:=hd2;clear hk2 hd2 hb2
  go_wp2_with fail
  generalize (w1.alloc (G #[Value.string (aC dt),Value.string (aC F.d),I T (F.s:Int)] 107))=W2 at*;have fc2':∀i,W2.cell? ⟨w.heap.size,i,Z⟩=#[Value.string (aC dt),Value.string (aC F.d),I T (F.s:Int)][i]?:=by rw[←hs1];exact fc2
  have cs2:=H2.out.cell 0;have f2:=H2.out.free 0;simp at cs2;have hS2:=H2.out.lt;have hD2:D<W2.heap.size:=by omega
  have hF2:w.heap.size<W2.heap.size:=by omega
  clear fc2 cs1 fs1 cd1 j0 j1 j2 k1 k2
  go_cut [8] from 40 to 51 (fun x wc=>x=P0 (Y ⟨w.heap.size,0,Z⟩)/\∃v3,DS 98 107 low wc S v3 (aX fs nm) (cZ left)/\(∀i,wc.cell? ⟨w.heap.size,i,Z⟩=#[Value.string (aC dt),Value.string (aC F.d),I T (F.s:Int)][i]?)/\wc.heap[D]?=W2.heap[D]?/\cR (fun b=>b=S) w wc/\(∀g,v3.ownBlock=Y g->w.heap.size<g)/\w.heap.size<wc.heap.size)
  case first=>
   go_region_held3 (fun w'=>w'.cell? ⟨D,0,Z⟩=Y (P0 (Y ⟨S,0,Z⟩))) (first|assumption|(rw[World.cell?_setCell_other _ _ _ _ (by intro hh;have h9:=congrArg Addr.block hh;simp at h9;omega)];assumption)|go_keep) (first|(go_at_call 80;refine(nM low S _ fs (cZ left) nm W2.drew H2.out.drew hl).mono ?_;rintro r w3 ⟨v3,rfl,ho3,hb3⟩;obtain⟨a3,c3,rfl,_⟩:=gP ho3;have kd:w3.cell? ⟨D,0,Z⟩=Y (P0 (Y ⟨S,0,Z⟩)):=(hb3.cell (by exact hD2)).trans cd2;have ks:w3.cell? ⟨S,0,Z⟩=Y (J (Y ⟨g,0,Z⟩) fs.length c):=(hb3.cell (by exact hS2)).trans cs2;have kf:w3.frozen? ⟨S,0,Z⟩=false:=(hb3.frozen (by exact hS2)).trans f2))
   all_goals go_wp2_with fail
   all_goals go_meet
   all_goals
    have h3:DS 98 107 low w3 S (J (Y ⟨g,0,Z⟩) fs.length c) fs (cZ left):=H2.out.drew.later hb3;have hlt3:∀g,Value.ownBlock (J a3 (aX fs nm).length c3)=Y g->W2.heap.size<=g:=fun g hg=>(World.ownsRow.lt ho3 g hg).1;have hs3:W2.heap.size<=w3.heap.size:=hb3.size;refine⟨rfl,J a3 (aX fs nm).length c3,DS.store (low:=low) (low':=W2.heap.size) h3.st ho3 (by omega) (fun hh=>by have:=hlt3 S hh;omega),fun i=>?_,?_,?_,fun g hg=>by have:=hlt3 g hg;omega,?_⟩
    ·exact(World.cell?_setCell_other _ _ _ _ (by intro hh;have h9:=congrArg Addr.block hh;simp at h9;omega)).trans ((hb3.cell (by exact hF2)).trans (fc2' i))
    ·exact((aD.setCell w3 ⟨S,0,Z⟩ _).block D hDS).trans (hb3.block D hD2)
    ·exact(HK2.out.trans (B:=fun b=>b=S) ⟨hb3.os,hb3.tape,hb3.output,hb3.size,fun k hk _=>hb3.block k hk⟩ (fun _ _ hh=>hh)).trans (cR.set w3 S 0 _) (fun _ _ hh=>hh)
    ·rw[(aD.setCell w3 ⟨S,0,Z⟩ _).size];omega
  case rest=>
  obtain⟨rfl,v3,h4,fc4,hDb4,hk4,hlt4,hF4⟩:=hcut;have cd4:wc.cell? ⟨D,0,Z⟩=Y (P0 (Y ⟨S,0,Z⟩)):=(World.cell?_of_block (w:=W2) (a:=⟨D,0,Z⟩) hDb4).trans cd2;have cs4:=h4.cell 0;have f4:=h4.free 0;simp at cs4;have hS4:=h4.lt;have hD4:D<wc.heap.size:=by have:=hk4.size;omega
  have hwl:(aX fs nm).length<=fs.length:=List.length_filter_le _ _;have hwl2:(aX (aX fs nm) dt).length<=(aX fs nm).length:=List.length_filter_le _ _;have H4:Hid _:=h4;have HK4:Hid _:=hk4;have HL4:Hid _:=hlt4;clear h4 hk4 hlt4 hDb4 cd2 cs2 f2 fc2' HK2 HDb2 H2;have hl4D:D<wc.drew.heap.size:=hD4;have hl4S:S<wc.drew.heap.size:=hS4;have hl4F:w.heap.size<wc.drew.heap.size:=hF4;have hb4b:=(Below.refl wc.heap.size wc).alloc (Nat.le_refl _) (G #[Value.string (aC dt),Value.string (aC F.d),I T (F.s:Int)] 107);have hlbD:D<(wc.alloc (G #[Value.string (aC dt),Value.string (aC F.d),I T (F.s:Int)] 107)).drew.heap.size:=by show _<(World.alloc _ _).heap.size;simp;omega
  have hlbS:S<(wc.alloc (G #[Value.string (aC dt),Value.string (aC F.d),I T (F.s:Int)] 107)).drew.heap.size:=by show _<(World.alloc _ _).heap.size;simp;omega
  have hlbF:w.heap.size<(wc.alloc (G #[Value.string (aC dt),Value.string (aC F.d),I T (F.s:Int)] 107)).drew.heap.size:=by show _<(World.alloc _ _).heap.size;simp;omega
  have cdb:(wc.alloc (G #[Value.string (aC dt),Value.string (aC F.d),I T (F.s:Int)] 107)).drew.cell? ⟨D,0,Z⟩=Y (P0 (Y ⟨S,0,Z⟩)):=(hb4b.cell (by exact hD4)).trans cd4;have csb:(wc.alloc (G #[Value.string (aC dt),Value.string (aC F.d),I T (F.s:Int)] 107)).drew.cell? ⟨S,0,Z⟩=Y v3:=(hb4b.cell (by exact hS4)).trans cs4;have fb:(wc.alloc (G #[Value.string (aC dt),Value.string (aC F.d),I T (F.s:Int)] 107)).drew.frozen? ⟨S,0,Z⟩=false:=(hb4b.frozen (by exact hS4)).trans f4;have fcb:∀i,(wc.alloc (G #[Value.string (aC dt),Value.string (aC F.d),I T (F.s:Int)] 107)).drew.cell? ⟨w.heap.size,i,Z⟩=#[Value.string (aC dt),Value.string (aC F.d),I T (F.s:Int)][i]?:=fun i=>(hb4b.cell (by exact hF4)).trans (fc4 i);have H4b:=aA (H4.out.later hb4b);have g40:=fc4 0;have g41:=fc4 1;have g42:=fc4 2;simp at g40 g41 g42
  go_wp2_with fail
  go_region_held3 (fun w'=>w'.cell? ⟨D,0,Z⟩=Y (P0 (Y ⟨S,0,Z⟩))/\w'.cell? ⟨w.heap.size,0,Z⟩=Y (Value.string (aC dt))/\w'.cell? ⟨w.heap.size,1,Z⟩=Y (Value.string (aC F.d))/\w'.cell? ⟨w.heap.size,2,Z⟩=Y (I T (F.s:Int))) (first|(and_intros<;>assumption)|(and_intros<;>first|(exact(World.cell?_setCell_other _ _ _ _ (by intro hh;have h9:=congrArg Addr.block hh;simp at h9;omega)).trans (by assumption))|(exact(World.cell?_alloc_past _ _ _ (by first|assumption|omega)).trans (by assumption)))|go_keep) (first|(go_at_call 80;refine(nM low S _ (aX fs nm) (cZ left) dt wc.drew H4.out.drew (by omega)).mono ?_;rintro r w5 ⟨v5,rfl,ho5,hb5⟩;obtain⟨a5,c5,rfl,_⟩:=gP ho5;have kd:w5.cell? ⟨D,0,Z⟩=Y (P0 (Y ⟨S,0,Z⟩)):=(hb5.cell (by exact hl4D)).trans cd4;have ks:w5.cell? ⟨S,0,Z⟩=Y v3:=(hb5.cell (by exact hl4S)).trans cs4;have kf:w5.frozen? ⟨S,0,Z⟩=false:=(hb5.frozen (by exact hl4S)).trans f4;have f50:w5.cell? ⟨w.heap.size,0,Z⟩=Y (Value.string (aC dt)):=(hb5.cell (by exact hl4F)).trans (fc4 0);have f51:w5.cell? ⟨w.heap.size,1,Z⟩=Y (Value.string (aC F.d)):=(hb5.cell (by exact hl4F)).trans (fc4 1);have f52:w5.cell? ⟨w.heap.size,2,Z⟩=Y (I T (F.s:Int)):=(hb5.cell (by exact hl4F)).trans (fc4 2);have hs5:wc.heap.size<=w5.heap.size:=Nat.le_trans (Nat.le_refl _) hb5.size;have hlo5:∀g,Value.ownBlock (J a5 (aX (aX fs nm) dt).length c5)=Y g->wc.heap.size<=g:=(fun g hg=>Nat.le_trans (Nat.le_refl _) (World.ownsRow.lt ho5 g hg).1);have hbb5:Below wc.heap.size wc w5:=(by first|exact⟨hb5.os,hb5.tape,hb5.output,hb5.size,hb5.block⟩|exact hb4b.trans ⟨hb5.os,hb5.tape,hb5.output,hb5.size,fun k hk=>hb5.block k (Nat.lt_of_lt_of_le hk (by show _<=(World.alloc _ _).heap.size;simp))⟩);have hF5:w.heap.size<w5.heap.size:=Nat.lt_of_lt_of_le hF4 hs5;have hD5:D<w5.heap.size:=Nat.lt_of_lt_of_le hD4 hs5)|(go_at_call 80;refine(nM low S _ (aX fs nm) (cZ left) dt (wc.alloc (G #[Value.string (aC dt),Value.string (aC F.d),I T (F.s:Int)] 107)).drew H4b.out.drew (by omega)).mono ?_;rintro r w5 ⟨v5,rfl,ho5,hb5⟩;obtain⟨a5,c5,rfl,_⟩:=gP ho5;have kd:w5.cell? ⟨D,0,Z⟩=Y (P0 (Y ⟨S,0,Z⟩)):=(hb5.cell (by exact hlbD)).trans cdb;have ks:w5.cell? ⟨S,0,Z⟩=Y v3:=(hb5.cell (by exact hlbS)).trans csb;have kf:w5.frozen? ⟨S,0,Z⟩=false:=(hb5.frozen (by exact hlbS)).trans fb;have f50:w5.cell? ⟨w.heap.size,0,Z⟩=Y (Value.string (aC dt)):=(hb5.cell (by exact hlbF)).trans (fcb 0);have f51:w5.cell? ⟨w.heap.size,1,Z⟩=Y (Value.string (aC F.d)):=(hb5.cell (by exact hlbF)).trans (fcb 1);have f52:w5.cell? ⟨w.heap.size,2,Z⟩=Y (I T (F.s:Int)):=(hb5.cell (by exact hlbF)).trans (fcb 2);have hs5:wc.heap.size<=w5.heap.size:=Nat.le_trans (by simp) hb5.size;have hlo5:∀g,Value.ownBlock (J a5 (aX (aX fs nm) dt).length c5)=Y g->wc.heap.size<=g:=(fun g hg=>Nat.le_trans (by simp) (World.ownsRow.lt ho5 g hg).1);have hbb5:Below wc.heap.size wc w5:=(by first|exact⟨hb5.os,hb5.tape,hb5.output,hb5.size,hb5.block⟩|exact hb4b.trans ⟨hb5.os,hb5.tape,hb5.output,hb5.size,fun k hk=>hb5.block k (Nat.lt_of_lt_of_le hk (by show _<=(World.alloc _ _).heap.size;simp))⟩);have hF5:w.heap.size<w5.heap.size:=Nat.lt_of_lt_of_le hF4 hs5;have hD5:D<w5.heap.size:=Nat.lt_of_lt_of_le hD4 hs5)|(refine gC rfl (.tmp 61) (.tmp 63) 96 rfl wc.heap.size 107 i0 (.agg #[.string ⟨#[]⟩,.string ⟨#[]⟩,I T 0]) 3 40 Tryz.underlying96 hi0 hz0 hz1 hz2 rfl (by decide) (J a5 (aX (aX fs nm) dt).length c5) (aX (aX fs nm) dt).length ((aX (aX fs nm) dt).flatMap FD.cells) (by simp[Act.eval]) (World.ownsRow.alloc ho5 _) ⟨w5.heap.size,0,Z⟩ 1 1 [Value.string (aC dt),Value.string (aC F.d),I T (F.s:Int)] (by omega) (by simp[Act.eval]) rfl (by intro j u hu;rw[Go.WideShapes.add_plain];refine(World.cell?_alloc_at _ _ _ _ rfl).trans ?_;simpa using hu) (by intro u hu;simp at hu;rcases hu with rfl|rfl|rfl<;>rfl) (by unfold maxLen;omega) (by omega) (by first|exact hs5|exact hb5.size|(show _<=(World.alloc _ _).heap.size;simp;omega)) ?_;intro v6 w6 ho6 hg6 hloc6;obtain⟨va6,vc6,rfl⟩:=aO ho6;have hblk6:∀k,k<wc.heap.size->w6.heap[k]?=w5.heap[k]?:=(fun k hk=>(hg6.block k (by show _<(World.alloc _ _).heap.size;simp;omega) (fun hh=>by have h9:=hlo5 k hh.symm;omega)).trans (heap_alloc_old w5 _ (by omega)));have hs6:w5.heap.size<=w6.heap.size:=Nat.le_trans (by first|exact Nat.le_refl _|(show _<=(World.alloc _ _).heap.size;simp)) hg6.size;have kd6:w6.cell? ⟨D,0,Z⟩=Y (P0 (Y ⟨S,0,Z⟩)):=(World.cell?_of_block (w:=w5) (a:=⟨D,0,Z⟩) (hblk6 D hD4)).trans kd;have ks6:w6.cell? ⟨S,0,Z⟩=Y v3:=(World.cell?_of_block (w:=w5) (a:=⟨S,0,Z⟩) (hblk6 S hS4)).trans ks;have kf6:w6.frozen? ⟨S,0,Z⟩=false:=(World.frozen?_of_block (w:=w5) (a:=⟨S,0,Z⟩) (hblk6 S hS4)).trans kf;have f60:w6.cell? ⟨w.heap.size,0,Z⟩=Y (Value.string (aC dt)):=(World.cell?_of_block (w:=w5) (a:=⟨w.heap.size,0,Z⟩) (hblk6 _ hF4)).trans f50;have f61:w6.cell? ⟨w.heap.size,1,Z⟩=Y (Value.string (aC F.d)):=(World.cell?_of_block (w:=w5) (a:=⟨w.heap.size,1,Z⟩) (hblk6 _ hF4)).trans f51;have f62:w6.cell? ⟨w.heap.size,2,Z⟩=Y (I T (F.s:Int)):=(World.cell?_of_block (w:=w5) (a:=⟨w.heap.size,2,Z⟩) (hblk6 _ hF4)).trans f52)|(refine gC rfl (.tmp 61) (.tmp 63) 96 rfl (wc.alloc (G #[Value.string (aC dt),Value.string (aC F.d),I T (F.s:Int)] 107)).heap.size 107 i0 (.agg #[.string ⟨#[]⟩,.string ⟨#[]⟩,I T 0]) 3 40 Tryz.underlying96 hi0 hz0 hz1 hz2 rfl (by decide) (J a5 (aX (aX fs nm) dt).length c5) (aX (aX fs nm) dt).length ((aX (aX fs nm) dt).flatMap FD.cells) (by simp[Act.eval]) ho5 ⟨wc.heap.size,0,Z⟩ 1 1 [Value.string (aC dt),Value.string (aC F.d),I T (F.s:Int)] (by omega) (by simp[Act.eval]) rfl (by intro j u hu;rw[Go.WideShapes.add_plain];refine(hb5.cell (by show wc.heap.size<(World.alloc _ _).heap.size;simp)).trans ((World.cell?_alloc_at _ _ _ _ rfl).trans ?_);simpa using hu) (by intro u hu;simp at hu;rcases hu with rfl|rfl|rfl<;>rfl) (by unfold maxLen;omega) (by omega) (by first|exact hs5|exact hb5.size|(show _<=(World.alloc _ _).heap.size;simp;omega)) ?_;intro v6 w6 ho6 hg6 hloc6;obtain⟨va6,vc6,rfl⟩:=aO ho6;have hblk6:∀k,k<wc.heap.size->w6.heap[k]?=w5.heap[k]?:=(fun k hk=>hg6.block k (by omega) (fun hh=>by have h9:=hlo5 k hh.symm;omega));have hs6:w5.heap.size<=w6.heap.size:=Nat.le_trans (by first|exact Nat.le_refl _|(show _<=(World.alloc _ _).heap.size;simp)) hg6.size;have kd6:w6.cell? ⟨D,0,Z⟩=Y (P0 (Y ⟨S,0,Z⟩)):=(World.cell?_of_block (w:=w5) (a:=⟨D,0,Z⟩) (hblk6 D hD4)).trans kd;have ks6:w6.cell? ⟨S,0,Z⟩=Y v3:=(World.cell?_of_block (w:=w5) (a:=⟨S,0,Z⟩) (hblk6 S hS4)).trans ks;have kf6:w6.frozen? ⟨S,0,Z⟩=false:=(World.frozen?_of_block (w:=w5) (a:=⟨S,0,Z⟩) (hblk6 S hS4)).trans kf;have f60:w6.cell? ⟨w.heap.size,0,Z⟩=Y (Value.string (aC dt)):=(World.cell?_of_block (w:=w5) (a:=⟨w.heap.size,0,Z⟩) (hblk6 _ hF4)).trans f50;have f61:w6.cell? ⟨w.heap.size,1,Z⟩=Y (Value.string (aC F.d)):=(World.cell?_of_block (w:=w5) (a:=⟨w.heap.size,1,Z⟩) (hblk6 _ hF4)).trans f51;have f62:w6.cell? ⟨w.heap.size,2,Z⟩=Y (I T (F.s:Int)):=(World.cell?_of_block (w:=w5) (a:=⟨w.heap.size,2,Z⟩) (hblk6 _ hF4)).trans f52))
  all_goals
   have ho6':w6.ownsRow wc.heap.size 107 3 (J va6 ((aX (aX fs nm) dt).length+1) vc6) ((aX (aX fs nm) dt).length+1) ((aX (aX fs nm) dt).flatMap FD.cells++[Value.string (aC dt),Value.string (aC F.d),I T (F.s:Int)]):=tD ho6 (by first|exact Nat.le_refl _|simp);have hlt6:∀g,Value.ownBlock (J va6 ((aX (aX fs nm) dt).length+1) vc6)=Y g->wc.heap.size<=g:=fun g hg=>(World.ownsRow.lt ho6' g hg).1;have hst6:w6.heap[S]?=Y (.cells #[v3,I T (cZ left)] 98 (0,0)):=(hblk6 S hS4).trans ((hbb5.block S hS4).trans H4.out.st);have hsw:=HK4.out.size;have hk6:cR (fun b=>b=S∨some b=Value.ownBlock (J (Y ⟨g,0,Z⟩) fs.length c)) w w6:=⟨hg6.os.trans (hbb5.os.trans HK4.out.os),hg6.tape.trans (hbb5.tape.trans HK4.out.tape),hg6.output.trans (hbb5.output.trans HK4.out.output),by have:=hbb5.size;omega,fun k hk hA=>(hblk6 k (by omega)).trans ((hbb5.block k (by omega)).trans (HK4.out.block k hk (fun hh=>hA (.inl hh))))⟩
   have HF:Hid (cA 98 107 low w S (J (Y ⟨g,0,Z⟩) fs.length c) (gQ fs nm dt) (cZ left) (w6.setCell ⟨S,0,Z⟩ (J va6 ((aX (aX fs nm) dt).length+1) vc6))):=by
    unfold Hid;rw[HR.out];refine⟨J va6 ((aX (aX fs nm) dt).length+1) vc6,DS.store (low:=low) (low':=wc.heap.size) hst6 ?_ (by omega) (fun hh=>by have:=hlt6 S hh;omega),hk6.trans (cR.set w6 S 0 _) (fun b _ hb=>.inl hb),fun g' hg'=>.inr (by have:=hlt6 g' hg';omega)⟩;rw[List.length_append,List.flatMap_append];simp only[List.length_cons,List.length_nil,List.flatMap_cons,List.flatMap_nil,List.append_nil];exact ho6'
   clear ho6' hlt6 hst6 hk6 ho6 hg6 hloc6 hblk6 ho5 hb5 hbb5
  all_goals go_wp2
  all_goals go_ret
  all_goals exact⟨rfl,HF.out⟩
end

theorem DS.rowAt{ty e:TypeId}{low:Nat}{w:World}{S:Nat}{v:Value}{fs:List FD}{left:Int}(h:DS ty e low w S v fs left){g:Nat}(hg:v.ownBlock=Y g):∃cur,w.heap[g]?=Y (.cells cur e (0,0)):=by
 rcases h.row.2 with⟨h3,_⟩|⟨g',cap,cur,h3,_,hg',_⟩
 ·rw[h3]at hg;simp[Value.ownBlock]at hg
 ·rw[h3]at hg;simp[Value.ownBlock]at hg;subst hg;exact⟨cur,hg'⟩
theorem qI(low D H S:Nat)(v:Value)(fs:List FD)(left:Int)(nm dt:List UInt8)(w:World)(hH:eB w D H S)(hDS:D≠S)(h:DS 98 107 low w S v fs left)(hb:-9223372036854775808<=left/\left<=9223372036854775807)(hl:fs.length<=3000000000)(hlow:low<=w.heap.size)(hcat:∀f∈fs,f.d.length+dt.length<=3000000000)(hdt:dt.length<=3000000000):
  Calls pG 32 #[P0 (Y ⟨D,0,Z⟩),.string (aC nm),.string (aC dt)] w fun r w'=>r=.returned (.bool (decide (left≠0)))/\cA 98 107 low w S v (if left=0 then fs else eR fs nm dt) (cZ left) w':=by
 by_cases h0:left=0
 ·subst h0;refine(vY low D H S v fs nm dt w hH h).mono ?_;rintro r w' ⟨rfl,hd⟩;exact⟨rfl,hd⟩
 ·refine(zO low D H S v fs left nm dt w hH hDS h h0 hb hl hlow hcat hdt).mono ?_;rintro r w' ⟨rfl,hd⟩;refine⟨?_,?_⟩
  ·rw[show decide (left≠0)=true by simpa using h0]
  ·rw[if_neg h0];exact hd
theorem rP(low D H S:Nat)(v:Value)(fs:List FD)(left:Int)(nm:List UInt8)(w:World)(hH:eB w D H S)(hDS:D≠S)(h:DS 98 107 low w S v fs left)(hb:-9223372036854775808<=left/\left<=9223372036854775807)(hl:fs.length<=3000000000)(hlow:low<=w.heap.size)(hdl:∀f∈fs,f.d.length<=3000000000):
  Calls pG 34 #[P0 (Y ⟨D,0,Z⟩),.string (aC nm)] w fun r w'=>r=.returned (.bool (decide (left≠0)))/\cA 98 107 low w S v (if left=0 then fs else fD fs nm) (cZ left) w':=by
 by_cases h0:left=0
 ·subst h0;refine(zN low D H S v fs nm w hH h).mono ?_;rintro r w' ⟨rfl,hd⟩;exact⟨rfl,hd⟩
 ·refine(DV low D H S v fs left nm w hH hDS h h0 hb hl hlow hdl).mono ?_;rintro r w' ⟨rfl,hd⟩;refine⟨?_,?_⟩
  ·rw[show decide (left≠0)=true by simpa using h0]
  ·rw[if_neg h0];exact hd
theorem xO(low D H S:Nat)(v:Value)(fs:List FD)(left:Int)(nm dt:List UInt8)(w:World)(hH:eB w D H S)(hDS:D≠S)(h:DS 98 107 low w S v fs left)(hb:-9223372036854775808<=left/\left<=9223372036854775807)(hl:fs.length<=3000000000)(hlow:low<=w.heap.size):
  Calls pG 36 #[P0 (Y ⟨D,0,Z⟩),.string (aC nm),.string (aC dt)] w fun r w'=>r=.returned (.bool (decide (left≠0)))/\cA 98 107 low w S v (if left=0 then fs else gQ fs nm dt) (cZ left) w':=by
 by_cases h0:left=0
 ·subst h0;refine(vZ low D H S v fs nm dt w hH h).mono ?_;rintro r w' ⟨rfl,hd⟩;exact⟨rfl,hd⟩
 ·refine(zP low D H S v fs left nm dt w hH hDS h h0 hb hl hlow).mono ?_;rintro r w' ⟨rfl,hd⟩;refine⟨?_,?_⟩
  ·rw[show decide (left≠0)=true by simpa using h0]
  ·rw[if_neg h0];exact hd
structure PD where
 D:Nat
 H:Nat
 S:Nat
 R:Nat
 va:Value
 vr:Value
 fs:List FD
 gs:List FD
 left:Int
section
variable {low : Nat} {w w' : World} {p : PD} {B N : Nat}
end
section
variable {low : Nat} {w w' : World} {lv : Value} {ps : List PD} {B N : Nat}
end
end Go.Proofs.YtdcainmlcpafbaaGreatDoor
