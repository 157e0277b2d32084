import Derived.Test.YtdcainmlcpafbaaGreatDoorJ02
import Derived.Laws.OwnMore
import Derived.Deep.RegionLaw
set_option linter.all false
set_option maxHeartbeats 8000000
set_option maxRecDepth 20000
namespace Go.Proofs.YtdcainmlcpafbaaGreatDoor
open Go.RowKit
open Value renaming int->I,slice->J,pointer->P0
open Tryz
open Tryz renaming prog->pG
open IntKind renaming i64->T
open Option renaming none->Z,some->Y
open Obj renaming cells->G
open Value (bool)
structure FD where
 n:List UInt8
 d:List UInt8
 s:Nat
def FD.cells(f:FD):List Value:=[.string (dF f.n),.string (dF f.d),I T (f.s:Int)]
theorem p9(a b:List UInt8):((dF a).toList==(dF b).toList)=(a==b):=by rw[←beq_toListBytes];show((⟨a⟩:Array UInt8)==⟨b⟩)=(a==b);simp
theorem zT(fs:List FD):(fs.flatMap FD.cells).length=fs.length*3:=by
 induction fs with
 |nil=>rfl
 |cons f fs ih=>rw[List.flatMap_cons,List.length_append,ih];simp[FD.cells];omega
theorem kD:∀(fs:List FD) (i:Nat) (h:i<fs.length) (k:Nat) (b:k<3),(fs.flatMap FD.cells)[i*3+k]?=Y (fs[i].cells.getD k undef):=by
 intro fs;induction fs with
 |nil=>intro i h;simp at h
 |cons f fs ih=>
  intro i h k b;rw[List.flatMap_cons];have a:f.cells.length=3:=rfl;match i with
  |0=>rw[List.getElem?_append_left (by rw[a];omega)];simp only[Nat.zero_mul,Nat.zero_add,List.getElem_cons_zero];rw[List.getD_eq_getElem?_getD,List.getElem?_eq_getElem (by rw[a];exact b)];rfl
  |i+1=>rw[List.getElem?_append_right (by rw[a];omega),a,show(i+1)*3+k - 3=i*3+k by omega];exact ih i (by simpa using h) k b
structure DS(ty e:TypeId)(low:Nat)(w:World)(S:Nat)(v:Value)(fs:List FD)(left:Int):Prop where
 st:w.heap[S]?=Y (.cells #[v,I T left] ty (0,0))
 row:w.ownsRow low e 3 v fs.length (fs.flatMap FD.cells)
section
variable {ty e:TypeId} {low:Nat} {w:World} {S:Nat} {v:Value} {fs:List FD} {left:Int}
theorem DS.lt(h:DS ty e low w S v fs left):S<w.heap.size:=(Array.getElem?_eq_some_iff.1 h.st).1
theorem DS.cell(h:DS ty e low w S v fs left)(i:Nat):w.cell? ⟨S,i,Z⟩=#[v,I T left][i]?:=by simp[World.cell?,h.st]
theorem DS.free(h:DS ty e low w S v fs left)(i:Nat):w.frozen? ⟨S,i,Z⟩=false:=by simp[World.frozen?,h.st]
theorem DS.off(h:DS ty e low w S v fs left)(a:ty≠e):v.ownBlock≠some S:=by
 intro c;rcases h.row.2 with⟨rfl,_⟩|⟨g,f,d,rfl,_,b,_⟩;·simp[Value.ownBlock]at c
 ·simp[Value.ownBlock]at c;subst c;rw[h.st]at b;simp at b;exact a b.2
theorem DS.kept(h:DS ty e low w S v fs left){w':World}(j:w'.heap[S]?=w.heap[S]?)(d:∀g,v.ownBlock=Y g->w'.heap[g]?=w.heap[g]?):DS ty e low w' S v fs left:=by
 refine⟨j.trans h.st,h.row.1,?_⟩;rcases h.row.2 with l|⟨g,a,b,c,i,f,k⟩;·exact .inl l
 ·exact .inr ⟨g,a,b,c,i,(d g (by rw[c];rfl)).trans f,k⟩
theorem uF(w:World)(S:Nat)(a:Array Value)(t:TypeId)(i:Nat)(u:Value)(h:w.heap[S]?=Y (.cells a t (0,0))):(w.setCell ⟨S,i,Z⟩ u).heap[S]?=Y (.cells (a.setIfInBounds i u) t (0,0)):=by obtain⟨c,b⟩:=Array.getElem?_eq_some_iff.1 h;simp[World.setCell,Array.getElem_modify,b,c]
theorem DS.relay(h:DS ty e low w S v fs left)(b:ty≠e)(l:Int):DS ty e low (w.setCell ⟨S,1,Z⟩ (I T l)) S v fs l:=by
 have a:=h.off b;refine⟨by rw[uF w S _ _ 1 _ h.st];rfl,h.row.1,?_⟩;rcases h.row.2 with m|⟨g,c,d,f,j,i,n⟩;·exact .inl m
 ·refine .inr ⟨g,c,d,f,j,?_,n⟩;rw[Below.heap_setCell _ _ _ _ (by intro k;apply a;rw[f,k];rfl)];exact i
end
theorem nV(low S:Nat)(v:Value)(fs:List FD)(left:Int)(w:World)(h:DS 98 107 low w S v fs left)(e:-9223372036854775808<=left/\left<=9223372036854775807):Calls pG 76 #[P0 (Y ⟨S,0,Z⟩)] w fun r w'=>r=.returned (.bool (decide (left≠0)))/\w'=if 0<left then w.setCell ⟨S,1,Z⟩ (I T (left - 1)) else w:=by
 have d:=h.cell 1;have f:=h.free 1;simp at d;clear h;by_cases a:left=0;·subst a;go_enter func76,ntmps76;go_wp2;go_ret;exact⟨rfl,rfl⟩
 ·have g:(left==0)=false:=by simpa using a
  by_cases b:0<left;·have c:Hid (decide (left≠0)=true/\(if 0<left then w.setCell ⟨S,1,Z⟩ (I T (left - 1)) else w)=w.setCell ⟨S,1,Z⟩ (I T (left - 1))):=⟨by simpa using a,if_pos b⟩;go_enter func76,ntmps76;go_wp2;go_ret;exact⟨rfl,rfl⟩
  ·have c:Hid (decide (left≠0)=true/\(if 0<left then w.setCell ⟨S,1,Z⟩ (I T (left - 1)) else w)=w):=⟨by simpa using a,if_neg b⟩;go_enter func76,ntmps76;go_wp2;go_ret;exact⟨rfl,rfl⟩
theorem tN:(Tryz.prog.info? 107).map (fun i=>(i.zero,i.size,i.bytes))=Y (Y (.agg #[.string ⟨#[]⟩,.string ⟨#[]⟩,I T 0]),3,40):=by kernel_rfl
theorem k0{w:World}{base e n:Nat}{v:Value}{xs:List Value}(h:w.ownsRow base e 3 v n xs):∃a c,v=J a n c/\(n=0∨∃g,a=Y ⟨g,0,Z⟩/\base<=g/\g<w.heap.size/\∀j u,xs[j]?=Y u->w.cell? ⟨g,j,Z⟩=Y u):=by
 rcases h.2 with⟨rfl,rfl⟩|⟨g,b,f,rfl,d,k,_⟩;·exact⟨none,0,rfl,.inl rfl⟩
 ·refine⟨_,b,rfl,.inr ⟨g,rfl,d,(h.lt g rfl).2,fun j u i=>?_⟩⟩;have:=h.cells (g:=g) rfl j u i;rw[Go.WideShapes.add_plain]at this;simpa using this
def gM(fs:List FD)(nm:List UInt8):Option Nat:=fs.findIdx? (fun f=>f.n==nm)
def oD(fs:List FD)(nm:List UInt8):Int:=match gM fs nm with
 |none=> -1
 |some i=>(i:Int)
theorem G0{fs:List FD}{a:List UInt8}{t:Nat}(h:t<fs.length)(d:(fs[t].n==a)=true)(c:∀j (b:j<fs.length),j<t->(fs[j].n==a)=false):gM fs a=Y t:=by unfold gM;rw[List.findIdx?_eq_some_iff_getElem];refine⟨h,d,fun j b=>?_⟩;rw[c j (by omega) b];simp
theorem G1{fs:List FD}{a:List UInt8}(c:∀j (b:j<fs.length),(fs[j].n==a)=false):gM fs a=none:=by unfold gM;rw[List.findIdx?_eq_none_iff];intro f d;obtain⟨j,b,rfl⟩:=List.getElem_of_mem d;exact c j b
theorem qV(low S:Nat)(v:Value)(fs:List FD)(left:Int)(b:List UInt8)(w:World)(h:DS 98 107 low w S v fs left)(E:fs.length<=4611686018427387904):Calls pG 77 #[P0 (Y ⟨S,0,Z⟩),.string (dF b)] w fun r w'=>r=.returned (I T (oD fs b))/\w'=w:=by
 have y:=h.cell 0;simp at y;obtain⟨a,c,rfl,d⟩:=k0 h.row;have u:Hid _:=d;clear h d;go_enter func77,ntmps77;go_wp2;go_loop [11,5] (fun o _=>∃t:Nat,t<=fs.length/\o=I T t/\∀j (l:j<fs.length),j<t->(fs[j].n==b)=false) (fun o _=>fs.length - (intOf o).toNat);case atStart=>exact⟨0,by omega,rfl,fun j l D=>by omega⟩
 case round=>
  obtain⟨t,C,rfl,i⟩:=hrel;have e:Hid _:=i;clear i;by_cases k:t<fs.length
  ·obtain⟨g,rfl,_,_,f⟩:=u.out.resolve_left (by omega);have s:=f _ _ (kD fs t k 0 (by omega));simp[FD.cells]at s;have p:(t:Int)<(fs.length:Int):=by omega
   clear f;cases hq:(fs[t].n==b) with
   |true=>
    have q:=p9 fs[t].n b;rw[hq]at q;have m:Hid (oD fs b=(t:Int)):=by unfold Hid oD;rw[G0 k hq e.out]
    clear hq;generalize fs[t].n=B at*;go_wp2;go_ret;exact⟨oV m.out.symm,rfl⟩
   |false=>
    have q:=p9 fs[t].n b;rw[hq]at q;have z:=dA hq;clear hq;generalize fs[t].n=B at s q;go_wp2;go_round;case rel=>
     refine⟨t+1,by omega,by go_num,fun j l A=>?_⟩;by_cases x:j=t;·subst x;exact z
     ·exact e.out j l (by omega)
    case measure=>simp[intOf];omega
  ·have m:Hid (oD fs b = -1):=by unfold Hid oD;rw[G1 (fun j l=>e.out j l (by omega))]
   go_wp2;go_ret;exact⟨oV m.out.symm,rfl⟩
def dY(fs:List FD)(nm:List UInt8):List FD:=fs.filter (fun f=>f.n != nm)
theorem G2(fs:List FD)(a:List UInt8)(t:Nat)(h:t<fs.length):dY (fs.take (t+1)) a=if(fs[t].n==a)=true then dY (fs.take t) a else dY (fs.take t) a++[fs[t]]:=by unfold dY;rw[List.take_succ_eq_append_getElem h,List.filter_append];cases hq:(fs[t].n==a)<;>simp[hq,bne]
theorem JH(fs:List FD)(a:List UInt8)(t:Nat):(dY (fs.take t) a).length<=t:=by unfold dY;exact Nat.le_trans (List.length_filter_le _ _) (by rw[List.length_take];omega)
theorem sN(low S:Nat)(v:Value)(fs:List FD)(left:Int)(b:List UInt8)(w:World)(h:DS 98 107 low w S v fs left)(hl:fs.length<=3000000000):Calls pG 80 #[P0 (Y ⟨S,0,Z⟩),.string (dF b)] w fun r w'=>∃v',r=.returned v'/\w'.ownsRow w.heap.size 107 3 v' (dY fs b).length ((dY fs b).flatMap FD.cells)/\Below w.heap.size w w':=by
 obtain⟨i0,O,R,L,M⟩:=info_parts tN;have X:=h.cell 0;simp at X;have hS:=h.lt;obtain⟨a,c,rfl,i⟩:=k0 h.row;have HR:Hid _:=i;have HT:Hid (fs.take fs.length=fs):=List.take_length;clear h i;go_enter func80,ntmps80;go_wp2;go_loopw [5,13,7] (fun lx W _ wr=>∃t:Nat,t<=fs.length/\W=I T t/\wr.ownsRow w.heap.size 107 3 lx (dY (fs.take t) b).length ((dY (fs.take t) b).flatMap FD.cells)/\Below w.heap.size w wr) (fun _ W _ _=>fs.length - (intOf W).toNat);case atStart=>exact⟨0,by omega,rfl,World.ownsRow_nil _ _ _ _,Below.refl _ _⟩
 case round=>
  obtain⟨t,ht,rfl,U,K⟩:=hrel;have z:=dA U;have o:=dA K;have hc:=(K.cell (p:=⟨S,0,Z⟩) hS).trans X;have A:=K.size;obtain⟨la,B,rfl⟩:∃la B,u5=J la (dY (fs.take t) b).length B:=by obtain⟨x,y,V,_⟩:=k0 U;exact⟨x,y,V⟩
  clear U K;have a1:=JH fs b t;by_cases f:t<fs.length
  ·obtain⟨g,rfl,_,l,e⟩:=HR.out.resolve_left (by omega);have j0:=(o.out.cell (p:=⟨g,t*3+0,Z⟩) l).trans (e _ _ (kD fs t f 0 (by omega)));have j1:=(o.out.cell (p:=⟨g,t*3+1,Z⟩) l).trans (e _ _ (kD fs t f 1 (by omega)));have j2:=(o.out.cell (p:=⟨g,t*3+2,Z⟩) l).trans (e _ _ (kD fs t f 2 (by omega)));simp[FD.cells]at j0 j1 j2;have a0:(t:Int)<(fs.length:Int):=by omega
   have H:Hid _:=G2 fs b t f;clear e;generalize fs[t]=F at*;cases hq:(F.n==b) with
   |true=>
    have q:=p9 F.n b;rw[hq]at q;have m:Hid (dY (fs.take (t+1)) b=dY (fs.take t) b):=by unfold Hid;rw[H.out,hq];rfl
    clear hq H;go_wp2;go_roundw;case rel=>exact⟨t+1,by omega,by go_num,by rw[m.out];exact z.out.alloc _,o.out.alloc A _⟩
    case measure=>simp[intOf];omega
   |false=>
    have q:=p9 F.n b;rw[hq]at q;have m:Hid (dY (fs.take (t+1)) b=dY (fs.take t) b++[F]):=by unfold Hid;rw[H.out,hq];rfl
    clear hq H;go_wp2_with(at_builtin;go_loud (refine wpList_append_own _ rfl _ _ 96 rfl w.heap.size 107 i0 (.agg #[.string ⟨#[]⟩,.string ⟨#[]⟩,I T 0]) 3 40 underlying96 O R L M rfl (by decide) _ (dY (fs.take t) b).length ((dY (fs.take t) b).flatMap FD.cells) rfl (World.ownsRow.alloc (World.ownsRow.alloc z _) _) ⟨wr.heap.size+1,0,Z⟩ 1 1 [Value.string (dF F.n),Value.string (dF F.d),I T (F.s:Int)] rfl rfl ?c1 ?c2 ?c3 ?c4 ?c5 ?_));case c1=>intro j u E;rw[Go.WideShapes.add_plain];refine(World.cell?_alloc_at _ _ _ _ (by simp)).trans ?_;simpa using E
    case c2=>intro u E;simp at E;rcases E with rfl|rfl|rfl<;>rfl
    case c3=>unfold maxLen;omega
    case c4=>omega
    case c5=>simp;omega
    intro v' w9 k C _;obtain⟨xa,xc,rfl⟩:∃la B,v'=J la ((dY (fs.take t) b).length+1) B:=by obtain⟨x,y,V,_⟩:=k0 k;exact⟨x,y,V⟩
    have HN:Hid (w9.ownsRow w.heap.size 107 3 (J xa ((dY (fs.take t) b).length+1) xc) (dY (fs.take (t+1)) b).length ((dY (fs.take (t+1)) b).flatMap FD.cells)):=by unfold Hid;rw[m.out,List.length_append,List.flatMap_append];simp only[List.length_cons,List.length_nil,List.flatMap_cons,List.flatMap_nil,List.append_nil];exact k
    have D:=((o.out.alloc A _).alloc (by simp;omega) _).grown C (by simp;omega) (fun g hg=>(World.ownsRow.lt z g hg).1);have Q:Hid _:=D;clear k C D;go_wp2;go_roundw;case rel=>exact⟨t+1,by omega,by go_num,HN,Q⟩
    case measure=>simp[intOf];omega
  ·obtain rfl:t=fs.length:=by omega
   have N:Hid (wr.ownsRow w.heap.size 107 3 (J la (dY (fs.take fs.length) b).length B) (dY fs b).length ((dY fs b).flatMap FD.cells)):=by have:=z.out;unfold Hid;rw[HT.out]at this⊢;exact this
   clear z;go_wp2;go_ret;exact⟨_,rfl,N,o⟩
structure fR(A:Nat->Prop)(w w':World):Prop where
 os:w'.os=w.os
 tape:w'.tape=w.tape
 output:w'.output=w.output
 size:w.heap.size<=w'.heap.size
 block:∀k,k<w.heap.size->¬A k->w'.heap[k]?=w.heap[k]?
theorem fR.refl(A:Nat->Prop)(w:World):fR A w w:=⟨rfl,rfl,rfl,Nat.le_refl _,fun _ _ _=>rfl⟩
theorem fR.of_below{A:Nat->Prop}{w w':World}(h:Below w.heap.size w w'):fR A w w':=⟨h.os,h.tape,h.output,h.size,fun k a _=>h.block k a⟩
theorem fR.trans{A B:Nat->Prop}{w w1 w2:World}(h:fR A w w1)(k:fR B w1 w2)(e:∀b,b<w.heap.size->B b->A b):fR A w w2:=⟨k.os.trans h.os,k.tape.trans h.tape,k.output.trans h.output,Nat.le_trans h.size k.size,fun b a c=>(k.block b (Nat.lt_of_lt_of_le a h.size) (fun d=>c (e b a d))).trans (h.block b a c)⟩
theorem fR.set(w:World)(S i:Nat)(u:Value):fR (fun b=>b=S) w (w.setCell ⟨S,i,Z⟩ u):=
 have h:=dH.setCell w ⟨S,i,Z⟩ u
 ⟨h.os,h.tape,h.output,Nat.le_of_eq h.size.symm,fun k _ a=>h.block k a⟩
theorem G3(w:World)(a:Addr)(u:Value):w.grownBy (w.setCell a u) (Y a.block):=
 have h:=dH.setCell w a u
 ⟨h.os,h.tape,h.output,Nat.le_of_eq h.size.symm,fun k _ b=>h.block k (fun e=>b (by rw[e]))⟩
theorem BA{w:World}{base a:Nat}{e:TypeId}{size:Nat}{v:Value}{n:Nat}{xs:List Value}(h:w.ownsRow base e size v n xs)(f:a<=base):w.ownsRow a e size v n xs:=by
 refine⟨h.1,?_⟩;rcases h.2 with k|⟨g,c,b,i,d,j⟩;·exact .inl k
 ·exact .inr ⟨g,c,b,i,Nat.le_trans f d,j⟩
def eA(ty e:TypeId)(low:Nat)(w:World)(S:Nat)(v:Value)(fs':List FD)(left':Int)(w':World):Prop:=
 ∃v',DS ty e low w' S v' fs' left'/\fR (fun b=>b=S∨some b=v.ownBlock) w w'/\∀g,v'.ownBlock=Y g->v.ownBlock=Y g∨w.heap.size<=g
theorem DS.store{ty e:TypeId}{low low':Nat}{w2:World}{R:Nat}{v b:Value}{a:List FD}{left:Int}(d:w2.heap[R]?=Y (.cells #[v,I T left] ty (0,0)))(h:w2.ownsRow low' e 3 b a.length (a.flatMap FD.cells))(c:low<=low')(f:b.ownBlock≠some R):DS ty e low (w2.setCell ⟨R,0,Z⟩ b) R b a left:=by
 refine⟨by rw[uF w2 R _ _ 0 _ d];rfl,?_⟩;refine(BA h c).kept (G3 w2 ⟨R,0,Z⟩ b) ?_;by_cases g:b.ownBlock=none;·exact .inl g
 ·exact .inr f
theorem DS.later{ty e:TypeId}{low:Nat}{w w':World}{S:Nat}{v:Value}{fs:List FD}{left:Int}(h:DS ty e low w S v fs left)(a:Below w.heap.size w w'):DS ty e low w' S v fs left:=h.kept (a.block S h.lt) (fun g b=>a.block g (h.row.lt g b).2)
def dV(fs:List FD)(nm:List UInt8):Option FD:=fs.find? (fun f=>f.n==nm)
theorem G4{fs:List FD}{a:List UInt8}{t:Nat}(h:t<fs.length)(d:(fs[t].n==a)=true)(c:∀j (b:j<fs.length),j<t->(fs[j].n==a)=false):dV fs a=Y fs[t]:=by unfold dV;rw[List.find?_eq_some_iff_getElem];refine⟨d,t,h,rfl,fun j b=>?_⟩;rw[c j (by omega) b];rfl
theorem G5{fs:List FD}{a:List UInt8}(c:∀j (b:j<fs.length),(fs[j].n==a)=false):dV fs a=none:=by unfold dV;rw[List.find?_eq_none];intro f d;obtain⟨j,b,rfl⟩:=List.getElem_of_mem d;rw[c j b];simp
def i5:FD:=⟨[],[],0⟩
def fE(o:Option FD):FD:=o.getD i5
def dL(left:Int):Int:=if 0<left then left - 1 else left
theorem nX{ty e:TypeId}{low:Nat}{w:World}{S:Nat}{v:Value}{fs:List FD}{left:Int}(h:DS ty e low w S v fs left)(c:ty≠e)(w':World)(a:w'=if 0<left then w.setCell ⟨S,1,Z⟩ (I T (left - 1)) else w):DS ty e low w' S v fs (dL left)/\fR (fun b=>b=S) w w'/\w'.heap.size=w.heap.size:=by
 unfold dL;by_cases d:0<left;·rw[if_pos d]at a⊢;subst a;exact⟨h.relay c _,fR.set _ _ _ _,(dH.setCell w ⟨S,1,Z⟩ _).size⟩
 ·rw[if_neg d]at a⊢;subst a;exact⟨h,fR.refl _ _,rfl⟩
theorem eA.pre{ty e:TypeId}{low S:Nat}{w w1 w':World}{v:Value}{fs':List FD}{left':Int}(a:fR (fun b=>b=S) w w1)(h:eA ty e low w1 S v fs' left' w'):eA ty e low w S v fs' left' w':=by
 obtain⟨v',j,c,n⟩:=h;refine⟨v',j,?_,fun g l=>?_⟩;·refine⟨c.os.trans a.os,c.tape.trans a.tape,c.output.trans a.output,Nat.le_trans a.size c.size,fun k d i=>?_⟩;exact(c.block k (Nat.lt_of_lt_of_le d a.size) i).trans (a.block k d (fun m=>i (.inl m)))
 ·rcases n g l with f|f;·exact .inl f
  ·exact .inr (Nat.le_trans a.size f)
theorem eA.same{ty e:TypeId}{low S:Nat}{w w':World}{v:Value}{fs:List FD}{left:Int}(h:DS ty e low w' S v fs left)(a:fR (fun b=>b=S) w w'):eA ty e low w S v fs left w':=⟨v,h,⟨a.os,a.tape,a.output,a.size,fun k i c=>a.block k i (fun f=>c (.inl f))⟩,fun g d=>.inl d⟩
structure fN(w:World)(D H S:Nat):Prop where
 d:w.heap[D]?=Y (.cells #[P0 (Y ⟨S,0,Z⟩)] 100 (0,0))
 h:w.heap[H]?=Y (.cells #[P0 (Y ⟨S,0,Z⟩)] 102 (0,0))
theorem fN.cd{w:World}{D H S:Nat}(h:fN w D H S):w.cell? ⟨D,0,Z⟩=Y (P0 (Y ⟨S,0,Z⟩)):=by simp[World.cell?,h.d]
theorem zU(low:Nat)(w:World):Calls pG 12 #[] w fun r w'=>r=.returned (.tuple #[P0 (Y ⟨w.heap.size+1,0,Z⟩),P0 (Y ⟨w.heap.size+2,0,Z⟩)])/\DS 98 107 low w' w.heap.size (J Z 0 0) [] (-1)/\fN w' (w.heap.size+1) (w.heap.size+2) w.heap.size/\Below w.heap.size w w'/\w'.heap.size=w.heap.size+3:=by
 have b:=a_ w (G #[J Z 0 0,I T (-1)] 98);have h:(w.alloc (G #[J Z 0 0,I T (-1)] 98)).heap[w.heap.size]?=Y (.cells #[J Z 0 0,I T (-1)] 98 (0,0)):=heap_alloc_new w _;have c:(w.alloc (G #[J Z 0 0,I T (-1)] 98)).heap.size=w.heap.size+1:=by simp
 have g:∀a:World,a.heap.size=w.heap.size+1->a.heap[w.heap.size]?=Y (.cells #[J Z 0 0,I T (-1)] 98 (0,0))->Below w.heap.size w a->
   DS 98 107 low ((a.alloc (G #[P0 (Y ⟨w.heap.size,0,Z⟩)] 100)).alloc (G #[P0 (Y ⟨w.heap.size,0,Z⟩)] 102)) w.heap.size (J Z 0 0) [] (-1)/\fN ((a.alloc (G #[P0 (Y ⟨w.heap.size,0,Z⟩)] 100)).alloc (G #[P0 (Y ⟨w.heap.size,0,Z⟩)] 102)) (w.heap.size+1) (w.heap.size+2) w.heap.size/\Below w.heap.size w ((a.alloc (G #[P0 (Y ⟨w.heap.size,0,Z⟩)] 100)).alloc (G #[P0 (Y ⟨w.heap.size,0,Z⟩)] 102))/\((a.alloc (G #[P0 (Y ⟨w.heap.size,0,Z⟩)] 100)).alloc (G #[P0 (Y ⟨w.heap.size,0,Z⟩)] 102)).heap.size=w.heap.size+3:=by
  intro a d i j;have s1:(a.alloc (G #[P0 (Y ⟨w.heap.size,0,Z⟩)] 100)).heap.size=w.heap.size+2:=by simp[d]
  refine⟨⟨?_,World.ownsRow_nil _ _ _ _⟩,⟨?_,?_⟩,(j.alloc (by omega) _).alloc (by simp;omega) _,by simp[d]⟩
  ·exact(heap_alloc_old _ _ (by omega)).trans ((heap_alloc_old _ _ (by omega)).trans i)
  ·refine(heap_alloc_old _ _ (by omega)).trans ?_;have:=heap_alloc_new a (G #[P0 (Y ⟨w.heap.size,0,Z⟩)] 100);rw[d]at this;exact this
  ·have:=heap_alloc_new (a.alloc (G #[P0 (Y ⟨w.heap.size,0,Z⟩)] 100)) (G #[P0 (Y ⟨w.heap.size,0,Z⟩)] 102);rw[s1]at this;exact this
 have f:=g _ c h b;have e:Hid _:=f;clear g f h b;go_enter func12,ntmps12;go_wp2;exact bodyPost_ret (v:=.tuple #[P0 (Y ⟨w.heap.size+1,0,Z⟩),P0 (Y ⟨w.heap.size+2,0,Z⟩)]) (by simp[results,results12,go_sem]) rfl ⟨rfl,e⟩
theorem fN.later{w w':World}{D H S:Nat}(h:fN w D H S)(a:w'.heap[D]?=w.heap[D]?)(b:w'.heap[H]?=w.heap[H]?):fN w' D H S:=⟨a.trans h.d,b.trans h.h⟩
theorem rI(fs:List FD)(a:List UInt8):oD fs a = -1/\gM fs a=none∨∃i:Nat,oD fs a=(i:Int)/\gM fs a=Y i/\i<fs.length:=by
 unfold oD;cases h:gM fs a with
 |none=>exact .inl ⟨rfl,rfl⟩
 |some i=>refine .inr ⟨i,rfl,rfl,?_⟩;unfold gM at h;rw[List.findIdx?_eq_some_iff_getElem]at h;exact h.1
theorem xZ{fs:List FD}{b:List UInt8}{i:Nat}(h:gM fs b=Y i)(hi:i<fs.length):dV fs b=Y fs[i]:=by unfold gM at h;rw[List.findIdx?_eq_some_iff_getElem]at h;obtain⟨_,d,c⟩:=h;exact G4 hi d (fun j e a=>by have:=c j a;simpa using this)
theorem xT{fs:List FD}{a:List UInt8}(h:gM fs a=none):dV fs a=none:=by unfold gM at h;rw[List.findIdx?_eq_none_iff]at h;exact G5 (fun j b=>h _ (List.getElem_mem b))
theorem JI(low D H S:Nat)(v:Value)(fs:List FD)(left:Int)(a:List UInt8)(w:World)(f:fN w D H S)(h:DS 98 107 low w S v fs left)(j:fs.length<=3000000000):Calls pG 41 #[P0 (Y ⟨D,0,Z⟩),.string (dF a)] w fun r w'=>r=.returned (.bool (dV fs a).isSome)/\w'=w:=by
 have cd:=f.cd;clear f;go_enter func41,ntmps41;go_wp2_with fail;refine(qV low S v fs left a w h (by omega)).mono ?_;rintro r w' ⟨rfl,e⟩;replace e:=e.symm;subst e;rcases rI fs a with⟨c,b⟩|⟨i,c,b,g⟩
 ·have d:Hid ((dV fs a).isSome=false):=by unfold Hid;rw[xT b];rfl
  rw[c];clear c b h;go_wp2;go_ret;exact⟨lH d.out.symm,rfl⟩
 ·have d:Hid ((dV fs a).isSome=true):=by unfold Hid;rw[xZ b g];rfl
  rw[c];clear c b h;go_wp2;go_ret;exact⟨lH d.out.symm,rfl⟩
theorem G6(low D H S:Nat)(v:Value)(fs:List FD)(left:Int)(e:List UInt8)(w:World)(n:fN w D H S)(h:DS 98 107 low w S v fs left)(t:fs.length<=3000000000):Calls pG 40 #[P0 (Y ⟨D,0,Z⟩),.string (dF e)] w fun r w'=>r=.returned (.string (dF (fE (dV fs e)).d))/\w'=w:=by
 have cd:=n.cd;have q:=h.cell 0;simp at q;clear n;go_enter func40,ntmps40;go_wp2_with fail;refine(qV low S v fs left e w h (by omega)).mono ?_;rintro r w' ⟨rfl,m⟩;replace m:=m.symm;subst m;rcases rI fs e with⟨k,j⟩|⟨i,k,j,o⟩
 ·have l:Hid (dF (fE (dV fs e)).d=⟨#[]⟩):=by unfold Hid;rw[xT j];rfl
  rw[k];clear k j h;go_wp2;go_ret;exact⟨by rw[l.out];rfl,rfl⟩
 ·have l:Hid (dF (fE (dV fs e)).d=dF fs[i].d):=by unfold Hid;rw[xZ j o];rfl
  rw[k];obtain⟨a,c,rfl,b⟩:=k0 h.row;obtain⟨g,rfl,_,_,f⟩:=b.resolve_left (by omega);have s:=f _ _ (kD fs i o 1 (by omega));simp[FD.cells]at s;have p:(i:Int)<(fs.length:Int):=by omega
  clear k j h f b;go_wp2;go_ret;exact⟨by rw[l.out];rfl,rfl⟩
theorem EK(low D H S:Nat)(v:Value)(fs:List FD)(left:Int)(w:World)(a:fN w D H S)(h:DS 98 107 low w S v fs left):Calls pG 42 #[P0 (Y ⟨D,0,Z⟩)] w fun r w'=>r=.returned (.bool (left==0))/\w'=w:=by have cd:=a.cd;have b:=h.cell 1;simp at b;clear a h;go_enter func42,ntmps42;go_wp2;go_ret;exact⟨rfl,rfl⟩
theorem DS.drew{ty e:TypeId}{low:Nat}{w:World}{S:Nat}{v:Value}{fs:List FD}{left:Int}(h:DS ty e low w S v fs left):DS ty e low w.drew S v fs left:=⟨h.st,h.row⟩
structure nN where
 l:Value
 a:Value
 b:Value
 c:Value
 n:Nat
def nN.cells(e:nN):List Value:=[e.l,e.a,e.b,e.c,I T e.n]
section
variable {P:Program} (w:World)
theorem xL(base:Nat)(t ty e:TypeId)(i:TypeInfo)(z:Value)(size bytes:Nat)(N:P.underlying t=Y (.slice e))(hi:P.info? e=Y i)(O:i.zero=Y z)(p:i.size=size)(C:i.bytes=bytes)(V:z.cells.size=size)(R:0<size)(v:Value)(n:Nat)(xs:List Value)(b:w.ownsRow base e size v n xs)(a:Addr)(m c:Nat)(news:List Value)(S:0<m)(L:news.length=m*size)(d:∀j u,news[j]?=Y u->w.cell? (a.add j)=Y u)(W:∀u∈news,u.oneCell'=true)(D:n+m<=maxLen)(f:(n+m)*bytes<=140737488355328)(x:base<=w.heap.size):∃v' w',(Builtin.append_ #[t,t] ty #[v,J (Y a) m c]).run P w=.ok v' w'/\w'.ownsRow base e size v' (n+m) (xs++news)/\w.grownBy w' v.ownBlock/\w'.ownsRow base e size v n xs/\∃U,v'.ownBlock=Y U/\(v.ownBlock=Y U∨w.heap.size<=U/\w.grownBy w' none):=by
 obtain⟨v',w',M,h2,y,_⟩:=run_append_own (P:=P) w base t ty e i z size bytes N hi O p C V R v n xs b a m c news L d W D f x;refine⟨v',w',M,h2,y,?_⟩;subst p;subst C;have X:n+m<=9223372036854775807:=by simp only[maxLen]at D;omega
 rcases b.2 with⟨rfl,rfl⟩|⟨g,q,r,rfl,K,Q,B,F,E,o⟩;·have hx:xs=[]:=List.eq_nil_of_length_eq_zero (by simpa using b.1);subst hx;have h:=run_append_nil (P:=P) w t ty e i z N hi O a m c news L d S (by omega) (by have hb:=f;simp only[Nat.zero_add]at hb;omega);rw[M]at h;injection h with e1 e2;subst e1;exact⟨World.ownsRow_nil _ _ _ _,w.heap.size,rfl,.inr ⟨Nat.le_refl _,y⟩⟩
 ·by_cases l:n+m<=q
  ·have A:n*i.size+news.length<=r.size:=by rw[L,E,←Nat.add_mul];exact Nat.mul_le_mul_right _ l
   have h:=run_append_room (P:=P) w t ty e i N hi g n q r Q a m c news L d W l A;rw[M]at h;injection h with e1 e2;subst e1;subst e2;refine⟨⟨b.1,.inr ⟨g,q,_,rfl,K,setRow_heap w g r _ e _ Q,B,F,?_,?_⟩⟩,g,rfl,.inl rfl⟩;·simp only[List.size_toArray,List.length_append,List.length_take,List.length_drop,Array.length_toList];omega
   ·rw[o,List.append_assoc,←b.1];exact List.take_left
  ·have s:=b.cells (g:=g) rfl;have h:=run_append_grow (P:=P) w t ty e i z N hi O ⟨g,0,Z⟩ n q xs b.1 s a m c news L d (by omega) (by omega) (growslice_fits (by omega) f);rw[M]at h;injection h with e1 e2;subst e1;subst e2;have H:=(b.lt g rfl).2;refine⟨⟨b.1,.inr ⟨g,q,r,rfl,K,(heap_alloc_old w.drew _ H).trans Q,B,F,E,o⟩⟩,w.heap.size,rfl,.inr ⟨Nat.le_refl _,y.os,y.tape,y.output,y.size,fun k hk _=>heap_alloc_old w.drew _ hk⟩⟩
end
theorem xO(w:World)(a:Addr)(u:Value):w.grownBy (w.setCell a u) (Y a.block):=
 have h:=dH.setCell w a u
 ⟨h.os,h.tape,h.output,Nat.le_of_eq h.size.symm,fun k _ b=>h.block k (fun e=>b (by rw[e]))⟩
theorem qT(w:World)(a:Addr)(u:Value):(w.setCell a u).heap.size=w.heap.size:=(dH.setCell w a u).size
section
variable {e:TypeId} {low:Nat} {w1:World} {l:Value} {len:Nat} {xs:List Value} {wk:World} {cs:List Value}
end
theorem iQ{P:Program}{ops:Array Oper}{o:Oper}{a:Act}{w:World}{K:Act->World->Prop}{Q:Exit->Act->World->Prop}{E:Prop}(B:o.guard=none)(s x:Operand)(t:TypeId)(g:o.op=Op.call {callee:=Callee.builtin Builtin.append,args:=#[s,x],argTypes:=#[t,t]})(base:Nat)(e:TypeId)(i:TypeInfo)(z:Value)(size bytes:Nat)(N:P.underlying t=Y (.slice e))(M:P.info? e=Y i)(W:i.zero=Y z)(F:i.size=size)(y:i.bytes=bytes)(H:z.cells.size=size)(L:0<size)(v:Value)(n:Nat)(xs:List Value)(hs:a.eval s=v)(d:w.ownsRow base e size v n xs)(p:Addr)(m c:Nat)(news:List Value)(k:0<m)(D:a.eval x=J (Y p) m c)(C:news.length=m*size)(O:∀j u,news[j]?=Y u->w.cell? (p.add j)=Y u)(l:∀u∈news,u.oneCell'=true)(U:n+m<=maxLen)(q:(n+m)*bytes<=140737488355328)(b:base<=w.heap.size)(A:∀v' w',w'.ownsRow base e size v' (n+m) (xs++news)->w.grownBy w' v.ownBlock->(∃h,v'.ownBlock=Y h/\(v.ownBlock=Y h∨w.heap.size<=h/\w.grownBy w' none))->K (a.put o.dst v') w'):if Region.wanted o (yielded ops a.tmps)=true then Oper.wp P o a w K Q else E:=by
 have V:Region.wanted o (yielded ops a.tmps)=true:=by simp[Region.wanted,B]
 rw[if_pos V];obtain⟨v',w',f,R,r,_,S⟩:=xL (P:=P) w base t o.type e i z size bytes N M W F y H L v n xs d p m c news k C O l U q b;unfold Oper.wp;simp only[execOp,g,resolve,invoke,builtin,Sem.run_bind,Sem.run_pure,Result.andThen_ok,List.map_toArray,List.map_cons,List.map_nil,hs,D,f];exact A v' w' R r S
theorem eB{w:World}{base:Nat}{e:TypeId}{size:Nat}{v:Value}{n:Nat}{xs:List Value}(h:w.ownsRow base e size v n xs):∃a c,v=J a n c:=by
 rcases h.2 with⟨rfl,rfl⟩|⟨g,d,b,rfl,_⟩;·exact⟨_,_,rfl⟩
 ·exact⟨_,_,rfl⟩
structure dK(A:Nat->Prop)(w w':World):Prop where
 os:w'.os=w.os
 tape:w'.tape=w.tape
 output:w'.output=w.output
 size:w.heap.size<=w'.heap.size
 block:∀k,k<w.heap.size->¬A k->w'.heap[k]?=w.heap[k]?
end Go.Proofs.YtdcainmlcpafbaaGreatDoor
