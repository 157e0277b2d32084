import Derived.Test.YtdcainmlcpafbaaGreatDoorJ02
import Derived.Laws.OwnMore
import Derived.Deep.RegionLaw
import Derived.Lib.LazyBuf
import Derived.Lib.BufferWrite
import Derived.Laws.CopyOwn
set_option linter.all false
set_option maxHeartbeats 8000000
namespace Go.Proofs.YtdcainmlcpafbaaGreatDoor
open Go.RowKit
open Value renaming int->I,slice->J,pointer->P0
open Tryz renaming prog->pG
open IntKind renaming i64->T
open Option renaming none->Z,some->Y
open Obj renaming cells->G
open Value (bool)
section
set_option maxRecDepth 20000
def mk(n i:Nat):Nat:=if i%2=0 then 1+n%251 else 1+n / 251%251
theorem oL(n i:Nat)(w:World)(hn:n<=4611686018427387904)(hi:i<=4611686018427387904):Calls pG 128 #[I T n,I T i] w fun e w'=>e=.returned (.int .u8 (mk n i))/\w'=w:=by
 by_cases h:i%2=0
 ·have H:Hid ((mk n i:Int)=(1+(n:Int)%251)):=by unfold Hid mk;rw[if_pos h];omega
  have h1:(i:Int)%2=0:=by omega
  go_enter Tryz.func128,Tryz.ntmps128;go_wp2;go_ret;exact⟨iP (by rw[H.out]),rfl⟩
 ·have H:Hid ((mk n i:Int)=(1+(n:Int) / 251%251)):=by unfold Hid mk;rw[if_neg h];omega
  have h2:(i:Int)%2=1:=by omega
  go_enter Tryz.func128,Tryz.ntmps128;go_wp2;go_ret;exact⟨iP (by rw[H.out]),rfl⟩
def pM(val:Nat->Value)(w:World)(base:Nat)(bad:Nat->Prop)(x:Value):Prop:=
 ∃a len c,x=J a len c/\len<=4194304/\(len=0∨∃g,a=Y ⟨g,0,Z⟩/\base<=g/\g<w.heap.size/\¬bad g/\∀j,j<len->w.cell? ⟨g,j,Z⟩=Y (val j))
def vB(n j:Nat):Value:=.int .u8 (mk n j)
def vI(n:Nat)(_:Nat):Value:=I T (-1000 - (n:Int))
theorem mG(x:Value)(n base:Nat)(bad:Nat->Prop)(w:World)(hn:n<=4611686018427387904)(h:pM (vB n) w base bad x):
  Calls pG 71 #[x,I T n] w fun e w'=>e=.returned (.bool true)/\Below w.heap.size w w':=by
 obtain⟨a,len,c,rfl,hl,hc⟩:=h;go_enter Tryz.func71,Tryz.ntmps71;go_wp2
 go_loopw [5] (fun i wr=>∃t m:Nat,t<=len/\i=I T t/\wr=w.drewN m) (fun i _=>len - (intOf i).toNat)
 case atStart=>exact⟨0,0,by omega,rfl,rfl⟩
 case round=>
  obtain⟨t,m,ht,rfl,rfl⟩:=hrel
  by_cases htl:t<len
  ·obtain⟨g,rfl,_,_,_,hcc⟩:=hc.resolve_left (by omega);have j1:=hcc t htl;unfold vB at j1;have htl2:(t:Int)<(len:Int):=by omega
   clear hcc;go_wp2
   go_region_held3 (fun w'=>w'.cell? ⟨g,t,Z⟩=Y (.int .u8 (mk n t))) (go_keep) (first|(go_at_call 128;refine(oL _ _ _ (by omega) (by omega)).mono ?_;rintro e w' ⟨rfl,rfl⟩))
   go_wp2
   go_roundw
   case rel=>exact⟨t+1,m+1,by omega,by go_num,rfl⟩
   case measure=>simp[intOf];omega
  ·clear hc;go_wp2;go_ret;exact⟨rfl,below_drewN (Below.refl _ _) _⟩
theorem mI(x:Value)(n base:Nat)(bad:Nat->Prop)(w:World)(hn:n<=4611686018427387904)(h:pM (vI n) w base bad x):
  Calls pG 72 #[x,I T n] w fun e w'=>e=.returned (.bool true)/\Below w.heap.size w w':=by
 obtain⟨a,len,c,rfl,hl,hc⟩:=h;go_enter Tryz.func72,Tryz.ntmps72;go_wp2
 go_loopw [5] (fun i wr=>∃t m:Nat,t<=len/\i=I T t/\wr=w.drewN m) (fun i _=>len - (intOf i).toNat)
 case atStart=>exact⟨0,0,by omega,rfl,rfl⟩
 case round=>
  obtain⟨t,m,ht,rfl,rfl⟩:=hrel
  by_cases htl:t<len
  ·obtain⟨g,rfl,_,_,_,hcc⟩:=hc.resolve_left (by omega);have j1:=hcc t htl;unfold vI at j1;have htl2:(t:Int)<(len:Int):=by omega
   clear hcc;go_wp2
   go_roundw
   case rel=>exact⟨t+1,m,by omega,by go_num,rfl⟩
   case measure=>simp[intOf];omega
  ·clear hc;go_wp2;go_ret;exact⟨rfl,below_drewN (Below.refl _ _) _⟩
end
section
variable {P : Program} (w : World)
theorem pS(base:Nat)(t ty e:TypeId)(i:TypeInfo)(z:Value)(size bytes:Nat)(ht:P.underlying t=Y (.slice e))(hi:P.info? e=Y i)(hz:i.zero=Y z)(hsize:i.size=size)(hby:i.bytes=bytes)(hzs:z.cells.size=size)(hsz:0<size)(v:Value)(n:Nat)(xs:List Value)(hown:w.ownsRow base e size v n xs)(a:Addr)(m c:Nat)(news:List Value)(hm0:0<m)(hl:news.length=m*size)(hnews:∀j u,news[j]?=Y u->w.cell? (a.add j)=Y u)(h1:∀u∈news,u.oneCell'=true)(h63:n+m<=maxLen)(hbytes:(n+m)*bytes<=140737488355328)(hbase:base<=w.heap.size):
  ∃v' w',(Builtin.append_ #[t,t] ty #[v,J (Y a) m c]).run P w=.ok v' w'/\w'.ownsRow base e size v' (n+m) (xs++news)/\w.grownBy w' v.ownBlock/\w'.ownsRow base e size v n xs/\
   ∃g',v'.ownBlock=Y g'/\(v.ownBlock=Y g'∨w.heap.size<=g'/\w.grownBy w' none):=by
 obtain⟨v',w',hr,h2,h3,_⟩:=run_append_own (P:=P) w base t ty e i z size bytes ht hi hz hsize hby hzs hsz v n xs hown a m c news hl hnews h1 h63 hbytes hbase;refine⟨v',w',hr,h2,h3,?_⟩;subst hsize
 subst hby;have h63':n+m<=9223372036854775807:=by simp only[maxLen]at h63;omega
 rcases hown.2 with⟨rfl,rfl⟩|⟨g,cap,cur,rfl,hbg,hg,hnc,hcm,hcs,htake⟩
 ·have hx:xs=[]:=List.eq_nil_of_length_eq_zero (by simpa using hown.1);subst hx;have hr2:=run_append_nil (P:=P) w t ty e i z ht hi hz a m c news hl hnews hm0 (by omega) (by have hb:=hbytes;simp only[Nat.zero_add]at hb;omega);rw[hr]at hr2
  injection hr2 with e1 e2
  subst e1;exact⟨World.ownsRow_nil _ _ _ _,w.heap.size,rfl,.inr ⟨Nat.le_refl _,h3⟩⟩
 ·by_cases hroom:n+m<=cap
  ·have hfit:n*i.size+news.length<=cur.size:=by rw[hl,hcs,←Nat.add_mul];exact Nat.mul_le_mul_right _ hroom
   have hr2:=run_append_room (P:=P) w t ty e i ht hi g n cap cur hg a m c news hl hnews h1 hroom hfit;rw[hr]at hr2
   injection hr2 with e1 e2
   subst e1;subst e2;refine⟨⟨hown.1,.inr ⟨g,cap,_,rfl,hbg,setRow_heap w g cur _ e _ hg,hnc,hcm,?_,?_⟩⟩,g,rfl,.inl rfl⟩
   ·simp only[List.size_toArray,List.length_append,List.length_take,List.length_drop,Array.length_toList];omega
   ·rw[htake,List.append_assoc,←hown.1];exact List.take_left
  ·have holds:=hown.cells (g:=g) rfl;have hr2:=run_append_grow (P:=P) w t ty e i z ht hi hz ⟨g,0,Z⟩ n cap xs hown.1 holds a m c news hl hnews (by omega) (by omega) (growslice_fits (by omega) hbytes);rw[hr]at hr2
   injection hr2 with e1 e2
   subst e1;subst e2;have hglt:=(hown.lt g rfl).2;refine⟨⟨hown.1,.inr ⟨g,cap,cur,rfl,hbg,(heap_alloc_old w.drew _ hglt).trans hg,hnc,hcm,hcs,htake⟩⟩,w.heap.size,rfl,.inr ⟨Nat.le_refl _,h3.os,h3.tape,h3.output,h3.size,fun k hk _=>heap_alloc_old w.drew _ hk⟩⟩
def MA(val:Nat->Value)(w:World)(g k:Nat):Prop:=∀j,j<k->w.cell? ⟨g,j,Z⟩=Y (val j)
end
structure bU where
 l:Value
 a:Value
 b:Value
 c:Value
 n:Nat
def bU.cells(e:bU):List Value:=[e.l,e.a,e.b,e.c,I T e.n]
theorem lV:∀(es:List bU) (i:Nat) (h:i<es.length) (k:Nat) (hk:k<5),(es.flatMap bU.cells)[i*5+k]?=Y (es[i].cells.getD k undef):=by
 intro es
 induction es with
 |nil=>intro i h;simp at h
 |cons e es ih=>
  intro i h k hk;rw[List.flatMap_cons];have hlen:e.cells.length=5:=rfl
  match i with
  |0=>
   rw[List.getElem?_append_left (by rw[hlen];omega)];simp only[Nat.zero_mul,Nat.zero_add,List.getElem_cons_zero];rw[List.getD_eq_getElem?_getD,List.getElem?_eq_getElem (by rw[hlen];exact hk)];rfl
  |i+1=>
   rw[List.getElem?_append_right (by rw[hlen];omega),hlen,show(i+1)*5+k - 5=i*5+k by omega];exact ih i (by simpa using h) k hk
theorem dN{w:World}{base e size n:Nat}{v:Value}{xs:List Value}(h:w.ownsRow base e size v n xs):∃a c,v=J a n c/\(n=0∨∃g,a=Y ⟨g,0,Z⟩/\base<=g/\g<w.heap.size/\∀j u,xs[j]?=Y u->w.cell? ⟨g,j,Z⟩=Y u):=by
 rcases h.2 with⟨rfl,rfl⟩|⟨g,cap,cur,rfl,hb,hg,_⟩
 ·exact⟨none,0,rfl,.inl rfl⟩
 ·refine⟨_,cap,rfl,.inr ⟨g,rfl,hb,(h.lt g rfl).2,fun j u hj=>?_⟩⟩;have:=h.cells (g:=g) rfl j u hj;rw[Go.WideShapes.add_plain]at this
  simpa using this
theorem FE:(Tryz.prog.info? 150).map (fun i=>(i.zero,i.size,i.bytes))=Y (Y (.agg #[J Z 0 0,J Z 0 0,J Z 0 0,J Z 0 0,I T 0]),5,104):=by kernel_rfl
theorem lG(n:Nat)(z:Int)(i:Nat)(w:World)(hz:z=i)(hn:n<=4611686018427387904)(hi:i<=4611686018427387904):Calls pG 128 #[I T n,I T z] w fun e w'=>e=.returned (.int .u8 (mk n i))/\w'=w:=by
 subst hz;exact oL n i w hn hi
theorem pB(n j:Nat):(vB n j).oneCell'=true:=rfl
theorem iZ(w:World)(a:Addr)(u:Value):w.grownBy (w.setCell a u) (Y a.block):=
 have h:=aD.setCell w a u
 ⟨h.os,h.tape,h.output,Nat.le_of_eq h.size.symm,fun k _ hk=>h.block k (fun e=>hk (by rw[e]))⟩
theorem bL(w:World)(a:Addr)(u:Value):(w.setCell a u).heap.size=w.heap.size:=(aD.setCell w a u).size
structure AM(low:Nat)(w1:World)(l:Value)(val:Nat->Value)(k:Nat)(wk:World)(g:Nat):Prop where
 low:low<=g
 lt:g<wk.heap.size
 ne:g≠w1.heap.size
 is:l.ownBlock=Y g∨w1.heap.size<=g
 ma:MA val wk g k
section
variable {e : TypeId} {low : Nat} {w1 : World} {l : Value} {len : Nat} {xs : List Value} {wk : World} {cs : List Value}
end
theorem gC{P:Program}{ops:Array Oper}{o:Oper}{a:Act}{w:World}{K:Act->World->Prop}{Q:Exit->Act->World->Prop}{E:Prop}(hg:o.guard=none)(s x:Operand)(t:TypeId)(hop:o.op=Op.call {callee:=Callee.builtin Builtin.append,args:=#[s,x],argTypes:=#[t,t]})(base:Nat)(e:TypeId)(i:TypeInfo)(z:Value)(size bytes:Nat)(h1:P.underlying t=Y (.slice e))(h2:P.info? e=Y i)(h3:i.zero=Y z)(h4:i.size=size)(h5:i.bytes=bytes)(h6:z.cells.size=size)(h7:0<size)(v:Value)(n:Nat)(xs:List Value)(hs:a.eval s=v)(hown:w.ownsRow base e size v n xs)(ad:Addr)(m c:Nat)(news:List Value)(hm0:0<m)(hx:a.eval x=J (Y ad) m c)(hn:news.length=m*size)(hc:∀j u,news[j]?=Y u->w.cell? (ad.add j)=Y u)(h1c:∀u∈news,u.oneCell'=true)(b1:n+m<=maxLen)(b2:(n+m)*bytes<=140737488355328)(hbase:base<=w.heap.size)(hK:∀v' w',w'.ownsRow base e size v' (n+m) (xs++news)->w.grownBy w' v.ownBlock->(∃g',v'.ownBlock=Y g'/\(v.ownBlock=Y g'∨w.heap.size<=g'/\w.grownBy w' none))->K (a.put o.dst v') w'):
  if Region.wanted o (yielded ops a.tmps)=true then Oper.wp P o a w K Q else E:=by
 have hw:Region.wanted o (yielded ops a.tmps)=true:=by simp[Region.wanted,hg]
 rw[if_pos hw];obtain⟨v',w',hrun,r1,r2,_,r3⟩:=pS (P:=P) w base t o.type e i z size bytes h1 h2 h3 h4 h5 h6 h7 v n xs hown ad m c news hm0 hn hc h1c b1 b2 hbase;unfold Oper.wp;simp only[execOp,hop,resolve,invoke,builtin,Sem.run_bind,Sem.run_pure,Result.andThen_ok,List.map_toArray,List.map_cons,List.map_nil,hs,hx,hrun];exact hK v' w' r1 r2 r3
theorem aO{w:World}{base:Nat}{e:TypeId}{size:Nat}{v:Value}{n:Nat}{xs:List Value}(h:w.ownsRow base e size v n xs):∃a c,v=J a n c:=by
 rcases h.2 with⟨rfl,rfl⟩|⟨g,cap,cur,rfl,_⟩
 ·exact⟨_,_,rfl⟩
 ·exact⟨_,_,rfl⟩
structure aK(A:Nat->Prop)(w w':World):Prop where
 os:w'.os=w.os
 tape:w'.tape=w.tape
 output:w'.output=w.output
 size:w.heap.size<=w'.heap.size
 block:∀k,k<w.heap.size->¬A k->w'.heap[k]?=w.heap[k]?
section
set_option maxRecDepth 20000
theorem DJ{w:World}{base:Nat}{e:TypeId}{g n:Nat}{xs:List Value}(h:w.ownsRow base e 1 (J (Y ⟨g,0,Z⟩) n n) n xs):base<=g/\w.heap[g]?=Y (.cells xs.toArray e (0,0))/\xs.length=n/\n<=maxLen:=by
 obtain⟨h0,h1⟩:=h;rcases h1 with⟨h1,_⟩|⟨g',cap,cur,h1,h2,h3,h4,h5,h6,h7⟩
 ·cases h1
 ·cases h1;have h8:cur.toList=xs:=by rw[←h7,List.take_of_length_le (by simp;omega)]
  refine⟨h2,?_,by omega,h5⟩;rw[h3,←h8]
theorem DK{w:World}{base:Nat}{e:TypeId}{g n:Nat}{xs:List Value}(h1:base<=g)(h2:w.heap[g]?=Y (.cells xs.toArray e (0,0)))(h3:xs.length=n)(h4:n<=maxLen):w.ownsRow base e 1 (J (Y ⟨g,0,Z⟩) n n) n xs:=
 ⟨by omega,.inr ⟨g,n,xs.toArray,rfl,h1,h2,Nat.le_refl _,h4,by simp;omega,by rw[List.take_of_length_le (by simp;omega)]⟩⟩
theorem vU(w:World)(g:Nat)(cs:Array Value):w.grownBy (w.setRow g cs) (Y g):=
 ⟨rfl,rfl,rfl,by simp[World.setRow],fun k hk hne=>setRow_other w g k cs (fun h=>hne (by rw[h]))⟩
theorem uN{P:Program}{w:World}{ops:Array Oper}{rest:List Oper}{o:Oper}{a:Act}{Q:Exit->Act->World->Prop}(hgd:o.guard=none)(d s:Operand)(dT sT:TypeId)(ho:o.op=.call {callee:=.builtin .copy,args:=#[d,s],argTypes:=#[dT,sT]})(elem:TypeId)(hu:P.underlying dT=Y (.slice elem))(hsz:(P.info? elem).map (·.size)=Y 1)(base g n:Nat)(t:ByteArray)(xs:List Value)(hd:a.eval d=J (Y ⟨g,0,Z⟩) n n)(hs:a.eval s=.string t)(hown:w.ownsRow base elem 1 (J (Y ⟨g,0,Z⟩) n n) n xs)(hle:t.size<=n)(h:∀w',w'.ownsRow base elem 1 (J (Y ⟨g,0,Z⟩) n n) n (splice xs 0 (Lib.byteCells t.data.toList))->w.grownBy w' (Y g)->wpList P ops Q rest (a.put o.dst (goInt t.size)) w'):wpList P ops Q (o::rest) a w:=by
 refine wpList_plain hgd fun K hK=>?_;obtain⟨h1,h2,h3,h4⟩:=DJ hown;have hlen:(Lib.byteCells t.data.toList).length=t.size:=by rw[Lib.byteCells_length];exact Array.length_toList
 have hrun:=Lib.run_copy_row_string (P:=P) w dT sT o.type elem g 0 n n t xs.toArray elem hu hsz h2 hle (by simp;omega)
 have he:(List.take 0 xs.toArray.toList++Lib.byteCells t.data.toList++List.drop (0+t.size) xs.toArray.toList)=splice xs 0 (Lib.byteCells t.data.toList):=by
  unfold splice;rw[hlen];simp
 rw[he]at hrun;unfold Oper.wp;simp only[execOp,ho,resolve,invoke,builtin,Sem.run_bind,Sem.run_pure,Result.andThen_ok,List.map_toArray,List.map_cons,List.map_nil,hd,hs,hrun];exact hK _ _ (h _ (DK h1 (setRow_heap w g xs.toArray _ elem _ h2) (by rw[length_splice _ _ _ (by rw[hlen];omega)];exact h3) h4) (vU w g _))
theorem BB{xs cs:List Value}{n:Nat}(h:xs.length=n)(h2:cs.length<=n)(j:Nat)(hj:j<cs.length):(splice xs 0 cs)[j]?=cs[j]?:=by
 simp[splice,List.getElem?_append_left hj]
theorem qD{B g:Nat}{w0 w w':World}(h:Below B w0 w)(hg:w.grownBy w' (Y g))(hB:B<=g)(hs:B<=w.heap.size):Below B w0 w':=
 h.trans ⟨hg.os,hg.tape,hg.output,hg.size,fun k hk=>hg.block k (by omega) (by simp;omega)⟩
def lent(xs:List Value)(c:Value):List Value:=xs++[c,c,c]
theorem FF{xs ys:List Value}{c:Value}{n:Nat}(h:ys.length=n+3)(h0:xs.length=n)(h1:∀j,j<n->ys[j]?=xs[j]?)(h2:∀j,n<=j->j<n+3->ys[j]?=Y c):ys=lent xs c:=by
 apply List.ext_getElem?;intro j;unfold lent
 by_cases hj:j<n
 ·rw[h1 j hj,List.getElem?_append_left (by omega)]
 ·by_cases hj3:j<n+3
  ·rw[h2 j (by omega) hj3,List.getElem?_append_right (by omega)];obtain h|h|h:j - xs.length=0∨j - xs.length=1∨j - xs.length=2:=by omega
   all_goals rw[h];rfl
  ·rw[List.getElem?_eq_none (by omega),List.getElem?_eq_none (by simp;omega)]
theorem vG(s:ByteArray)(w:World)(hs:s.size<=2000000):
  Calls pG 102 #[.string s] w fun e w'=>e=.returned (J (Y ⟨w.heap.size,0,Z⟩) s.size (s.size+3))/\w'.ownsRow w.heap.size 5 1 (J (Y ⟨w.heap.size,0,Z⟩) (s.size+3) (s.size+3)) (s.size+3) (lent (Lib.byteCells s.data.toList) (.int .u8 77))/\Below w.heap.size w w':=by
 obtain⟨i0,hi0,hz0,hz1,hz2⟩:=info_parts pI;have hxl:(Lib.byteCells s.data.toList).length=s.size:=by rw[Lib.byteCells_length];exact Array.length_toList
 go_enter Tryz.func102,Tryz.ntmps102
 go_wp2_with(refine wpList_make_full _ rfl _ _ 148 rfl w.heap.size 5 i0 (.int .u8 0) 1 Tryz.underlying148 hi0 hz0 hz1 .i64 .i64 _ _ (s.size+3) rfl rfl (by go_num) (by go_num) (by rw[hz2];omega) (by unfold maxLen;omega) (Nat.le_refl _) ?_)
 intro w1 ho1 hg1;generalize (madeCells #[Value.int IntKind.u8 0] (s.size+3)).toList=ys0 at ho1;have hsp:ys0.length=s.size+3:=by simpa using ho1.1
 have HO1:Hid _:=ho1;have HB1:Hid (Below w.heap.size w w1):=⟨hg1.os,hg1.tape,hg1.output,hg1.size,fun k hk=>hg1.block k hk (by simp)⟩;clear ho1 hg1
 go_wp2_with(refine uN (by rfl) _ _ 148 9 (by rfl) 5 Tryz.underlying148 (by rw[hi0];simp[hz1]) w.heap.size w.heap.size (s.size+3) s _ (by rfl) (by rfl) HO1.out (by omega) ?_)
 intro w2 ho2 hg2;have hb2:Below w.heap.size w w2:=qD HB1.out hg2 (Nat.le_refl _) HB1.out.size;have HO2:Hid _:=ho2;have HB2:Hid _:=hb2;have HC:Hid (∀j,j<s.size->(splice ys0 0 (Lib.byteCells s.data.toList))[j]?=(Lib.byteCells s.data.toList)[j]?):=fun j hj=>BB hsp (by omega) j (by omega);clear ho2 hb2 hg2 HO1 HB1 hsp;go_wp2
 go_loopw [5] (fun ix wr=>∃(t:Nat) (ys:List Value),s.size<=t/\t<=s.size+3/\ix=I T t/\wr.ownsRow w.heap.size 5 1 (J (Y ⟨w.heap.size,0,Z⟩) (s.size+3) (s.size+3)) (s.size+3) ys/\(∀j,j<s.size->ys[j]?=(Lib.byteCells s.data.toList)[j]?)/\(∀j,s.size<=j->j<t->ys[j]?=Y (.int .u8 77))/\Below w.heap.size w wr) (fun ix _=>s.size+3 - (intOf ix).toNat)
 case atStart=>exact⟨s.size,_,by omega,by omega,rfl,HO2.out,HC.out,fun j h1 h2=>by omega,HB2.out⟩
 case round=>
  obtain⟨t,ys,ht1,ht2,rfl,ho,hy1,hy2,hb⟩:=hrel;have HO:=aA ho;have HY1:Hid _:=hy1;have HY2:Hid _:=hy2;have HB:Hid _:=hb;have hyl:ys.length=s.size+3:=by simpa using ho.1
  have hlt:=hb.size;clear ho hy1 hy2 hb
  by_cases htl:t<s.size+3
  ·have hct:=HO.out.cellAt t (by omega);rw[List.getElem?_eq_getElem (by omega)]at hct;have hft:=HO.out.frozenAt t;have htl2:(t:Int)<(s.size:Int)+3:=by omega
   go_wp2;obtain⟨ho2,hg2⟩:=HO.out.stored t (.int .u8 77)
   go_roundw
   case rel=>
    refine⟨t+1,_,by omega,by omega,by go_num,ho2,fun j hj=>?_,fun j h1 h2=>?_,qD HB.out hg2 (Nat.le_refl _) HB.out.size⟩
    ·rw[List.getElem?_set_ne (by omega)];exact HY1.out j hj
    ·by_cases hjt:j=t
     ·subst hjt;rw[List.getElem?_set_self (by omega)]
     ·rw[List.getElem?_set_ne (by omega)];exact HY2.out j h1 (by omega)
   case measure=>simp[intOf];omega
  ·obtain rfl:t=s.size+3:=by omega
   go_wp2;go_ret
   refine⟨rfl,?_,HB.out⟩;have he:=FF hyl hxl HY1.out (fun j h1 h2=>HY2.out j h1 (by omega));rw[←he];exact HO.out
theorem oM{xs:List Value}{c:Value}{j:Nat}(h:j<xs.length):(lent xs c)[j]?=xs[j]?:=by
 unfold lent;rw[List.getElem?_append_left h]
theorem BC{xs:List Value}{c:Value}{j:Nat}(h:xs.length<=j)(h3:j<xs.length+3):(lent xs c)[j]?=Y c:=by
 unfold lent;rw[List.getElem?_append_right h];obtain h|h|h:j - xs.length=0∨j - xs.length=1∨j - xs.length=2:=by omega
 all_goals rw[h];rfl
theorem eX{a b c:World}{r:Option Nat}(h:a.grownBy b r)(k:b.grownBy c r):a.grownBy c r:=
 ⟨k.os.trans h.os,k.tape.trans h.tape,k.output.trans h.output,Nat.le_trans h.size k.size,fun i hi hn=>(k.block i (Nat.lt_of_lt_of_le hi h.size) hn).trans (h.block i hi hn)⟩
theorem uV(s:ByteArray)(base g:Nat)(w:World)(hs:s.size<=2000000)(how:w.ownsRow base 5 1 (J (Y ⟨g,0,Z⟩) (s.size+3) (s.size+3)) (s.size+3) (lent (Lib.byteCells s.data.toList) (.int .u8 77))):
  Calls pG 107 #[J (Y ⟨g,0,Z⟩) s.size (s.size+3),.string s] w fun e w'=>e=.returned (.bool true)/\w.grownBy w' (Y g):=by
 have hxl:(Lib.byteCells s.data.toList).length=s.size:=by rw[Lib.byteCells_length];exact Array.length_toList
 have hba:bytesAt w (J (Y ⟨g,0,Z⟩) s.size (s.size+3)) s.data.toList:=by
  refine⟨some ⟨g,0,Z⟩,s.size+3,by rw[Array.length_toList];rfl,by rw[Array.length_toList];show s.size<=_;omega,by unfold maxLen;omega,.inr ⟨g,0,rfl,fun j hj=>?_⟩⟩;have hj':j<s.size:=by simpa using hj
  rw[Nat.zero_add,how.cellAt j (by omega),oM (by rw[hxl];exact hj')];simp[Lib.byteCells,hj']
 have hconv:=kO hba;rw[qW]at hconv;clear hba;have HO0:=aA how;clear how;go_enter Tryz.func107,Tryz.ntmps107;go_wp2
 go_loopw [7,8] (fun okx ix wr=>∃(t:Nat) (ys:List Value),t<=s.size+3/\okx=.bool true/\ix=I T t/\wr.ownsRow base 5 1 (J (Y ⟨g,0,Z⟩) (s.size+3) (s.size+3)) (s.size+3) ys/\(∀j,t<=j->ys[j]?=(lent (Lib.byteCells s.data.toList) (.int .u8 77))[j]?)/\w.grownBy wr (Y g)) (fun _ ix _=>s.size+3 - (intOf ix).toNat)
 case atStart=>exact⟨0,_,by omega,rfl,rfl,HO0.out,fun j _=>rfl,World.grownBy.refl _ _⟩
 case round=>
  obtain⟨t,ys,ht,rfl,rfl,ho,hy,hgr⟩:=hrel;have HO:=aA ho;have HY:Hid _:=hy;have HG:Hid _:=hgr;have hyl:ys.length=s.size+3:=by simpa using ho.1
  clear ho hy hgr HO0
  by_cases htl:t<s.size+3
  ·have hct:=HO.out.cellAt t (by omega);have hft:=HO.out.frozenAt t;have htl2:(t:Int)<(s.size:Int)+3:=by omega
   have hrow:=HY.out t (Nat.le_refl _);obtain⟨ho2,hg2⟩:=HO.out.stored t (.int .u8 200);have HO2:Hid _:=ho2;have HG2:Hid _:=hg2;clear ho2 hg2
   by_cases htn:t<s.size
   ·rw[hrow,oM (by omega)]at hct;rw[List.getElem?_eq_getElem (by omega)]at hct;have htn2:(t:Int)<(s.size:Int):=by omega
    clear hrow;go_wp2
    go_roundw
    case rel=>
     refine⟨t+1,_,by omega,rfl,by go_num,HO2.out,fun j hj=>?_,eX HG.out ⟨HG2.out.os,HG2.out.tape,HG2.out.output,HG2.out.size,HG2.out.block⟩⟩;rw[List.getElem?_set_ne (by omega)];exact HY.out j (by omega)
    case measure=>simp[intOf];omega
   ·rw[hrow,BC (by omega) (by omega)]at hct;have htn2:¬(t:Int)<(s.size:Int):=by omega
    clear hrow;go_wp2
    go_roundw
    case rel=>
     refine⟨t+1,_,by omega,rfl,by go_num,HO2.out,fun j hj=>?_,eX HG.out ⟨HG2.out.os,HG2.out.tape,HG2.out.output,HG2.out.size,HG2.out.block⟩⟩;rw[List.getElem?_set_ne (by omega)];exact HY.out j (by omega)
    case measure=>simp[intOf];omega
  ·obtain rfl:t=s.size+3:=by omega
   go_wp2;go_ret
   exact⟨rfl,HG.out⟩
end
def rL(bs:List UInt8)(o:Nat)(t:Nat):List UInt8:=(List.range t).map fun i=>bs.getD (o+i) 0
def rn(bs:List UInt8)(o:Nat)(t:Nat):Int:=gU (rL bs o t)
theorem FG(bs:List UInt8)(o:Nat):rn bs o 0=0:=by
 show gU []=0
 simp[gU,fO,wrap64]
theorem BE(a b:Int):wrap64 (wrap64 (wrap64 a*256)+b)=wrap64 (a*256+b):=by unfold wrap64;omega
theorem s9(bs:List UInt8)(o t:Nat):rn bs o (t+1)=wrap64 (wrap64 (rn bs o t*256)+((bs.getD (o+t) 0).toNat:Int)):=by
 have:rL bs o (t+1)=rL bs o t++[bs.getD (o+t) 0]:=by simp[rL,List.range_succ]
 unfold rn gU;rw[this,nX,BE]
 congr 1
theorem pL(bs:List UInt8)(o t:Nat):-9223372036854775808<=rn bs o t/\rn bs o t<=9223372036854775807:=by unfold rn gU wrap64;omega
theorem dI{bs:List UInt8}{o:Nat}{x:Int}{r:List UInt8}(h:bs.drop o=be x 8++r)(h1:-9223372036854775808<=x)(h2:x<=9223372036854775807):rn bs o 8=x:=by
 have hd:∀i,bs.getD (o+i) 0=(bs.drop o).getD i 0:=fun i=>by simp[List.getD_eq_getElem?_getD,List.getElem?_drop]
 have:rL bs o 8=be x 8:=by
  unfold rL;simp only[hd,h];simp[be,List.range_succ]
 unfold rn;rw[this,qX x h1 h2]
theorem eT{bs:List UInt8}{o:Nat}{x:Int}{r:List UInt8}(h:bs.drop o=be x 8++r):bs.drop (o+8)=r:=by
 rw[←List.drop_drop,h,List.drop_left' (cQ x 8)]
def rk(bs:List UInt8):Nat:=(bs.getD 0 0).toNat
def rf(bs:List UInt8):Nat:=(bs.getD 1 0).toNat
def eW(bs:List UInt8):Nat:=if 18<bs.length then min (bs.getD 18 0).toNat 4 else 0
def eM(bs:List UInt8)(t:Nat):List Int:=(List.range t).map fun i=>rn bs (19+8*i) 8
def bR(bs:List UInt8):List Int:=if rk bs=9 then eM bs (eW bs) else[]
def cI(bs:List UInt8):List Int:=
 if rk bs=1∨rk bs=4 then[0,rn bs 2 8,rn bs 10 8,0,0,0,0,0,0,((bR bs).length:Int)]
 else if rk bs=2 then[0,rn bs 2 8,rn bs 10 8,rn bs 18 8,rn bs 26 8,rn bs 34 8,0,0,0,((bR bs).length:Int)]
 else if rk bs=3 then[0,rn bs 2 8,rn bs 10 8,0,rn bs 18 8,rn bs 26 8,0,0,0,((bR bs).length:Int)]
 else if rk bs=5 then[0,rn bs 2 8,rn bs 10 8,rn bs 18 8,0,0,0,0,0,((bR bs).length:Int)]
 else if rk bs=6 then[0,rn bs 2 8,0,0,rn bs 10 8,rn bs 18 8,0,0,0,((bR bs).length:Int)]
 else if rk bs=7 then[0,rn bs 2 8,0,0,0,0,rn bs 10 8,rn bs 18 8,rn bs 26 8,((bR bs).length:Int)]
 else if rk bs=8∨rk bs=9∨rk bs=10 then[0,rn bs 2 8,0,0,0,0,rn bs 10 8,0,0,((bR bs).length:Int)]
 else[0,rn bs 2 8,0,0,0,0,0,0,0,((bR bs).length:Int)]
theorem DL(bs:List UInt8)(t:Nat):eM bs (t+1)=eM bs t++[rn bs (19+8*t) 8]:=by simp[eM,List.range_succ]
theorem kC(bs:List UInt8)(t:Nat):(eM bs t).length=t:=by simp[eM]
theorem DM(bs:List UInt8):∀z∈bR bs,-9223372036854775808<=z/\z<=9223372036854775807:=by
 intro z hz;unfold bR at hz
 split at hz
 ·unfold eM at hz;obtain⟨i,_,rfl⟩:=List.mem_map.1 hz;exact pL _ _ _
 ·simp at hz
theorem BF(bs:List UInt8):(bR bs).length<=4:=by
 unfold bR eW
 split
 ·rw[kC];split<;>omega
 ·simp
theorem xJ(bs:List UInt8):∃n1 n2 n3 n4 n5 n6 n7 n8,cI bs=[0,n1,n2,n3,n4,n5,n6,n7,n8,((bR bs).length:Int)]/\∀x∈[n1,n2,n3,n4,n5,n6,n7,n8],-9223372036854775808<=x/\x<=9223372036854775807:=by
 have hb:=fun o=>pL bs o 8;have h0:(-9223372036854775808:Int)<=0/\(0:Int)<=9223372036854775807:=by omega
 unfold cI
 repeat' split
 all_goals exact⟨_,_,_,_,_,_,_,_,rfl,by simp only[List.forall_mem_cons];exact⟨by first|exact hb _|exact h0,by first|exact hb _|exact h0,by first|exact hb _|exact h0,by first|exact hb _|exact h0,by first|exact hb _|exact h0,by first|exact hb _|exact h0,by first|exact hb _|exact h0,by first|exact hb _|exact h0,by simp⟩⟩
theorem IA(k f:Nat)(e b wa p s q bl v:Int)(zs:List Int)(hk1:1<=k)(hk:k<=10)(hf:f<5)(hm:dX k [0,e,b,wa,p,s,q,bl,v,(zs.length:Int)]=true)(hz:∀z∈zs,-9223372036854775808<=z/\z<=9223372036854775807)(bs:List UInt8)(hbs:cH k f [0,e,b,wa,p,s,q,bl,v,(zs.length:Int)] zs=bs):
  rk bs=k/\rf bs=f/\cI bs=[0,e,b,wa,p,s,q,bl,v,(zs.length:Int)]/\bR bs=zs:=by
 have ek:(UInt8.ofNat k).toNat=k:=by rw[UInt8.toNat_ofNat'];omega
 have ef:(UInt8.ofNat f).toNat=f:=by rw[UInt8.toNat_ofNat'];omega
 generalize hN:[0,e,b,wa,p,s,q,bl,v,(zs.length:Int)]=nums at*;obtain⟨tail,ht⟩:∃tail,bs=UInt8.ofNat k::UInt8.ofNat f::((bI k).flatMap (cE nums zs)++tail):=⟨be (aV (bZ k f nums zs)) 4,by rw[←hbs];simp[cH,bZ]⟩;have h1:rk bs=k:=by rw[ht];exact ek
 have h2:rf bs=f:=by rw[ht];exact ef
 have d2:bs.drop 2=(bI k).flatMap (cE nums zs)++tail:=by rw[ht];rfl
 refine⟨h1,h2,?_⟩;clear hbs ht h2 ef hf;subst hN;have hV:k≠9->bR bs=[]:=fun h=>by unfold bR;rw[h1,if_neg h]
 match k,hk1,hk with
 |1,_,_=>
  rw[jH]at hm;obtain⟨m1,m2,rfl,rfl,rfl,rfl,rfl,rfl,m9⟩:=hm;obtain rfl:zs=[]:=List.eq_nil_of_length_eq_zero (by omega)
  have d2':bs.drop 2=(be e 8++(be b 8++tail)):=by
   rw[d2];simp[bI,cT,cE,List.append_assoc]
  have e2:=dI d2' (by omega) (by omega);have d10:=eT d2';have e10:=dI d10 (by omega) (by omega);have hv:=hV (by omega);refine⟨?_,hv⟩;unfold cI;rw[h1,hv,if_pos (by omega),e2,e10]
  try rfl
 |2,_,_=>
  rw[lB]at hm;obtain⟨m1,m2,m3,m4,m5,rfl,rfl,rfl,m9⟩:=hm;obtain rfl:zs=[]:=List.eq_nil_of_length_eq_zero (by omega)
  have d2':bs.drop 2=(be e 8++(be b 8++(be wa 8++(be p 8++(be s 8++tail))))):=by
   rw[d2];simp[bI,cT,cE,List.append_assoc]
  have e2:=dI d2' (by omega) (by omega);have d10:=eT d2';have e10:=dI d10 (by omega) (by omega);have d18:=eT d10;have e18:=dI d18 (by omega) (by omega);have d26:=eT d18;have e26:=dI d26 (by omega) (by omega);have d34:=eT d26;have e34:=dI d34 (by omega) (by omega);have hv:=hV (by omega);refine⟨?_,hv⟩;unfold cI;rw[h1,hv,if_neg (by omega),if_pos (by omega),e2,e10,e18,e26,e34]
  try rfl
 |3,_,_=>
  rw[jI]at hm;obtain⟨m1,m2,m4,m5,rfl,rfl,rfl,rfl,m9⟩:=hm;obtain rfl:zs=[]:=List.eq_nil_of_length_eq_zero (by omega)
  have d2':bs.drop 2=(be e 8++(be b 8++(be p 8++(be s 8++tail)))):=by
   rw[d2];simp[bI,cT,cE,List.append_assoc]
  have e2:=dI d2' (by omega) (by omega);have d10:=eT d2';have e10:=dI d10 (by omega) (by omega);have d18:=eT d10;have e18:=dI d18 (by omega) (by omega);have d26:=eT d18;have e26:=dI d26 (by omega) (by omega);have hv:=hV (by omega);refine⟨?_,hv⟩;unfold cI;rw[h1,hv,if_neg (by omega),if_neg (by omega),if_pos (by omega),e2,e10,e18,e26]
  try rfl
 |4,_,_=>
  rw[lC]at hm;obtain⟨m1,m2,rfl,rfl,rfl,rfl,rfl,rfl,m9⟩:=hm;obtain rfl:zs=[]:=List.eq_nil_of_length_eq_zero (by omega)
  have d2':bs.drop 2=(be e 8++(be b 8++tail)):=by
   rw[d2];simp[bI,cT,cE,List.append_assoc]
  have e2:=dI d2' (by omega) (by omega);have d10:=eT d2';have e10:=dI d10 (by omega) (by omega);have hv:=hV (by omega);refine⟨?_,hv⟩;unfold cI;rw[h1,hv,if_pos (by omega),e2,e10]
  try rfl
 |5,_,_=>
  rw[lE]at hm;obtain⟨m1,m2,m3,rfl,rfl,rfl,rfl,rfl,m9⟩:=hm;obtain rfl:zs=[]:=List.eq_nil_of_length_eq_zero (by omega)
  have d2':bs.drop 2=(be e 8++(be b 8++(be wa 8++tail))):=by
   rw[d2];simp[bI,cT,cE,List.append_assoc]
  have e2:=dI d2' (by omega) (by omega);have d10:=eT d2';have e10:=dI d10 (by omega) (by omega);have d18:=eT d10;have e18:=dI d18 (by omega) (by omega);have hv:=hV (by omega);refine⟨?_,hv⟩;unfold cI;rw[h1,hv,if_neg (by omega),if_neg (by omega),if_neg (by omega),if_pos (by omega),e2,e10,e18]
  try rfl
 |6,_,_=>
  rw[jJ]at hm;obtain⟨m1,m4,m5,rfl,rfl,rfl,rfl,rfl,m9⟩:=hm;obtain rfl:zs=[]:=List.eq_nil_of_length_eq_zero (by omega)
  have d2':bs.drop 2=(be e 8++(be p 8++(be s 8++tail))):=by
   rw[d2];simp[bI,cT,cE,List.append_assoc]
  have e2:=dI d2' (by omega) (by omega);have d10:=eT d2';have e10:=dI d10 (by omega) (by omega);have d18:=eT d10;have e18:=dI d18 (by omega) (by omega);have hv:=hV (by omega);refine⟨?_,hv⟩;unfold cI;rw[h1,hv,if_neg (by omega),if_neg (by omega),if_neg (by omega),if_neg (by omega),if_pos (by omega),e2,e10,e18]
  try rfl
 |7,_,_=>
  rw[kA]at hm;obtain⟨m1,m6,m7,m8,rfl,rfl,rfl,rfl,m9⟩:=hm;obtain rfl:zs=[]:=List.eq_nil_of_length_eq_zero (by omega)
  have d2':bs.drop 2=(be e 8++(be q 8++(be bl 8++(be v 8++tail)))):=by
   rw[d2];simp[bI,cT,cE,List.append_assoc]
  have e2:=dI d2' (by omega) (by omega);have d10:=eT d2';have e10:=dI d10 (by omega) (by omega);have d18:=eT d10;have e18:=dI d18 (by omega) (by omega);have d26:=eT d18;have e26:=dI d26 (by omega) (by omega);have hv:=hV (by omega);refine⟨?_,hv⟩;unfold cI;rw[h1,hv,if_neg (by omega),if_neg (by omega),if_neg (by omega),if_neg (by omega),if_neg (by omega),if_pos (by omega),e2,e10,e18,e26]
  try rfl
 |8,_,_=>
  rw[lF]at hm;obtain⟨m1,m6,rfl,rfl,rfl,rfl,rfl,rfl,m9⟩:=hm;obtain rfl:zs=[]:=List.eq_nil_of_length_eq_zero (by omega)
  have d2':bs.drop 2=(be e 8++(be q 8++tail)):=by
   rw[d2];simp[bI,cT,cE,List.append_assoc]
  have e2:=dI d2' (by omega) (by omega);have d10:=eT d2';have e10:=dI d10 (by omega) (by omega);have hv:=hV (by omega);refine⟨?_,hv⟩;unfold cI;rw[h1,hv,if_neg (by omega),if_neg (by omega),if_neg (by omega),if_neg (by omega),if_neg (by omega),if_neg (by omega),if_pos (by omega),e2,e10]
  try rfl
 |9,_,_=>
  rw[kB]at hm;obtain⟨m1,m6,m9,rfl,rfl,rfl,rfl,rfl,rfl⟩:=hm
  have d2':bs.drop 2=be e 8++(be q 8++(be (zs.length:Int) 1++(zs.flatMap (fun v=>be v 8)++tail))):=by
   rw[d2];simp[bI,cT,cE,List.append_assoc]
  have d10:=eT d2';have d18:=eT d10;have e2:=dI d2' (by omega) (by omega);have e10:=dI d10 (by omega) (by omega);have ez:(UInt8.ofNat zs.length).toNat=zs.length:=by rw[UInt8.toNat_ofNat'];omega
  rw[pO zs.length (by omega)]at d18;simp only[List.singleton_append,List.cons_append,List.nil_append]at d18
  have hl:18<bs.length:=by
   have:=congrArg List.length d18;simp only[List.length_drop,List.length_cons]at this;omega
  have g18:bs.getD 18 0=UInt8.ofNat zs.length:=by
   have:bs.getD 18 0=(bs.drop 18).getD 0 0:=by simp[List.getD_eq_getElem?_getD,List.getElem?_drop]
   rw[this,d18];rfl
  have d19:bs.drop 19=zs.flatMap (fun v=>be v 8)++tail:=by
   rw[show 19=18+1 from rfl,←List.drop_drop,d18];rfl
  have hall:∀i (h:i<zs.length),rn bs (19+8*i) 8=zs[i]:=by
   have key:∀i,i<=zs.length->bs.drop (19+8*i)=(zs.drop i).flatMap (fun v=>be v 8)++tail:=by
    intro i
    induction i with
    |zero=>intro _;exact d19
    |succ i ih=>
     intro hi;have:=ih (by omega);rw[List.drop_eq_getElem_cons (l:=zs) (i:=i) (by omega),List.flatMap_cons,List.append_assoc]at this;rw[show 19+8*(i+1)=19+8*i+8 by omega];exact eT this
   intro i h;have:=key i (by omega);rw[List.drop_eq_getElem_cons (l:=zs) (i:=i) h,List.flatMap_cons,List.append_assoc]at this;exact dI this (hz _ (List.getElem_mem h)).1 (hz _ (List.getElem_mem h)).2
  have hv:bR bs=zs:=by
   unfold bR eW;rw[h1,if_pos rfl,if_pos hl,g18,ez,Nat.min_eq_left (by omega)];apply List.ext_getElem
   ·exact kC _ _
   ·intro i h1 h2;simp only[eM,List.getElem_map,List.getElem_range];exact hall i h2
  refine⟨?_,hv⟩;unfold cI;rw[h1,hv,if_neg (by omega),if_neg (by omega),if_neg (by omega),if_neg (by omega),if_neg (by omega),if_neg (by omega),if_pos (by omega),e2,e10]
 |10,_,_=>
  rw[kT]at hm;obtain⟨m1,m6,rfl,rfl,rfl,rfl,rfl,rfl,m9⟩:=hm;obtain rfl:zs=[]:=List.eq_nil_of_length_eq_zero (by omega)
  have d2':bs.drop 2=(be e 8++(be q 8++tail)):=by
   rw[d2];simp[bI,cT,cE,List.append_assoc]
  have e2:=dI d2' (by omega) (by omega);have d10:=eT d2';have e10:=dI d10 (by omega) (by omega);have hv:=hV (by omega);refine⟨?_,hv⟩;unfold cI;rw[h1,hv,if_neg (by omega),if_neg (by omega),if_neg (by omega),if_neg (by omega),if_neg (by omega),if_neg (by omega),if_pos (by omega),e2,e10]
  try rfl
def iF(bs:List UInt8):Bool:=aN (rk bs:Int) (rf bs:Int) (cI bs)
def gV(bs:List UInt8):List UInt8:=cH (rk bs) (rf bs) (cI bs) (bR bs)
theorem qE{k f e b wa p s q bl v:Int}{zs:List Int}(h:aN k f [0,e,b,wa,p,s,q,bl,v,(zs.length:Int)]=true):1<=k.toNat/\k.toNat<=10/\f.toNat<5/\(k.toNat:Int)=k/\(f.toNat:Int)=f/\dX k.toNat [0,e,b,wa,p,s,q,bl,v,(zs.length:Int)]=true:=by
 have h':=lQ h;unfold aN at h;rw[Bool.and_eq_true]at h;exact⟨by omega,by omega,by omega,by omega,by omega,h.2⟩
theorem qF(bs:List UInt8):∃n1 n2 n3 n4 n5 n6 n7 n8,gL bs=[0,n1,n2,n3,n4,n5,n6,n7,n8,((dA bs).vals.length:Int)]:=by
 have hl:=sX (dP bs).toNat 5 (dF (dF bs 1) 1);unfold gL;have:(dA bs).nums.length=10:=hl
 match h:(dA bs).nums,this with
 | [a0,a1,a2,a3,a4,a5,a6,a7,a8,a9],_=>exact⟨a1,a2,a3,a4,a5,a6,a7,a8,by simp⟩
theorem xK:∀(n:Nat) (r:List UInt8) (vs:List Int),(∀z∈vs,-9223372036854775808<=z/\z<=9223372036854775807)->∀z∈(fG n r vs).2,-9223372036854775808<=z/\z<=9223372036854775807:=by
 intro n
 induction n with
 |zero=>intro r vs h;exact h
 |succ n ih=>
  intro r vs h;apply ih;intro z hz;rcases List.mem_append.1 hz with hz|hz
  ·exact h z hz
  ·obtain rfl:z=dO r 8:=by simpa using hz
   unfold dO
   split
   ·omega
   ·unfold gU wrap64;omega
theorem DN(bs:List UInt8):∀z∈(dA bs).vals,-9223372036854775808<=z/\z<=9223372036854775807:=by
 have key:∀(l:List Nat) (st:Gs),(∀z∈st.vals,-9223372036854775808<=z/\z<=9223372036854775807)->∀z∈(l.foldl eY st).vals,-9223372036854775808<=z/\z<=9223372036854775807:=by
  intro l
  induction l with
  |nil=>intro st h;exact h
  |cons F l ih=>
   intro st h;apply ih;unfold eY
   split
   ·exact h
   ·split
    ·exact xK _ _ _ h
    ·exact h
 exact key _ _ (by simp)
theorem IB(bs:List UInt8):(eL bs=true/\iF bs=true/\gV bs=bs/\(rk bs:Int)=dP bs/\(rf bs:Int)=fA bs/\cI bs=gL bs/\bR bs=(dA bs).vals)∨(eL bs=false/\(iF bs=false∨gV bs≠bs)):=by
 cases hd:eL bs
 ·right;refine⟨rfl,?_⟩
  cases hr:iF bs
  ·exact .inl rfl
  ·right;intro he
   obtain⟨n1,n2,n3,n4,n5,n6,n7,n8,hn,_⟩:=xJ bs;unfold iF at hr;rw[hn]at hr;obtain⟨i1,i2,i3,i4,i5,i6⟩:=qE hr;simp only[Int.toNat_natCast]at i1 i2 i3 i6;unfold gV at he;rw[hn]at he;obtain⟨q1,q2,q3,q4⟩:=round (rk bs) (rf bs) n1 n2 n3 n4 n5 n6 n7 n8 (bR bs) i1 i2 i3 i6 (DM bs);rw[he]at q1 q2 q3 q4
   have:eL bs=true:=by
    unfold eL iX iT;rw[q1,q2,q3,q4,hr];simp only[Int.toNat_natCast,Bool.true_and,he,beq_self_eq_true]
   rw[hd]at this;exact absurd this (by decide)
 ·left;obtain⟨h1,h2⟩:=mN hd
  obtain⟨n1,n2,n3,n4,n5,n6,n7,n8,hn⟩:=qF bs;unfold iX at h1;rw[hn]at h1;obtain⟨i1,i2,i3,i4,i5,i6⟩:=qE h1;unfold iT at h2;rw[hn]at h2;obtain⟨q1,q2,q3,q4⟩:=IA (dP bs).toNat (fA bs).toNat n1 n2 n3 n4 n5 n6 n7 n8 (dA bs).vals i1 i2 i3 i6 (DN bs) bs h2;have e1:(rk bs:Int)=dP bs:=by rw[q1,i4]
  have e2:(rf bs:Int)=fA bs:=by rw[q2,i5]
  refine⟨rfl,?_,?_,e1,e2,by rw[q3,hn],q4⟩
  ·unfold iF;rw[e1,e2,q3,h1]
  ·unfold gV;rw[q1,q2,q3,q4,h2]
section
set_option maxRecDepth 20000
theorem BG(a:Int):wrap64 (wrap64 a)=wrap64 a:=by unfold wrap64;omega
theorem I9{bs:List UInt8}{o t:Nat}(h:o+t<bs.length):rn bs o (t+1)=wrap64 (wrap64 (rn bs o t*256)+wrap64 (bs[o+t].toNat:Int)):=by
 have hx:=UInt8.toNat_lt bs[o+t];rw[s9,jS (bs[o+t].toNat:Int) (by omega) (by omega),List.getD_eq_getElem?_getD,List.getElem?_eq_getElem h,Option.getD_some]
theorem IC{bs:List UInt8}{o t:Nat}(h:¬o+t<bs.length):rn bs o (t+1)=wrap64 (rn bs o t*256):=by
 rw[s9,List.getD_eq_getElem?_getD,List.getElem?_eq_none (by omega),Option.getD_none];show wrap64 (wrap64 (rn bs o t*256)+0)=_
 rw[Int.add_zero,BG]
theorem DO(bs:List UInt8)(fr n:Nat)(w:World)(hlen:bs.length<=140737488355328)(hf:fr<=19)(hn:n<=4):
  Calls pG 217 #[.string (aC bs),I T fr,I T n] w fun e w'=>e=.returned (I T (rn bs (fr+8*n) 8))/\w'=w:=by
 have hsz:=fT bs;have HZ:Hid (rn bs (fr+8*n) 0=0):=FG _ _;go_enter Tryz.func217,Tryz.ntmps217;go_wp2
 go_loop [7,8] (fun v i=>∃t:Nat,t<=8/\i=I T ((fr+8*n+t:Nat):Int)/\v=I T (rn bs (fr+8*n) t)) (fun _ i=>fr+8*n+8 - (intOf i).toNat)
 case atStart=>exact⟨0,by omega,by congr 1,by rw[HZ.out]⟩
 case round=>
  obtain⟨t,ht,rfl,rfl⟩:=hrel
  by_cases h8:t<8
  ·by_cases hlt:fr+8*n+t<bs.length
   ·have HS:Hid _:=I9 (o:=fr+8*n) (t:=t) hlt;generalize rn bs (fr+8*n) t=V at*;go_wp2;have e1:=kU bs (fr+8*n+t) hlt (by omega);rw[e1]
    go_round
    case rel=>exact⟨t+1,by omega,by go_num,by rw[HS.out];first|done|rfl⟩
    case measure=>simp[intOf];omega
   ·have HS:Hid _:=IC (o:=fr+8*n) (t:=t) hlt;generalize rn bs (fr+8*n) t=V at*;go_wp2
    go_round
    case rel=>exact⟨t+1,by omega,by go_num,by rw[HS.out]⟩
    case measure=>simp[intOf];omega
  ·obtain rfl:t=8:=by omega
   go_wp2;go_ret
   exact⟨rfl,rfl⟩
end
theorem cB(bs:List UInt8)(fr n o:Nat)(fz nz:Int)(w:World)(hlen:bs.length<=140737488355328)(hf:fr<=19)(hn:n<=4)(h1:fz=fr)(h2:nz=n)(ho:fr+8*n=o):
  Calls pG 217 #[.string (aC bs),I T fz,I T nz] w fun e w'=>e=.returned (I T (rn bs o 8))/\w'=w:=by
 subst h1 h2 ho;exact DO bs fr n w hlen hf hn
theorem K4{bs:List UInt8}(h:2<=bs.length)(h':0<(aC bs).size):IntKind.i64.wrap ((aC bs)[0].toNat:Int)=(rk bs:Int):=by
 have e:=kU bs 0 (by omega) h';have hx:=UInt8.toNat_lt bs[0];rw[e,wrap_small _ (by omega) (by omega)];unfold rk;rw[List.getD_eq_getElem?_getD,List.getElem?_eq_getElem (by omega),Option.getD_some];rfl
theorem K5{bs:List UInt8}(h:2<=bs.length)(h':1<(aC bs).size):IntKind.i64.wrap ((aC bs)[1].toNat:Int)=(rf bs:Int):=by
 have e:=kU bs 1 (by omega) h';have hx:=UInt8.toNat_lt bs[1];rw[e,wrap_small _ (by omega) (by omega)];unfold rf;rw[List.getD_eq_getElem?_getD,List.getElem?_eq_getElem (by omega),Option.getD_some];rfl
section
set_option maxRecDepth 20000
theorem FH{w:World}{base:Nat}{v:Value}{bs:List UInt8}{t:Nat}(h:w.ownsRow base 3 1 v (t+1) ((eM bs t).map (Value.int .i64)++[I T (rn bs (19+8*t) 8)])):bH w base v (eM bs (t+1)):=by
 unfold bH;rw[kC,DL,List.map_append];exact h
theorem DP{w:World}{base:Nat}{e:TypeId}{size:Nat}{v:Value}{n:Nat}{xs:List Value}(h:w.ownsRow base e size v n xs):∃a c,v=J a n c:=by
 rcases h.2 with⟨rfl,rfl⟩|⟨g,cap,cur,rfl,_⟩
 ·exact⟨_,_,rfl⟩
 ·exact⟨_,_,rfl⟩
structure G9(w wr:World)(bs:List UInt8)(l:Value)(t:Nat):Prop where
 ten:∀i,i<10->wr.cell? ⟨w.heap.size+1,i,Z⟩=Y ([I T 9,I T ((rf bs:Nat):Int),I T (rn bs 2 8),I T 0,I T 0,I T 0,I T 0,I T (rn bs 10 8),I T 0,I T 0].getD i undef)
 at10:wr.cell? ⟨w.heap.size+1,10,Z⟩=Y l
 fr:∀i,wr.frozen? ⟨w.heap.size+1,i,Z⟩=false
 own:bH wr (w.heap.size+2) l (eM bs t)
 res:∀i,wr.cell? ⟨w.heap.size,i,Z⟩=#[I T 0,I T 0,I T 0,I T 0,I T 0,I T 0,I T 0,I T 0,I T 0,I T 0,J Z 0 0][i]?
 rfr:∀i,wr.frozen? ⟨w.heap.size,i,Z⟩=false
 bel:Below w.heap.size w wr
 siz:w.heap.size+2<=wr.heap.size
theorem G9.next{w wr w9:World}{bs:List UInt8}{l v':Value}{t:Nat}(h:G9 w wr bs l t)(hb:Below (w.heap.size+2) wr w9)(ho:bH w9 (w.heap.size+2) v' (eM bs (t+1))):G9 w (w9.setCell ⟨w.heap.size+1,10,Z⟩ v') bs v' (t+1):=by
 have hlt:w.heap.size+1<w.heap.size+2:=by omega
 have hlt0:w.heap.size<w.heap.size+2:=by omega
 refine⟨fun i hi=>?_,?_,fun i=>?_,?_,fun i=>?_,fun i=>?_,?_,?_⟩
 ·rw[World.cell?_setCell_other _ _ _ _ (by intro hh;have:=congrArg Addr.off hh;simp at this;omega)];exact(hb.cell (by exact hlt)).trans (h.ten i hi)
 ·exact World.cell?_setCell_same _ _ _ ((hb.cell (by exact hlt)).trans h.at10)
 ·rw[World.frozen?_setCell];exact(hb.frozen (by exact hlt)).trans (h.fr i)
 ·exact ownsRow_setCell_below ho (by exact hlt) _
 ·rw[World.cell?_setCell_other _ _ _ _ (by intro hh;have:=congrArg Addr.block hh;simp at this)];exact(hb.cell (by exact hlt0)).trans (h.res i)
 ·rw[World.frozen?_setCell];exact(hb.frozen (by exact hlt0)).trans (h.rfr i)
 ·exact Below.setCell (h.bel.trans (hb.mono (by omega))) (by show w.heap.size<=w.heap.size+1;omega) _
 ·have:=h.siz;have:=hb.size;simp[World.setCell];omega
theorem iL{bs:List UInt8}(h:rk bs≠9):bR bs=[]:=by unfold bR;rw[if_neg h]
theorem zI(bs:List UInt8)(w:World)(hl2:2<=bs.length)(hlen:bs.length<=140737488355328):
  Calls pG 159 #[.string (aC bs)] w fun e w'=>∃n1 n2 n3 n4 n5 n6 n7 n8 l,e=.returned (.agg #[I T ((rk bs:Nat):Int),I T ((rf bs:Nat):Int),I T n1,I T n2,I T n3,I T n4,I T n5,I T n6,I T n7,I T n8,l])/\
   cI bs=[0,n1,n2,n3,n4,n5,n6,n7,n8,((bR bs).length:Int)]/\bH w' w.heap.size l (bR bs)/\Below w.heap.size w w'/\(-9223372036854775808<=n8/\n8<=9223372036854775807):=by
 obtain⟨i3,hi3,hz0,hz1,hz2⟩:=info_parts nB;have HZ0:Hid ((-9223372036854775808:Int)<=0/\(0:Int)<=9223372036854775807):=by unfold Hid;omega
 have HNil:Hid (∀w',bH w' w.heap.size (J Z 0 0) []):=fun w'=>World.ownsRow_nil _ _ _ _;have hsz:=fT bs;have hp0:0<(aC bs).size:=by omega
 have hp1:1<(aC bs).size:=by omega
 have H0:Hid _:=K4 hl2 hp0;have H1:Hid _:=K5 hl2 hp1;go_enter Tryz.func159,Tryz.ntmps159;go_wp2
 go_cut [3] from 6 to 14 (fun x wc=>x=P0 (Y ⟨w.heap.size+1,0,Z⟩)/\wc=((w.alloc (G #[I T 0,I T 0,I T 0,I T 0,I T 0,I T 0,I T 0,I T 0,I T 0,I T 0,J Z 0 0] 136)).alloc (G #[I T ((rk bs:Nat):Int),I T ((rf bs:Nat):Int),I T (rn bs 2 8),I T 0,I T 0,I T 0,I T 0,I T 0,I T 0,I T 0,J Z 0 0] 136)).drew)
 case first=>
  go_region_held3 (fun w'=>True) (trivial) (first|(go_at_call 217;refine(cB bs 2 0 2 _ _ _ (by omega) (by omega) (by omega) (by omega) (by omega) rfl).mono ?_;rintro e w' ⟨rfl,rfl⟩))
  all_goals go_wp2_with fail
  all_goals go_meet
  all_goals exact⟨rfl,by rw[H0.out,H1.out]⟩
 case rest=>
 obtain⟨rfl,rfl⟩:=hcut;clear H0 H1 hp0 hp1;have hcR:∀i,(((w.alloc (G #[I T 0,I T 0,I T 0,I T 0,I T 0,I T 0,I T 0,I T 0,I T 0,I T 0,J Z 0 0] 136)).alloc (G #[I T ((rk bs:Nat):Int),I T ((rf bs:Nat):Int),I T (rn bs 2 8),I T 0,I T 0,I T 0,I T 0,I T 0,I T 0,I T 0,J Z 0 0] 136)).drew).cell? ⟨w.heap.size,i,Z⟩=#[I T 0,I T 0,I T 0,I T 0,I T 0,I T 0,I T 0,I T 0,I T 0,I T 0,J Z 0 0][i]?:=fun i=>(World.cell?_alloc_past _ _ _ (by simp)).trans (World.cell?_alloc_at _ _ _ _ rfl);have hfR:∀i,(((w.alloc (G #[I T 0,I T 0,I T 0,I T 0,I T 0,I T 0,I T 0,I T 0,I T 0,I T 0,J Z 0 0] 136)).alloc (G #[I T ((rk bs:Nat):Int),I T ((rf bs:Nat):Int),I T (rn bs 2 8),I T 0,I T 0,I T 0,I T 0,I T 0,I T 0,I T 0,J Z 0 0] 136)).drew).frozen? ⟨w.heap.size,i,Z⟩=false:=fun i=>by simp
 have hcM:∀i,(((w.alloc (G #[I T 0,I T 0,I T 0,I T 0,I T 0,I T 0,I T 0,I T 0,I T 0,I T 0,J Z 0 0] 136)).alloc (G #[I T ((rk bs:Nat):Int),I T ((rf bs:Nat):Int),I T (rn bs 2 8),I T 0,I T 0,I T 0,I T 0,I T 0,I T 0,I T 0,J Z 0 0] 136)).drew).cell? ⟨w.heap.size+1,i,Z⟩=#[I T ((rk bs:Nat):Int),I T ((rf bs:Nat):Int),I T (rn bs 2 8),I T 0,I T 0,I T 0,I T 0,I T 0,I T 0,I T 0,J Z 0 0][i]?:=fun i=>World.cell?_alloc_at _ _ _ _ (by simp);have hfM:∀i,(((w.alloc (G #[I T 0,I T 0,I T 0,I T 0,I T 0,I T 0,I T 0,I T 0,I T 0,I T 0,J Z 0 0] 136)).alloc (G #[I T ((rk bs:Nat):Int),I T ((rf bs:Nat):Int),I T (rn bs 2 8),I T 0,I T 0,I T 0,I T 0,I T 0,I T 0,I T 0,J Z 0 0] 136)).drew).frozen? ⟨w.heap.size+1,i,Z⟩=false:=fun i=>by simp
 have hbl:Below w.heap.size w (((w.alloc (G #[I T 0,I T 0,I T 0,I T 0,I T 0,I T 0,I T 0,I T 0,I T 0,I T 0,J Z 0 0] 136)).alloc (G #[I T ((rk bs:Nat):Int),I T ((rf bs:Nat):Int),I T (rn bs 2 8),I T 0,I T 0,I T 0,I T 0,I T 0,I T 0,I T 0,J Z 0 0] 136)).drew):=((Below.alloc (Below.refl _ _) (Nat.le_refl _) _).alloc (by simp) _).drew;have hsz2:w.heap.size+2<=(((w.alloc (G #[I T 0,I T 0,I T 0,I T 0,I T 0,I T 0,I T 0,I T 0,I T 0,I T 0,J Z 0 0] 136)).alloc (G #[I T ((rk bs:Nat):Int),I T ((rf bs:Nat):Int),I T (rn bs 2 8),I T 0,I T 0,I T 0,I T 0,I T 0,I T 0,I T 0,J Z 0 0] 136)).drew).heap.size:=by show _<=(World.alloc _ _).heap.size;simp
 generalize ((w.alloc (G #[I T 0,I T 0,I T 0,I T 0,I T 0,I T 0,I T 0,I T 0,I T 0,I T 0,J Z 0 0] 136)).alloc (G #[I T ((rk bs:Nat):Int),I T ((rf bs:Nat):Int),I T (rn bs 2 8),I T 0,I T 0,I T 0,I T 0,I T 0,I T 0,I T 0,J Z 0 0] 136)).drew=W0 at*
 by_cases h9:rk bs=9
 ·have hk:=h9
  have HN:Hid (cI bs=[0,rn bs 2 8,0,0,0,0,rn bs 10 8,0,0,((bR bs).length:Int)]):=by
   unfold Hid cI;rw[h9,if_neg (by omega),if_neg (by omega),if_neg (by omega),if_neg (by omega),if_neg (by omega),if_neg (by omega),if_pos (by omega)]
  have HV:Hid (bR bs=eM bs (eW bs)):=by unfold Hid bR;rw[if_pos h9]
  rw[h9]at hcM;have HK:Hid _:=hk;clear hk h9;have m0:=hcM 0;have m7:=hcM 7;simp at m0 m7;have f7:=hfM 7;have f0:=hfM 0
  have HG:Hid (G9 w (W0.setCell ⟨w.heap.size+1,7,Z⟩ (I T (rn bs 10 8))) bs (J Z 0 0) 0):=by
   refine⟨fun i hi=>?_,?_,fun i=>?_,?_,fun i=>?_,fun i=>?_,?_,?_⟩
   ·by_cases h7:i=7
    ·subst h7;rw[World.cell?_setCell_same _ _ _ m7];rfl
    ·rw[World.cell?_setCell_other _ _ _ _ (by intro hh;have:=congrArg Addr.off hh;simp at this;omega),hcM i];obtain h|h|h|h|h|h|h|h|h:i=0∨i=1∨i=2∨i=3∨i=4∨i=5∨i=6∨i=8∨i=9:=by omega
     all_goals subst h;rfl
   ·rw[World.cell?_setCell_other _ _ _ _ (by intro hh;have:=congrArg Addr.off hh;simp at this),hcM 10];rfl
   ·rw[World.frozen?_setCell];exact hfM i
   ·exact World.ownsRow_nil _ _ _ _
   ·rw[World.cell?_setCell_other _ _ _ _ (by intro hh;have:=congrArg Addr.block hh;simp at this)];exact hcR i
   ·rw[World.frozen?_setCell];exact hfR i
   ·exact Below.setCell hbl (by show w.heap.size<=w.heap.size+1;omega) _
   ·simp[World.setCell];omega
  clear hcR hfR hcM hfM hbl hsz2
  go_wp2_with(first|(go_at_call 217;refine(cB bs 2 1 10 _ _ _ (by omega) (by omega) (by omega) (by omega) (by omega) rfl).mono ?_;rintro e w' ⟨rfl,hh⟩;replace hh:=hh.symm;subst hh))
  go_loopw [4,5] (fun ix _ wr=>∃(t:Nat) (l:Value),t<=eW bs/\ix=I T t/\G9 w wr bs l t) (fun ix _ _=>eW bs - (intOf ix).toNat)
  case atStart=>exact⟨0,_,by omega,rfl,HG.out⟩
  case round=>
   clear HG m0 m7 f7 f0;obtain⟨t,l,ht,rfl,hg⟩:=hrel;have HGr:Hid _:=hg
   by_cases htl:t<eW bs
   ·have hcnt:=htl;unfold eW at hcnt
    have h18:18<bs.length:=by
     by_cases h:18<bs.length
     ·exact h
     ·rw[if_neg h]at hcnt;omega
    rw[if_pos h18]at hcnt;have hp18:18<(aC bs).size:=by omega
    have e18:=kU bs 18 h18 hp18;have hx18:=UInt8.toNat_lt bs[18];have e18':(bs.getD 18 0)=bs[18]:=by rw[List.getD_eq_getElem?_getD,List.getElem?_eq_getElem h18,Option.getD_some];rfl
    rw[e18']at hcnt;have hw18:IntKind.i64.wrap ((aC bs)[18].toNat:Int)=(bs[18].toNat:Int):=by rw[e18,wrap_small _ (by omega) (by omega)]
    have hw18':wrap64 ((aC bs)[18].toNat:Int)=(bs[18].toNat:Int):=by rw[e18,jS _ (by omega) (by omega)]
    clear e18 e18';have ht4:t<4:=by omega
    have ht18:(t:Int)<(bs[18].toNat:Int):=by omega
    generalize (bs[18].toNat:Int)=S18 at*;obtain⟨la,lc,rfl⟩:=hg.own.shape;have hown:bH wr (w.heap.size+2) (J la (eM bs t).length lc) (eM bs t):=hg.own;rw[kC]at hown;have h10:=hg.at10;rw[kC]at h10;have f10:=hg.fr 10;have hsz2:=hg.siz;have HGl:Hid (G9 w wr bs (J la t lc) t):=by have:=HGr.out;rw[kC]at this;exact this
    have HO:Hid _:=hown;clear hg hcnt HGr hown
    go_wp2_with(first|(go_at_call 217;refine(cB bs 19 t (19+8*t) _ _ _ (by omega) (by omega) (by omega) (by omega) (by omega) rfl).mono ?_;rintro e w' ⟨rfl,hh⟩;replace hh:=hh.symm;subst hh)|(at_builtin;go_loud (refine wpList_append_own _ rfl _ _ 59 rfl (w.heap.size+2) 3 i3 (I T 0) 1 8 Tryz.underlying59 hi3 hz0 hz1 hz2 rfl (by decide) _ t ((eM bs t).map (Value.int .i64)) rfl (World.ownsRow.alloc (by have:=HO.out;unfold bH at this;rw[kC]at this;exact this) _) ⟨wr.heap.size,0,Z⟩ 1 1 [I T (rn bs (19+8*t) 8)] rfl rfl (cell_one_new _ _ _) ?c2 ?c3 ?c4 ?c5 ?_)))
    case c2=>intro u hu;simp at hu;subst hu;rfl
    case c3=>unfold maxLen;omega
    case c4=>omega
    case c5=>simp;omega
    intro v' w9 ho' hgr _;have hbb:=((Below.refl _ _).alloc hsz2 _).grown hgr (by simp;omega) (fun g hg=>(World.ownsRow.lt HO.out g hg).1);obtain⟨va,vc,rfl⟩:=DP ho';have hG2:=HGl.out.next hbb (FH ho');have k10:=(hbb.cell (by show w.heap.size+1<w.heap.size+2;omega)).trans h10;have kf:=(hbb.frozen (by show w.heap.size+1<w.heap.size+2;omega)).trans f10;clear ho' hgr hbb h10 f10;have HG2:Hid _:=hG2;clear hG2;go_wp2
    go_roundw
    case rel=>exact⟨t+1,_,by omega,by go_num,HG2.out⟩
    case measure=>simp[intOf];omega
   ·obtain rfl:t=eW bs:=by omega
    obtain⟨la,lc,rfl⟩:=hg.own.shape;have t0:=hg.ten 0 (by omega);have t1:=hg.ten 1 (by omega);have t2:=hg.ten 2 (by omega);have t3:=hg.ten 3 (by omega);have t4:=hg.ten 4 (by omega);have t5:=hg.ten 5 (by omega);have t6:=hg.ten 6 (by omega);have t7:=hg.ten 7 (by omega);have t8:=hg.ten 8 (by omega);have t9:=hg.ten 9 (by omega);simp at t0 t1 t2 t3 t4 t5 t6 t7 t8 t9;have t10:=hg.at10;have hcR:=hg.res;have hfR:=hg.rfr;have HOwn:=aA hg.own;have HBel:Hid _:=hg.bel;clear hg HGr;have key:∀W,bH W (w.heap.size+2) (J la (eM bs (eW bs)).length lc) (eM bs (eW bs))->bH W w.heap.size (J la (eM bs (eW bs)).length lc) (eM bs (eW bs)):=fun W h=>h.low (by omega);obtain⟨W,hW,⟨c0,c1,c2,c3,c4,c5,c6,c7,c8,c9,c10⟩,hbut,hbl2⟩:=eZ wr w.heap.size (I T 9) (I T ((rf bs:Nat):Int)) (I T (rn bs 2 8)) (I T 0) (I T 0) (I T 0) (I T 0) (I T (rn bs 10 8)) (I T 0) (I T 0) (J la (eM bs (eW bs)).length lc) (fun i hi=>by rw[hcR];simp;omega);have HW:Hid _:=hW;have hbelW:=hbl2 w.heap.size w (Nat.le_refl _) HBel.out;have hownW:=key W (HOwn.out.but hbut (by omega));have HOW:Hid _:=hownW;clear hW hbut hbl2 hownW key
    by_cases h18:18<bs.length
    ·have hp18:18<(aC bs).size:=by omega
     have e18:=kU bs 18 h18 hp18;have hx18:=UInt8.toNat_lt bs[18];have e18':(bs.getD 18 0)=bs[18]:=by rw[List.getD_eq_getElem?_getD,List.getElem?_eq_getElem h18,Option.getD_some];rfl
     have hcnt:eW bs=min bs[18].toNat 4:=by unfold eW;rw[if_pos h18,e18']
     have HC:Hid _:=hcnt;have hw18:IntKind.i64.wrap ((aC bs)[18].toNat:Int)=(bs[18].toNat:Int):=by rw[e18,wrap_small _ (by omega) (by omega)]
     have hw18':wrap64 ((aC bs)[18].toNat:Int)=(bs[18].toNat:Int):=by rw[e18,jS _ (by omega) (by omega)]
     clear e18 e18'
     by_cases hlt:(eW bs:Int)<(bs[18].toNat:Int)
     ·have h4:¬((eW bs:Int)<4):=by omega
      clear hcnt;generalize (bs[18].toNat:Int)=S18 at*;go_wp2;rw[HW.out];exact bodyPost_ret (v:=.agg #[I T 9,I T ((rf bs:Nat):Int),I T (rn bs 2 8),I T 0,I T 0,I T 0,I T 0,I T (rn bs 10 8),I T 0,I T 0,J la (eM bs (eW bs)).length lc]) (by simp[results,Tryz.results159,go_sem,c0,c1,c2,c3,c4,c5,c6,c7,c8,c9,c10]) rfl ⟨_,_,_,_,_,_,_,_,_,by rw[HK.out];rfl,HN.out,by rw[HV.out];exact HOW.out,hbelW,HZ0.out⟩
     ·clear hcnt;generalize (bs[18].toNat:Int)=S18 at*;go_wp2;rw[HW.out];exact bodyPost_ret (v:=.agg #[I T 9,I T ((rf bs:Nat):Int),I T (rn bs 2 8),I T 0,I T 0,I T 0,I T 0,I T (rn bs 10 8),I T 0,I T 0,J la (eM bs (eW bs)).length lc]) (by simp[results,Tryz.results159,go_sem,c0,c1,c2,c3,c4,c5,c6,c7,c8,c9,c10]) rfl ⟨_,_,_,_,_,_,_,_,_,by rw[HK.out];rfl,HN.out,by rw[HV.out];exact HOW.out,hbelW,HZ0.out⟩
    ·go_wp2;rw[HW.out]
     exact bodyPost_ret (v:=.agg #[I T 9,I T ((rf bs:Nat):Int),I T (rn bs 2 8),I T 0,I T 0,I T 0,I T 0,I T (rn bs 10 8),I T 0,I T 0,J la (eM bs (eW bs)).length lc]) (by simp[results,Tryz.results159,go_sem,c0,c1,c2,c3,c4,c5,c6,c7,c8,c9,c10]) rfl ⟨_,_,_,_,_,_,_,_,_,by rw[HK.out];rfl,HN.out,by rw[HV.out];exact HOW.out,hbelW,HZ0.out⟩
 by_cases k1:rk bs=1
 ·have hk:=k1;clear k1 h9
  have HN:Hid (cI bs=[0,rn bs 2 8,rn bs 10 8,0,0,0,0,0,0,((bR bs).length:Int)]):=by
   unfold Hid cI;rw[hk,if_pos (by omega)]
  have HV:Hid (bR bs=[]):=iL (by omega);rw[hk]at hcM;have HK:Hid _:=hk;clear hk;have m0:=hcM 0;have m1:=hcM 1;have m2:=hcM 2;have m3:=hcM 3;have m4:=hcM 4;have m5:=hcM 5;have m6:=hcM 6;have m7:=hcM 7;have m8:=hcM 8;have m9:=hcM 9;have m10:=hcM 10;simp at m0 m1 m2 m3 m4 m5 m6 m7 m8 m9 m10;clear hcM
  go_wp2_with(first|(go_at_call 217;refine(cB bs 2 1 10 _ _ _ (by omega) (by omega) (by omega) (by omega) (by omega) rfl).mono ?_;rintro e w' ⟨rfl,hh⟩;replace hh:=hh.symm;subst hh)|(go_at_call 217;refine(cB bs 2 2 18 _ _ _ (by omega) (by omega) (by omega) (by omega) (by omega) rfl).mono ?_;rintro e w' ⟨rfl,hh⟩;replace hh:=hh.symm;subst hh)|(go_at_call 217;refine(cB bs 2 3 26 _ _ _ (by omega) (by omega) (by omega) (by omega) (by omega) rfl).mono ?_;rintro e w' ⟨rfl,hh⟩;replace hh:=hh.symm;subst hh)|(go_at_call 217;refine(cB bs 2 4 34 _ _ _ (by omega) (by omega) (by omega) (by omega) (by omega) rfl).mono ?_;rintro e w' ⟨rfl,hh⟩;replace hh:=hh.symm;subst hh))
  obtain⟨W,hW,⟨c0,c1,c2,c3,c4,c5,c6,c7,c8,c9,c10⟩,hbut,hbl2⟩:=eZ (W0.setCell ⟨w.heap.size+1,3,Z⟩ (I T (rn bs 10 8))) w.heap.size (I T 1) (I T ((rf bs:Nat):Int)) (I T (rn bs 2 8)) (I T (rn bs 10 8)) (I T 0) (I T 0) (I T 0) (I T 0) (I T 0) (I T 0) (J Z 0 0) (fun i hi=>by simp[World.cell?_setCell_other,hcR];omega);have hbelW:=hbl2 w.heap.size w (Nat.le_refl _) ((Below.setCell hbl (by show w.heap.size<=w.heap.size+1;omega) _));rw[hW];clear hW hcR hfR hbut;exact bodyPost_ret (v:=.agg #[I T 1,I T ((rf bs:Nat):Int),I T (rn bs 2 8),I T (rn bs 10 8),I T 0,I T 0,I T 0,I T 0,I T 0,I T 0,J Z 0 0]) (by simp[results,Tryz.results159,go_sem,c0,c1,c2,c3,c4,c5,c6,c7,c8,c9,c10]) rfl ⟨_,_,_,_,_,_,_,_,_,by rw[HK.out];rfl,HN.out,by rw[HV.out];exact HNil.out _,hbelW,HZ0.out⟩
 by_cases k2:rk bs=2
 ·have hk:=k2;clear k2 h9 k1
  have HN:Hid (cI bs=[0,rn bs 2 8,rn bs 10 8,rn bs 18 8,rn bs 26 8,rn bs 34 8,0,0,0,((bR bs).length:Int)]):=by
   unfold Hid cI;rw[hk,if_neg (by omega),if_pos (by omega)]
  have HV:Hid (bR bs=[]):=iL (by omega);rw[hk]at hcM;have HK:Hid _:=hk;clear hk;have m0:=hcM 0;have m1:=hcM 1;have m2:=hcM 2;have m3:=hcM 3;have m4:=hcM 4;have m5:=hcM 5;have m6:=hcM 6;have m7:=hcM 7;have m8:=hcM 8;have m9:=hcM 9;have m10:=hcM 10;simp at m0 m1 m2 m3 m4 m5 m6 m7 m8 m9 m10;clear hcM
  go_wp2_with(first|(go_at_call 217;refine(cB bs 2 1 10 _ _ _ (by omega) (by omega) (by omega) (by omega) (by omega) rfl).mono ?_;rintro e w' ⟨rfl,hh⟩;replace hh:=hh.symm;subst hh)|(go_at_call 217;refine(cB bs 2 2 18 _ _ _ (by omega) (by omega) (by omega) (by omega) (by omega) rfl).mono ?_;rintro e w' ⟨rfl,hh⟩;replace hh:=hh.symm;subst hh)|(go_at_call 217;refine(cB bs 2 3 26 _ _ _ (by omega) (by omega) (by omega) (by omega) (by omega) rfl).mono ?_;rintro e w' ⟨rfl,hh⟩;replace hh:=hh.symm;subst hh)|(go_at_call 217;refine(cB bs 2 4 34 _ _ _ (by omega) (by omega) (by omega) (by omega) (by omega) rfl).mono ?_;rintro e w' ⟨rfl,hh⟩;replace hh:=hh.symm;subst hh))
  obtain⟨W,hW,⟨c0,c1,c2,c3,c4,c5,c6,c7,c8,c9,c10⟩,hbut,hbl2⟩:=eZ ((((W0.setCell ⟨w.heap.size+1,3,Z⟩ (I T (rn bs 10 8))).setCell ⟨w.heap.size+1,4,Z⟩ (I T (rn bs 18 8))).setCell ⟨w.heap.size+1,5,Z⟩ (I T (rn bs 26 8))).setCell ⟨w.heap.size+1,6,Z⟩ (I T (rn bs 34 8))) w.heap.size (I T 2) (I T ((rf bs:Nat):Int)) (I T (rn bs 2 8)) (I T (rn bs 10 8)) (I T (rn bs 18 8)) (I T (rn bs 26 8)) (I T (rn bs 34 8)) (I T 0) (I T 0) (I T 0) (J Z 0 0) (fun i hi=>by simp[World.cell?_setCell_other,hcR];omega);have hbelW:=hbl2 w.heap.size w (Nat.le_refl _) ((Below.setCell (Below.setCell (Below.setCell (Below.setCell hbl (by show w.heap.size<=w.heap.size+1;omega) _) (by show w.heap.size<=w.heap.size+1;omega) _) (by show w.heap.size<=w.heap.size+1;omega) _) (by show w.heap.size<=w.heap.size+1;omega) _));rw[hW];clear hW hcR hfR hbut;exact bodyPost_ret (v:=.agg #[I T 2,I T ((rf bs:Nat):Int),I T (rn bs 2 8),I T (rn bs 10 8),I T (rn bs 18 8),I T (rn bs 26 8),I T (rn bs 34 8),I T 0,I T 0,I T 0,J Z 0 0]) (by simp[results,Tryz.results159,go_sem,c0,c1,c2,c3,c4,c5,c6,c7,c8,c9,c10]) rfl ⟨_,_,_,_,_,_,_,_,_,by rw[HK.out];rfl,HN.out,by rw[HV.out];exact HNil.out _,hbelW,HZ0.out⟩
 by_cases k3:rk bs=3
 ·have hk:=k3;clear k3 h9 k1 k2
  have HN:Hid (cI bs=[0,rn bs 2 8,rn bs 10 8,0,rn bs 18 8,rn bs 26 8,0,0,0,((bR bs).length:Int)]):=by
   unfold Hid cI;rw[hk,if_neg (by omega),if_neg (by omega),if_pos (by omega)]
  have HV:Hid (bR bs=[]):=iL (by omega);rw[hk]at hcM;have HK:Hid _:=hk;clear hk;have m0:=hcM 0;have m1:=hcM 1;have m2:=hcM 2;have m3:=hcM 3;have m4:=hcM 4;have m5:=hcM 5;have m6:=hcM 6;have m7:=hcM 7;have m8:=hcM 8;have m9:=hcM 9;have m10:=hcM 10;simp at m0 m1 m2 m3 m4 m5 m6 m7 m8 m9 m10;clear hcM
  go_wp2_with(first|(go_at_call 217;refine(cB bs 2 1 10 _ _ _ (by omega) (by omega) (by omega) (by omega) (by omega) rfl).mono ?_;rintro e w' ⟨rfl,hh⟩;replace hh:=hh.symm;subst hh)|(go_at_call 217;refine(cB bs 2 2 18 _ _ _ (by omega) (by omega) (by omega) (by omega) (by omega) rfl).mono ?_;rintro e w' ⟨rfl,hh⟩;replace hh:=hh.symm;subst hh)|(go_at_call 217;refine(cB bs 2 3 26 _ _ _ (by omega) (by omega) (by omega) (by omega) (by omega) rfl).mono ?_;rintro e w' ⟨rfl,hh⟩;replace hh:=hh.symm;subst hh)|(go_at_call 217;refine(cB bs 2 4 34 _ _ _ (by omega) (by omega) (by omega) (by omega) (by omega) rfl).mono ?_;rintro e w' ⟨rfl,hh⟩;replace hh:=hh.symm;subst hh))
  obtain⟨W,hW,⟨c0,c1,c2,c3,c4,c5,c6,c7,c8,c9,c10⟩,hbut,hbl2⟩:=eZ (((W0.setCell ⟨w.heap.size+1,3,Z⟩ (I T (rn bs 10 8))).setCell ⟨w.heap.size+1,5,Z⟩ (I T (rn bs 18 8))).setCell ⟨w.heap.size+1,6,Z⟩ (I T (rn bs 26 8))) w.heap.size (I T 3) (I T ((rf bs:Nat):Int)) (I T (rn bs 2 8)) (I T (rn bs 10 8)) (I T 0) (I T (rn bs 18 8)) (I T (rn bs 26 8)) (I T 0) (I T 0) (I T 0) (J Z 0 0) (fun i hi=>by simp[World.cell?_setCell_other,hcR];omega);have hbelW:=hbl2 w.heap.size w (Nat.le_refl _) ((Below.setCell (Below.setCell (Below.setCell hbl (by show w.heap.size<=w.heap.size+1;omega) _) (by show w.heap.size<=w.heap.size+1;omega) _) (by show w.heap.size<=w.heap.size+1;omega) _));rw[hW];clear hW hcR hfR hbut;exact bodyPost_ret (v:=.agg #[I T 3,I T ((rf bs:Nat):Int),I T (rn bs 2 8),I T (rn bs 10 8),I T 0,I T (rn bs 18 8),I T (rn bs 26 8),I T 0,I T 0,I T 0,J Z 0 0]) (by simp[results,Tryz.results159,go_sem,c0,c1,c2,c3,c4,c5,c6,c7,c8,c9,c10]) rfl ⟨_,_,_,_,_,_,_,_,_,by rw[HK.out];rfl,HN.out,by rw[HV.out];exact HNil.out _,hbelW,HZ0.out⟩
 by_cases k4:rk bs=4
 ·have hk:=k4;clear k4 h9 k1 k2 k3
  have HN:Hid (cI bs=[0,rn bs 2 8,rn bs 10 8,0,0,0,0,0,0,((bR bs).length:Int)]):=by
   unfold Hid cI;rw[hk,if_pos (by omega)]
  have HV:Hid (bR bs=[]):=iL (by omega);rw[hk]at hcM;have HK:Hid _:=hk;clear hk;have m0:=hcM 0;have m1:=hcM 1;have m2:=hcM 2;have m3:=hcM 3;have m4:=hcM 4;have m5:=hcM 5;have m6:=hcM 6;have m7:=hcM 7;have m8:=hcM 8;have m9:=hcM 9;have m10:=hcM 10;simp at m0 m1 m2 m3 m4 m5 m6 m7 m8 m9 m10;clear hcM
  go_wp2_with(first|(go_at_call 217;refine(cB bs 2 1 10 _ _ _ (by omega) (by omega) (by omega) (by omega) (by omega) rfl).mono ?_;rintro e w' ⟨rfl,hh⟩;replace hh:=hh.symm;subst hh)|(go_at_call 217;refine(cB bs 2 2 18 _ _ _ (by omega) (by omega) (by omega) (by omega) (by omega) rfl).mono ?_;rintro e w' ⟨rfl,hh⟩;replace hh:=hh.symm;subst hh)|(go_at_call 217;refine(cB bs 2 3 26 _ _ _ (by omega) (by omega) (by omega) (by omega) (by omega) rfl).mono ?_;rintro e w' ⟨rfl,hh⟩;replace hh:=hh.symm;subst hh)|(go_at_call 217;refine(cB bs 2 4 34 _ _ _ (by omega) (by omega) (by omega) (by omega) (by omega) rfl).mono ?_;rintro e w' ⟨rfl,hh⟩;replace hh:=hh.symm;subst hh))
  obtain⟨W,hW,⟨c0,c1,c2,c3,c4,c5,c6,c7,c8,c9,c10⟩,hbut,hbl2⟩:=eZ (W0.setCell ⟨w.heap.size+1,3,Z⟩ (I T (rn bs 10 8))) w.heap.size (I T 4) (I T ((rf bs:Nat):Int)) (I T (rn bs 2 8)) (I T (rn bs 10 8)) (I T 0) (I T 0) (I T 0) (I T 0) (I T 0) (I T 0) (J Z 0 0) (fun i hi=>by simp[World.cell?_setCell_other,hcR];omega);have hbelW:=hbl2 w.heap.size w (Nat.le_refl _) ((Below.setCell hbl (by show w.heap.size<=w.heap.size+1;omega) _));rw[hW];clear hW hcR hfR hbut;exact bodyPost_ret (v:=.agg #[I T 4,I T ((rf bs:Nat):Int),I T (rn bs 2 8),I T (rn bs 10 8),I T 0,I T 0,I T 0,I T 0,I T 0,I T 0,J Z 0 0]) (by simp[results,Tryz.results159,go_sem,c0,c1,c2,c3,c4,c5,c6,c7,c8,c9,c10]) rfl ⟨_,_,_,_,_,_,_,_,_,by rw[HK.out];rfl,HN.out,by rw[HV.out];exact HNil.out _,hbelW,HZ0.out⟩
 by_cases k5:rk bs=5
 ·have hk:=k5;clear k5 h9 k1 k2 k3 k4
  have HN:Hid (cI bs=[0,rn bs 2 8,rn bs 10 8,rn bs 18 8,0,0,0,0,0,((bR bs).length:Int)]):=by
   unfold Hid cI;rw[hk,if_neg (by omega),if_neg (by omega),if_neg (by omega),if_pos (by omega)]
  have HV:Hid (bR bs=[]):=iL (by omega);rw[hk]at hcM;have HK:Hid _:=hk;clear hk;have m0:=hcM 0;have m1:=hcM 1;have m2:=hcM 2;have m3:=hcM 3;have m4:=hcM 4;have m5:=hcM 5;have m6:=hcM 6;have m7:=hcM 7;have m8:=hcM 8;have m9:=hcM 9;have m10:=hcM 10;simp at m0 m1 m2 m3 m4 m5 m6 m7 m8 m9 m10;clear hcM
  go_wp2_with(first|(go_at_call 217;refine(cB bs 2 1 10 _ _ _ (by omega) (by omega) (by omega) (by omega) (by omega) rfl).mono ?_;rintro e w' ⟨rfl,hh⟩;replace hh:=hh.symm;subst hh)|(go_at_call 217;refine(cB bs 2 2 18 _ _ _ (by omega) (by omega) (by omega) (by omega) (by omega) rfl).mono ?_;rintro e w' ⟨rfl,hh⟩;replace hh:=hh.symm;subst hh)|(go_at_call 217;refine(cB bs 2 3 26 _ _ _ (by omega) (by omega) (by omega) (by omega) (by omega) rfl).mono ?_;rintro e w' ⟨rfl,hh⟩;replace hh:=hh.symm;subst hh)|(go_at_call 217;refine(cB bs 2 4 34 _ _ _ (by omega) (by omega) (by omega) (by omega) (by omega) rfl).mono ?_;rintro e w' ⟨rfl,hh⟩;replace hh:=hh.symm;subst hh))
  obtain⟨W,hW,⟨c0,c1,c2,c3,c4,c5,c6,c7,c8,c9,c10⟩,hbut,hbl2⟩:=eZ ((W0.setCell ⟨w.heap.size+1,3,Z⟩ (I T (rn bs 10 8))).setCell ⟨w.heap.size+1,4,Z⟩ (I T (rn bs 18 8))) w.heap.size (I T 5) (I T ((rf bs:Nat):Int)) (I T (rn bs 2 8)) (I T (rn bs 10 8)) (I T (rn bs 18 8)) (I T 0) (I T 0) (I T 0) (I T 0) (I T 0) (J Z 0 0) (fun i hi=>by simp[World.cell?_setCell_other,hcR];omega);have hbelW:=hbl2 w.heap.size w (Nat.le_refl _) ((Below.setCell (Below.setCell hbl (by show w.heap.size<=w.heap.size+1;omega) _) (by show w.heap.size<=w.heap.size+1;omega) _));rw[hW];clear hW hcR hfR hbut;exact bodyPost_ret (v:=.agg #[I T 5,I T ((rf bs:Nat):Int),I T (rn bs 2 8),I T (rn bs 10 8),I T (rn bs 18 8),I T 0,I T 0,I T 0,I T 0,I T 0,J Z 0 0]) (by simp[results,Tryz.results159,go_sem,c0,c1,c2,c3,c4,c5,c6,c7,c8,c9,c10]) rfl ⟨_,_,_,_,_,_,_,_,_,by rw[HK.out];rfl,HN.out,by rw[HV.out];exact HNil.out _,hbelW,HZ0.out⟩
 by_cases k6:rk bs=6
 ·have hk:=k6;clear k6 h9 k1 k2 k3 k4 k5
  have HN:Hid (cI bs=[0,rn bs 2 8,0,0,rn bs 10 8,rn bs 18 8,0,0,0,((bR bs).length:Int)]):=by
   unfold Hid cI;rw[hk,if_neg (by omega),if_neg (by omega),if_neg (by omega),if_neg (by omega),if_pos (by omega)]
  have HV:Hid (bR bs=[]):=iL (by omega);rw[hk]at hcM;have HK:Hid _:=hk;clear hk;have m0:=hcM 0;have m1:=hcM 1;have m2:=hcM 2;have m3:=hcM 3;have m4:=hcM 4;have m5:=hcM 5;have m6:=hcM 6;have m7:=hcM 7;have m8:=hcM 8;have m9:=hcM 9;have m10:=hcM 10;simp at m0 m1 m2 m3 m4 m5 m6 m7 m8 m9 m10;clear hcM
  go_wp2_with(first|(go_at_call 217;refine(cB bs 2 1 10 _ _ _ (by omega) (by omega) (by omega) (by omega) (by omega) rfl).mono ?_;rintro e w' ⟨rfl,hh⟩;replace hh:=hh.symm;subst hh)|(go_at_call 217;refine(cB bs 2 2 18 _ _ _ (by omega) (by omega) (by omega) (by omega) (by omega) rfl).mono ?_;rintro e w' ⟨rfl,hh⟩;replace hh:=hh.symm;subst hh)|(go_at_call 217;refine(cB bs 2 3 26 _ _ _ (by omega) (by omega) (by omega) (by omega) (by omega) rfl).mono ?_;rintro e w' ⟨rfl,hh⟩;replace hh:=hh.symm;subst hh)|(go_at_call 217;refine(cB bs 2 4 34 _ _ _ (by omega) (by omega) (by omega) (by omega) (by omega) rfl).mono ?_;rintro e w' ⟨rfl,hh⟩;replace hh:=hh.symm;subst hh))
  obtain⟨W,hW,⟨c0,c1,c2,c3,c4,c5,c6,c7,c8,c9,c10⟩,hbut,hbl2⟩:=eZ ((W0.setCell ⟨w.heap.size+1,5,Z⟩ (I T (rn bs 10 8))).setCell ⟨w.heap.size+1,6,Z⟩ (I T (rn bs 18 8))) w.heap.size (I T 6) (I T ((rf bs:Nat):Int)) (I T (rn bs 2 8)) (I T 0) (I T 0) (I T (rn bs 10 8)) (I T (rn bs 18 8)) (I T 0) (I T 0) (I T 0) (J Z 0 0) (fun i hi=>by simp[World.cell?_setCell_other,hcR];omega);have hbelW:=hbl2 w.heap.size w (Nat.le_refl _) ((Below.setCell (Below.setCell hbl (by show w.heap.size<=w.heap.size+1;omega) _) (by show w.heap.size<=w.heap.size+1;omega) _));rw[hW];clear hW hcR hfR hbut;exact bodyPost_ret (v:=.agg #[I T 6,I T ((rf bs:Nat):Int),I T (rn bs 2 8),I T 0,I T 0,I T (rn bs 10 8),I T (rn bs 18 8),I T 0,I T 0,I T 0,J Z 0 0]) (by simp[results,Tryz.results159,go_sem,c0,c1,c2,c3,c4,c5,c6,c7,c8,c9,c10]) rfl ⟨_,_,_,_,_,_,_,_,_,by rw[HK.out];rfl,HN.out,by rw[HV.out];exact HNil.out _,hbelW,HZ0.out⟩
 by_cases k7:rk bs=7
 ·have hk:=k7;clear k7 h9 k1 k2 k3 k4 k5 k6
  have HN:Hid (cI bs=[0,rn bs 2 8,0,0,0,0,rn bs 10 8,rn bs 18 8,rn bs 26 8,((bR bs).length:Int)]):=by
   unfold Hid cI;rw[hk,if_neg (by omega),if_neg (by omega),if_neg (by omega),if_neg (by omega),if_neg (by omega),if_pos (by omega)]
  have HV:Hid (bR bs=[]):=iL (by omega);rw[hk]at hcM;have HK:Hid _:=hk;clear hk;have m0:=hcM 0;have m1:=hcM 1;have m2:=hcM 2;have m3:=hcM 3;have m4:=hcM 4;have m5:=hcM 5;have m6:=hcM 6;have m7:=hcM 7;have m8:=hcM 8;have m9:=hcM 9;have m10:=hcM 10;simp at m0 m1 m2 m3 m4 m5 m6 m7 m8 m9 m10;clear hcM
  go_wp2_with(first|(go_at_call 217;refine(cB bs 2 1 10 _ _ _ (by omega) (by omega) (by omega) (by omega) (by omega) rfl).mono ?_;rintro e w' ⟨rfl,hh⟩;replace hh:=hh.symm;subst hh)|(go_at_call 217;refine(cB bs 2 2 18 _ _ _ (by omega) (by omega) (by omega) (by omega) (by omega) rfl).mono ?_;rintro e w' ⟨rfl,hh⟩;replace hh:=hh.symm;subst hh)|(go_at_call 217;refine(cB bs 2 3 26 _ _ _ (by omega) (by omega) (by omega) (by omega) (by omega) rfl).mono ?_;rintro e w' ⟨rfl,hh⟩;replace hh:=hh.symm;subst hh)|(go_at_call 217;refine(cB bs 2 4 34 _ _ _ (by omega) (by omega) (by omega) (by omega) (by omega) rfl).mono ?_;rintro e w' ⟨rfl,hh⟩;replace hh:=hh.symm;subst hh))
  obtain⟨W,hW,⟨c0,c1,c2,c3,c4,c5,c6,c7,c8,c9,c10⟩,hbut,hbl2⟩:=eZ (((W0.setCell ⟨w.heap.size+1,7,Z⟩ (I T (rn bs 10 8))).setCell ⟨w.heap.size+1,8,Z⟩ (I T (rn bs 18 8))).setCell ⟨w.heap.size+1,9,Z⟩ (I T (rn bs 26 8))) w.heap.size (I T 7) (I T ((rf bs:Nat):Int)) (I T (rn bs 2 8)) (I T 0) (I T 0) (I T 0) (I T 0) (I T (rn bs 10 8)) (I T (rn bs 18 8)) (I T (rn bs 26 8)) (J Z 0 0) (fun i hi=>by simp[World.cell?_setCell_other,hcR];omega);have hbelW:=hbl2 w.heap.size w (Nat.le_refl _) ((Below.setCell (Below.setCell (Below.setCell hbl (by show w.heap.size<=w.heap.size+1;omega) _) (by show w.heap.size<=w.heap.size+1;omega) _) (by show w.heap.size<=w.heap.size+1;omega) _));rw[hW];clear hW hcR hfR hbut;exact bodyPost_ret (v:=.agg #[I T 7,I T ((rf bs:Nat):Int),I T (rn bs 2 8),I T 0,I T 0,I T 0,I T 0,I T (rn bs 10 8),I T (rn bs 18 8),I T (rn bs 26 8),J Z 0 0]) (by simp[results,Tryz.results159,go_sem,c0,c1,c2,c3,c4,c5,c6,c7,c8,c9,c10]) rfl ⟨_,_,_,_,_,_,_,_,_,by rw[HK.out];rfl,HN.out,by rw[HV.out];exact HNil.out _,hbelW,pL _ _ _⟩
 by_cases k8:rk bs=8
 ·have hk:=k8;clear k8 h9 k1 k2 k3 k4 k5 k6 k7
  have HN:Hid (cI bs=[0,rn bs 2 8,0,0,0,0,rn bs 10 8,0,0,((bR bs).length:Int)]):=by
   unfold Hid cI;rw[hk,if_neg (by omega),if_neg (by omega),if_neg (by omega),if_neg (by omega),if_neg (by omega),if_neg (by omega),if_pos (by omega)]
  have HV:Hid (bR bs=[]):=iL (by omega);rw[hk]at hcM;have HK:Hid _:=hk;clear hk;have m0:=hcM 0;have m1:=hcM 1;have m2:=hcM 2;have m3:=hcM 3;have m4:=hcM 4;have m5:=hcM 5;have m6:=hcM 6;have m7:=hcM 7;have m8:=hcM 8;have m9:=hcM 9;have m10:=hcM 10;simp at m0 m1 m2 m3 m4 m5 m6 m7 m8 m9 m10;clear hcM
  go_wp2_with(first|(go_at_call 217;refine(cB bs 2 1 10 _ _ _ (by omega) (by omega) (by omega) (by omega) (by omega) rfl).mono ?_;rintro e w' ⟨rfl,hh⟩;replace hh:=hh.symm;subst hh)|(go_at_call 217;refine(cB bs 2 2 18 _ _ _ (by omega) (by omega) (by omega) (by omega) (by omega) rfl).mono ?_;rintro e w' ⟨rfl,hh⟩;replace hh:=hh.symm;subst hh)|(go_at_call 217;refine(cB bs 2 3 26 _ _ _ (by omega) (by omega) (by omega) (by omega) (by omega) rfl).mono ?_;rintro e w' ⟨rfl,hh⟩;replace hh:=hh.symm;subst hh)|(go_at_call 217;refine(cB bs 2 4 34 _ _ _ (by omega) (by omega) (by omega) (by omega) (by omega) rfl).mono ?_;rintro e w' ⟨rfl,hh⟩;replace hh:=hh.symm;subst hh))
  obtain⟨W,hW,⟨c0,c1,c2,c3,c4,c5,c6,c7,c8,c9,c10⟩,hbut,hbl2⟩:=eZ (W0.setCell ⟨w.heap.size+1,7,Z⟩ (I T (rn bs 10 8))) w.heap.size (I T 8) (I T ((rf bs:Nat):Int)) (I T (rn bs 2 8)) (I T 0) (I T 0) (I T 0) (I T 0) (I T (rn bs 10 8)) (I T 0) (I T 0) (J Z 0 0) (fun i hi=>by simp[World.cell?_setCell_other,hcR];omega);have hbelW:=hbl2 w.heap.size w (Nat.le_refl _) ((Below.setCell hbl (by show w.heap.size<=w.heap.size+1;omega) _));rw[hW];clear hW hcR hfR hbut;exact bodyPost_ret (v:=.agg #[I T 8,I T ((rf bs:Nat):Int),I T (rn bs 2 8),I T 0,I T 0,I T 0,I T 0,I T (rn bs 10 8),I T 0,I T 0,J Z 0 0]) (by simp[results,Tryz.results159,go_sem,c0,c1,c2,c3,c4,c5,c6,c7,c8,c9,c10]) rfl ⟨_,_,_,_,_,_,_,_,_,by rw[HK.out];rfl,HN.out,by rw[HV.out];exact HNil.out _,hbelW,HZ0.out⟩
 by_cases k10:rk bs=10
 ·have hk:=k10;clear k10 h9 k1 k2 k3 k4 k5 k6 k7 k8
  have HN:Hid (cI bs=[0,rn bs 2 8,0,0,0,0,rn bs 10 8,0,0,((bR bs).length:Int)]):=by
   unfold Hid cI;rw[hk,if_neg (by omega),if_neg (by omega),if_neg (by omega),if_neg (by omega),if_neg (by omega),if_neg (by omega),if_pos (by omega)]
  have HV:Hid (bR bs=[]):=iL (by omega);rw[hk]at hcM;have HK:Hid _:=hk;clear hk;have m0:=hcM 0;have m1:=hcM 1;have m2:=hcM 2;have m3:=hcM 3;have m4:=hcM 4;have m5:=hcM 5;have m6:=hcM 6;have m7:=hcM 7;have m8:=hcM 8;have m9:=hcM 9;have m10:=hcM 10;simp at m0 m1 m2 m3 m4 m5 m6 m7 m8 m9 m10;clear hcM
  go_wp2_with(first|(go_at_call 217;refine(cB bs 2 1 10 _ _ _ (by omega) (by omega) (by omega) (by omega) (by omega) rfl).mono ?_;rintro e w' ⟨rfl,hh⟩;replace hh:=hh.symm;subst hh)|(go_at_call 217;refine(cB bs 2 2 18 _ _ _ (by omega) (by omega) (by omega) (by omega) (by omega) rfl).mono ?_;rintro e w' ⟨rfl,hh⟩;replace hh:=hh.symm;subst hh)|(go_at_call 217;refine(cB bs 2 3 26 _ _ _ (by omega) (by omega) (by omega) (by omega) (by omega) rfl).mono ?_;rintro e w' ⟨rfl,hh⟩;replace hh:=hh.symm;subst hh)|(go_at_call 217;refine(cB bs 2 4 34 _ _ _ (by omega) (by omega) (by omega) (by omega) (by omega) rfl).mono ?_;rintro e w' ⟨rfl,hh⟩;replace hh:=hh.symm;subst hh))
  obtain⟨W,hW,⟨c0,c1,c2,c3,c4,c5,c6,c7,c8,c9,c10⟩,hbut,hbl2⟩:=eZ (W0.setCell ⟨w.heap.size+1,7,Z⟩ (I T (rn bs 10 8))) w.heap.size (I T 10) (I T ((rf bs:Nat):Int)) (I T (rn bs 2 8)) (I T 0) (I T 0) (I T 0) (I T 0) (I T (rn bs 10 8)) (I T 0) (I T 0) (J Z 0 0) (fun i hi=>by simp[World.cell?_setCell_other,hcR];omega);have hbelW:=hbl2 w.heap.size w (Nat.le_refl _) ((Below.setCell hbl (by show w.heap.size<=w.heap.size+1;omega) _));rw[hW];clear hW hcR hfR hbut;exact bodyPost_ret (v:=.agg #[I T 10,I T ((rf bs:Nat):Int),I T (rn bs 2 8),I T 0,I T 0,I T 0,I T 0,I T (rn bs 10 8),I T 0,I T 0,J Z 0 0]) (by simp[results,Tryz.results159,go_sem,c0,c1,c2,c3,c4,c5,c6,c7,c8,c9,c10]) rfl ⟨_,_,_,_,_,_,_,_,_,by rw[HK.out];rfl,HN.out,by rw[HV.out];exact HNil.out _,hbelW,HZ0.out⟩
 ·skip
  have HN:Hid (cI bs=[0,rn bs 2 8,0,0,0,0,0,0,0,((bR bs).length:Int)]):=by
   unfold Hid cI;rw[if_neg (by omega),if_neg (by omega),if_neg (by omega),if_neg (by omega),if_neg (by omega),if_neg (by omega),if_neg (by omega)]
  have HV:=aA (iL (by omega));have q1:(((rk bs:Nat):Int)==1)=false:=by simp;omega
  have q2:(((rk bs:Nat):Int)==2)=false:=by simp;omega
  have q3:(((rk bs:Nat):Int)==3)=false:=by simp;omega
  have q4:(((rk bs:Nat):Int)==4)=false:=by simp;omega
  have q5:(((rk bs:Nat):Int)==5)=false:=by simp;omega
  have q6:(((rk bs:Nat):Int)==6)=false:=by simp;omega
  have q7:(((rk bs:Nat):Int)==7)=false:=by simp;omega
  have q8:(((rk bs:Nat):Int)==8)=false:=by simp;omega
  have q9:(((rk bs:Nat):Int)==9)=false:=by simp;omega
  have q10:(((rk bs:Nat):Int)==10)=false:=by simp;omega
  clear k1 k2 k3 k4 k5 k6 k7 k8 k10 h9;have m0:=hcM 0;have m1:=hcM 1;have m2:=hcM 2;have m3:=hcM 3;have m4:=hcM 4;have m5:=hcM 5;have m6:=hcM 6;have m7:=hcM 7;have m8:=hcM 8;have m9:=hcM 9;have m10:=hcM 10;simp at m0 m1 m2 m3 m4 m5 m6 m7 m8 m9 m10;clear hcM
  go_wp2_with(first|(go_at_call 217;refine(cB bs 2 1 10 _ _ _ (by omega) (by omega) (by omega) (by omega) (by omega) rfl).mono ?_;rintro e w' ⟨rfl,hh⟩;replace hh:=hh.symm;subst hh)|(go_at_call 217;refine(cB bs 2 2 18 _ _ _ (by omega) (by omega) (by omega) (by omega) (by omega) rfl).mono ?_;rintro e w' ⟨rfl,hh⟩;replace hh:=hh.symm;subst hh)|(go_at_call 217;refine(cB bs 2 3 26 _ _ _ (by omega) (by omega) (by omega) (by omega) (by omega) rfl).mono ?_;rintro e w' ⟨rfl,hh⟩;replace hh:=hh.symm;subst hh)|(go_at_call 217;refine(cB bs 2 4 34 _ _ _ (by omega) (by omega) (by omega) (by omega) (by omega) rfl).mono ?_;rintro e w' ⟨rfl,hh⟩;replace hh:=hh.symm;subst hh))
  obtain⟨W,hW,⟨c0,c1,c2,c3,c4,c5,c6,c7,c8,c9,c10⟩,hbut,hbl2⟩:=eZ W0 w.heap.size (I T ((rk bs:Nat):Int)) (I T ((rf bs:Nat):Int)) (I T (rn bs 2 8)) (I T 0) (I T 0) (I T 0) (I T 0) (I T 0) (I T 0) (I T 0) (J Z 0 0) (fun i hi=>by simp[World.cell?_setCell_other,hcR];omega);have hbelW:=hbl2 w.heap.size w (Nat.le_refl _) (hbl);rw[hW];clear hW hcR hfR hbut;exact bodyPost_ret (v:=.agg #[I T ((rk bs:Nat):Int),I T ((rf bs:Nat):Int),I T (rn bs 2 8),I T 0,I T 0,I T 0,I T 0,I T 0,I T 0,I T 0,J Z 0 0]) (by simp[results,Tryz.results159,go_sem,c0,c1,c2,c3,c4,c5,c6,c7,c8,c9,c10]) rfl ⟨_,_,_,_,_,_,_,_,_,rfl,HN.out,by rw[HV.out];exact HNil.out _,hbelW,HZ0.out⟩
end
end Go.Proofs.YtdcainmlcpafbaaGreatDoor
