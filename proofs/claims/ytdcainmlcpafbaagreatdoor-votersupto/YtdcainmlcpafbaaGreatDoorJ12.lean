import Derived.MapKept
import Derived.Laws.StructEq
import Derived.ChangeKeysEq
import Derived.Test.YtdcainmlcpafbaaGreatDoorJ09
set_option linter.all false
set_option maxHeartbeats 8000000
namespace Go.Proofs.YtdcainmlcpafbaaGreatDoor
open Go.RowKit
open Value renaming int->I,slice->J,pointer->P0
open Tryz renaming prog->pG
open IntKind renaming i64->T
open Option renaming none->Z,some->Y
open Obj renaming cells->G
open Value (bool)
theorem tF:∃f:Field,(Tryz.prog.fieldsOf 321).toList=[f]∧f.name = "epoch" ∧f.type=3∧f.offset=0:=by
 have h:(Tryz.prog.fieldsOf 321).toList.map (fun f=>(f.name,f.type,f.offset))=[("epoch",3,0)]:=by kernel_rfl
 cases hl:(Tryz.prog.fieldsOf 321).toList with
 |nil=>rw[hl]at h;simp at h
 |cons f fs=>
  rw[hl]at h;simp only[List.map_cons,List.cons.injEq,Prod.mk.injEq,List.map_eq_nil_iff]at h;exact⟨f,by rw[h.2],h.1.1,h.1.2.1,h.1.2.2⟩
theorem oW:Tryz.prog.underlying 321=Y (.struct (Tryz.prog.fieldsOf 321)):=by kernel_rfl
theorem FO:Tryz.prog.stoodInHeld 321=false:=by kernel_rfl
theorem tZ(a:Int)(w:World):(part 3 #[I T a] 0).run pG w=.ok (I T a) w:=by
 have h:=gE (w:=w) #[Value.int .i64 a] 0 (I T a);exact h rfl
theorem IF(a b:Int)(w:World):(Op.equal 321 (.agg #[I T a]) (.agg #[I T b])).run pG w=.ok (a==b) w:=by
 obtain⟨f,hf,h1,h2,h3⟩:=tF;show(Op.equalIn 10000 321 _ _).run _ _=_
 rw[run_equalIn_struct w 9999 321 _ _ oW FO,hf];simp only[Op.eqFields,h1,h2,h3,Sem.run_bind,Sem.run_ite,tZ,Result.andThen_ok,run_equalIn_int w 9998 3 .i64 .i64 _ _ Tryz.underlying3]
 by_cases h:a=b<;>simp[h]
theorem lY(em:Bool)(a:Int)(w:World):(Instr.checkKey em 10000 321 (.agg #[I T a])).run pG w=.ok () w:=by
 obtain⟨f,hf,h1,h2,h3⟩:=tF;rw[show(10000:Nat)=9998+1+1 from rfl];unfold Instr.checkKey;simp only[Sem.run_bind,run_underlying oW,Result.andThen_ok];rw[←Array.forIn_toList,hf];simp only[List.forIn_cons,List.forIn_nil,h1,h2,h3,Sem.run_bind,Sem.run_ite,tZ,Result.andThen_ok];unfold Instr.checkKey;simp[run_underlying Tryz.underlying3]
structure PV where
 pr:Int
 ac:Int
 pm:Int
 st:Int
def PV.after(x:PV)(k b p s:Int):PV:=if k=3 then⟨b,b,p,s⟩ else{x with pr:=b}
def dC(x:PV):Value:=.agg #[I T x.pr,I T x.ac,I T x.pm,I T x.st]
def cW(e:Int):Value:=.agg #[I T e]
def jN(bs:List Nat)(clk:Nat):Prop:=(∀b∈bs,b<clk)/\bs.Nodup
theorem jN.snoc{bs:List Nat}{clk:Nat}(h:jN bs clk):jN (bs++[clk]) (clk+1):=by
 refine⟨fun b hb=>?_,?_⟩
 ·rcases List.mem_append.1 hb with h1|h1
  ·have:=h.1 b h1;omega
  ·simp at h1;omega
 ·rw[List.nodup_append];refine⟨h.2,by simp,fun a ha b hb=>?_⟩;simp at hb;have:=h.1 a ha;omega
theorem jN.sub{bs cs:List Nat}{clk:Nat}(h:jN bs clk)(hs:cs.Sublist bs):jN cs clk:=⟨fun b hb=>h.1 b (hs.subset hb),hs.nodup h.2⟩
theorem qK(f:MapEntry->MapEntry)(hf:∀x,(f x).born=x.born):∀(l:List MapEntry) (j:Nat),(l.modify j f).map (·.born)=l.map (·.born)
 | [],j=>by cases j<;>simp
 |x::l,0=>by simp[hf]
 |x::l,j+1=>by simp[qK f hf l j]
structure VM(w:World)(B:Nat)(l:List (Int×PV)):Prop where
 obj:∃(es:Array MapEntry) (clk:Nat),w.heap[B]?=Y (.map es clk)/\es.toList.map (fun e=>(e.key,e.val))=l.map (fun x=>(cW x.1,dC x.2))/\jN (es.toList.map (·.born)) clk
def eG(e:Int):List (Int×PV)->Nat->Option (Nat×Value)
 | [],_=>none
 |x::l,i=>if e=x.1 then some (i,dC x.2) else eG e l (i+1)
def aE(l:List (Int×PV))(e:Int):PV:=((l.find? (fun x=>e==x.1)).map (·.2)).getD ⟨0,0,0,0⟩
def fB:List (Int×PV)->Int->PV->List (Int×PV)
 | [],e,x=>[(e,x)]
 |y::l,e,x=>if e=y.1 then(e,x)::l else y::fB l e x
def fP:List (Int×PV)->Int->List (Int×PV)
 | [],_=>[]
 |y::l,e=>if e=y.1 then l else y::fP l e
theorem rU(l:List (Int×PV))(e e':Int)(x:PV):aE (fB l e x) e'=if e'=e then x else aE l e':=by
 induction l with
 |nil=>unfold fB aE;by_cases h:e'=e<;>simp[h]
 |cons y l ih=>
  unfold fB
  by_cases h:e=y.1
  ·rw[if_pos h]
   by_cases h':e'=e
   ·simp[aE,h']
   ·simp[aE,h',show¬e'=y.1 by omega]
  ·rw[if_neg h]
   by_cases h':e'=y.1
   ·simp[aE,h',show¬y.1=e by omega]
   ·have:∀l',aE (y::l') e'=aE l' e':=by intro l';simp[aE,h']
    rw[this,this,ih]
theorem BX(l:List (Int×PV))(e e':Int)(hne:e'≠e):aE (fP l e) e'=aE l e':=by
 induction l with
 |nil=>rfl
 |cons y l ih=>
  unfold fP
  by_cases h:e=y.1
  ·rw[if_pos h];simp[aE,show¬e'=y.1 by omega]
  ·rw[if_neg h]
   by_cases h':e'=y.1
   ·simp[aE,h']
   ·have:∀l',aE (y::l') e'=aE l' e':=by intro l';simp[aE,h']
    rw[this,this,ih]
theorem rV(l:List (Int×PV))(e:Int)(x:PV):(fB l e x).length<=l.length+1:=by
 induction l with
 |nil=>simp[fB]
 |cons y l ih=>unfold fB;split<;>simp<;>omega
theorem BY(l:List (Int×PV))(e:Int):(fP l e).length<=l.length:=by
 induction l with
 |nil=>simp[fP]
 |cons y l ih=>unfold fP;split<;>simp<;>omega
theorem FP(e:Int)(w:World):∀(es:List MapEntry) (l:List (Int×PV)) (i:Nat),es.map (fun e=>(e.key,e.val))=l.map (fun x=>(cW x.1,dC x.2))->(Instr.findAsking 321 (cW e) es i).run pG w=.ok (eG e l i) w:=by
 intro es
 induction es with
 |nil=>intro l i h;cases l with
  |nil=>simp[Instr.findAsking,eG]
  |cons y l=>simp at h
 |cons a es ih=>
  intro l i h
  cases l with
  |nil=>simp at h
  |cons y l=>
   simp only[List.map_cons,List.cons.injEq,Prod.mk.injEq]at h;simp only[Instr.findAsking,eG,Sem.run_bind,h.1.1,h.1.2];rw[show(Op.equal 321 (cW e) (cW y.1)).run pG w=.ok (e==y.1) w from IF e y.1 w];simp only[Result.andThen_ok]
   by_cases he:e=y.1
   ·simp[he]
   ·simp[he];exact ih l (i+1) h.2
theorem oN(e:Int)(w:World)(es:List MapEntry)(l:List (Int×PV))(h:es.map (fun e=>(e.key,e.val))=l.map (fun x=>(cW x.1,dC x.2))):(Instr.findKey 321 (cW e) es).run pG w=.ok (eG e l 0) w:=by
 unfold Instr.findKey;simp only[Sem.run_bind,run_underlying oW,Result.andThen_ok]
 cases es with
 |nil=>cases l with
  |nil=>simp[Instr.findNow,eG]
  |cons y l=>simp at h
 |cons a es=>
  have hn:Instr.findNow (.struct (Tryz.prog.fieldsOf 321)) (cW e) (a::es) 0=none:=by simp[Instr.findNow,Instr.sameNow]
  rw[hn];exact FP e w (a::es) l 0 h
theorem DX(e:Int):∀(l:List (Int×PV)) (i:Nat),(eG e l i).map (·.2)=(l.find? (fun x=>e==x.1)).map (fun x=>dC x.2):=by
 intro l
 induction l with
 |nil=>intro i;rfl
 |cons y l ih=>
  intro i;unfold eG
  by_cases h:e=y.1
  ·simp[h]
  ·simp[h,ih]
theorem FQ:(Tryz.prog.info? 284).map (fun i=>(i.zero,i.size,i.bytes))=Y (Y (.agg #[I T 0,I T 0,I T 0,I T 0]),4,32):=by kernel_rfl
theorem FSq(w:World):(zeroValue 284).run pG w=.ok (dC ⟨0,0,0,0⟩) w:=by
 obtain⟨i0,hi0,hz0,hz1,hz2⟩:=info_parts FQ;simp[zeroValue,run_typeInfo w hi0,hz0,dC]
theorem lH{w:World}{r:Nat}{es:Array MapEntry}{clock:Nat}(hb:w.heap[r]?=Y (.map es clock)):(getObj r).run pG w=.ok (.map es clock) w:=by
 simp[getObj,Sem.run,hb]
theorem mT{w:World}{r:Nat}{es:Array MapEntry}{clock:Nat}(o:Obj)(hb:w.heap[r]?=Y (.map es clock)):(setObj r o).run pG w=.ok () {w with heap:=w.heap.setIfInBounds r o}:=by
 simp[setObj,Sem.run,hb]
section
variable {w w' : World} {B : Nat} {l : List (Int × PV)}
theorem VM.lt(h:VM w B l):B<w.heap.size:=by
 obtain⟨es,clk,h1,_⟩:=h.obj;exact(Array.getElem?_eq_some_iff.1 h1).1
theorem VM.same(h:VM w B l)(hb:w'.heap[B]?=w.heap[B]?):VM w' B l:=by
 obtain⟨es,clk,h1,h2,h3⟩:=h.obj;exact⟨es,clk,hb.trans h1,h2,h3⟩
theorem VM.later(h:VM w B l)(hb:Below w.heap.size w w'):VM w' B l:=h.same (hb.block B h.lt)
theorem VM.ne(h:VM w B l){C:Nat}{cs:Array Value}{t:TypeId}(h':aB w C cs t):B≠C:=by
 intro hh;subst hh;obtain⟨es,clk,h1,_⟩:=h.obj;have:=h1.symm.trans h'.blk;simp at this
theorem VM.look(h:VM w B l)(e:Int):(Instr.lookup 193 (.map (Y B)) (.agg #[I T e]) false).run pG w=.ok (dC (aE l e)) w:=by
 obtain⟨es,clk,h1,h2,h3⟩:=h.obj;have hk:=oN e w es.toList l h2;have hg:=DX e l 0;unfold cW at hk;unfold Instr.lookup;simp only[Sem.run_bind,run_underlying Tryz.underlying193,Result.andThen_ok,lH h1,Sem.run_pure,lY,hk];unfold aE
 cases hx:eG e l 0 with
 |none=>
  rw[hx]at hg;simp only[Option.map_none]at hg
  have:l.find? (fun x=>e==x.1)=none:=by
   cases hq:l.find? (fun x=>e==x.1) with
   |none=>rfl
   |some y=>rw[hq]at hg;simp at hg
  simp[this,FSq];rfl
 |some y=>
  rw[hx]at hg
  cases hq:l.find? (fun x=>e==x.1) with
  |none=>rw[hq]at hg;simp at hg
  |some z=>
   rw[hq]at hg;simp at hg;simp[hg]
theorem VM.size(h:VM w B l):∃(es:Array MapEntry) (clk:Nat),w.heap[B]?=Y (.map es clk)/\es.size=l.length:=by
 obtain⟨es,clk,h1,h2,h3⟩:=h.obj;refine⟨es,clk,h1,?_⟩;have:=congrArg List.length h2
 simpa using this
theorem jK(w:World)(B:Nat)(o:Obj)(hB:B<w.heap.size):({w with heap:=w.heap.setIfInBounds B o}:World).heap[B]?=Y o/\aD B w {w with heap:=w.heap.setIfInBounds B o}:=by
 refine⟨by simp[hB],⟨rfl,rfl,rfl,by simp,fun k hk=>?_⟩⟩;simp[Array.getElem?_setIfInBounds,Ne.symm hk]
theorem DY(e:Int)(x:PV):∀(es:List MapEntry) (l:List (Int×PV)) (i:Nat),es.map (fun e=>(e.key,e.val))=l.map (fun x=>(cW x.1,dC x.2))->
  (∀j u,eG e l i=Y (j,u)->i<=j/\j - i<es.length/\(es[j - i]?).map (·.key)=Y (cW e)/\(es.modify (j - i) (fun a=>{a with key:=cW e,val:=dC x})).map (fun e=>(e.key,e.val))=(fB l e x).map (fun x=>(cW x.1,dC x.2)))/\
  (eG e l i=none->∀b,(es++[(⟨cW e,dC x,b⟩:MapEntry)]).map (fun e=>(e.key,e.val))=(fB l e x).map (fun x=>(cW x.1,dC x.2))):=by
 intro es
 induction es with
 |nil=>intro l i h;cases l with
  |nil=>exact⟨fun j u hj=>by simp[eG]at hj,fun _ b=>by simp[fB]⟩
  |cons y l=>simp at h
 |cons a es ih=>
  intro l i h
  cases l with
  |nil=>simp at h
  |cons y l=>
   have h0:=h;simp only[List.map_cons,List.cons.injEq,Prod.mk.injEq]at h;obtain⟨i1,i2⟩:=ih l (i+1) h.2
   by_cases he:e=y.1
   ·refine⟨fun j u hj=>?_,fun hn=>by simp[eG,he]at hn⟩;simp[eG,he]at hj;obtain⟨rfl,_⟩:=hj;refine⟨by omega,by simp,by simp[h.1.1,he],?_⟩;simp[fB,he,h.2]
   ·refine⟨fun j u hj=>?_,fun hn b=>?_⟩
    ·simp[eG,he]at hj;obtain⟨q1,q2,q3,q4⟩:=i1 j u hj;have hs:j - i=(j - (i+1))+1:=by omega
     refine⟨by omega,by simp;omega,by rw[hs];simpa using q3,?_⟩;rw[hs];simp only[List.modify_succ_cons,List.map_cons,fB,if_neg he,q4,h.1.1,h.1.2]
    ·simp[eG,he]at hn;have:=i2 hn b;simp only[List.cons_append,List.map_cons,fB,if_neg he,this,h.1.1,h.1.2]
theorem xQ(e:Int):Instr.sameBits 10000 (cW e) (cW e)=true:=by
 unfold cW;rw[show(10000:Nat)=9999+1 from rfl];simp[Instr.sameBits]
theorem VM.put(h:VM w B l)(e:Int)(x:PV):∃w',(Instr.mapUpdate 193 (.map (Y B)) (.agg #[I T e]) (dC x)).run pG w=.ok () w'/\VM w' B (fB l e x)/\aD B w w':=by
 obtain⟨es,clk,h1,h2,h3⟩:=h.obj;have hk:=oN e w es.toList l h2;obtain⟨i1,i2⟩:=DY e x es.toList l 0 h2;have hB:=h.lt;unfold cW at hk;unfold Instr.mapUpdate
 cases hx:eG e l 0 with
 |none=>
  rw[hx]at hk;refine⟨{w with heap:=w.heap.setIfInBounds B (.map (es.push ⟨cW e,dC x,clk⟩) (clk+1))},?_,⟨_,_,(jK w B _ hB).1,?_,?_⟩,(jK w B _ hB).2⟩
  ·simp only[Sem.run_bind,run_underlying Tryz.underlying193,Result.andThen_ok,lH h1,lY,hk];exact mT _ h1
  ·rw[Array.toList_push];exact i2 hx clk
  ·rw[Array.toList_push,List.map_append];exact h3.snoc
 |some y=>
  obtain⟨j,u⟩:=y;obtain⟨q1,q2,q3,q4⟩:=i1 j u hx;rw[hx]at hk;simp only[Nat.sub_zero]at q2 q3 q4;have q5:(es[j]?).map (·.key)=Y (cW e):=by simpa using q3
  refine⟨{w with heap:=w.heap.setIfInBounds B (.map (es.modify j (fun a=>{a with key:=cW e,val:=dC x})) clk)},?_,⟨_,_,(jK w B _ hB).1,?_,?_⟩,(jK w B _ hB).2⟩
  ·simp only[Sem.run_bind,run_underlying Tryz.underlying193,Result.andThen_ok,lH h1,lY,hk,q5,Option.getD_some];have hs:=xQ e;unfold cW at hs⊢;simp only[Instr.keyThatStays,hs,if_true,Sem.run_pure,Result.andThen_ok];exact mT _ h1
  ·rw[Array.toList_modify];exact q4
  ·rw[Array.toList_modify,qK (fun a=>{a with key:=cW e,val:=dC x}) (fun _=>rfl)];exact h3
theorem DZ(e:Int):∀(es:List MapEntry) (l:List (Int×PV)) (i:Nat),es.map (fun e=>(e.key,e.val))=l.map (fun x=>(cW x.1,dC x.2))->
  (∀j u,eG e l i=Y (j,u)->i<=j/\(es.eraseIdx (j - i)).map (fun e=>(e.key,e.val))=(fP l e).map (fun x=>(cW x.1,dC x.2)))/\(eG e l i=none->fP l e=l):=by
 intro es
 induction es with
 |nil=>intro l i h;cases l with
  |nil=>exact⟨fun j u hj=>by simp[eG]at hj,fun _=>rfl⟩
  |cons y l=>simp at h
 |cons a es ih=>
  intro l i h
  cases l with
  |nil=>simp at h
  |cons y l=>
   simp only[List.map_cons,List.cons.injEq,Prod.mk.injEq]at h;obtain⟨i1,i2⟩:=ih l (i+1) h.2
   by_cases he:e=y.1
   ·refine⟨fun j u hj=>?_,fun hn=>by simp[eG,he]at hn⟩;simp[eG,he]at hj;obtain⟨rfl,_⟩:=hj;exact⟨by omega,by simp[fP,he,h.2]⟩
   ·refine⟨fun j u hj=>?_,fun hn=>?_⟩
    ·simp[eG,he]at hj;obtain⟨q1,q2⟩:=i1 j u hj;have hs:j - i=(j - (i+1))+1:=by omega
     refine⟨by omega,?_⟩;rw[hs];simp only[List.eraseIdx_cons_succ,List.map_cons,fP,if_neg he,q2,h.1.1,h.1.2]
    ·simp[eG,he]at hn;rw[fP,if_neg he,i2 hn]
theorem VM.del(h:VM w B l)(e:Int)(ty:TypeId):∃w',(Builtin.delete_ #[193,321] ty #[.map (Y B),.agg #[I T e]]).run pG w=.ok (.tuple #[]) w'/\VM w' B (fP l e)/\aD B w w':=by
 obtain⟨es,clk,h1,h2,h3⟩:=h.obj;have hk:=oN e w es.toList l h2;obtain⟨i1,i2⟩:=DZ e es.toList l 0 h2;have hB:=h.lt;unfold cW at hk;unfold Builtin.delete_
 cases hx:eG e l 0 with
 |none=>
  rw[hx]at hk;refine⟨{w with heap:=w.heap.setIfInBounds B (.map es clk)},?_,⟨es,clk,(jK w B _ hB).1,by rw[i2 hx];exact h2,h3⟩,(jK w B _ hB).2⟩;simp only[List.getElem?_toArray,List.getElem?_cons_zero,List.getElem?_cons_succ,Sem.run_bind,run_underlying Tryz.underlying193,Result.andThen_ok,lH h1,lY,hk,mT _ h1,Sem.run_pure]
 |some y=>
  obtain⟨j,u⟩:=y;obtain⟨q1,q2⟩:=i1 j u hx;rw[hx]at hk;simp only[Nat.sub_zero]at q2;refine⟨{w with heap:=w.heap.setIfInBounds B (.map (es.eraseIdxIfInBounds j) clk)},?_,⟨_,_,(jK w B _ hB).1,?_,?_⟩,(jK w B _ hB).2⟩
  ·simp only[List.getElem?_toArray,List.getElem?_cons_zero,List.getElem?_cons_succ,Sem.run_bind,run_underlying Tryz.underlying193,Result.andThen_ok,lH h1,lY,hk,mT _ h1,Sem.run_pure]
  ·rw[Array.toList_eraseIdxIfInBounds];exact q2
  ·rw[Array.toList_eraseIdxIfInBounds];exact h3.sub ((List.eraseIdx_sublist _ _).map _)
end
section
set_option maxRecDepth 20000
structure SD where
 id:Int
 recs:List aM
 vts:List (Int×PV)
 b0:Int
 b1:Int
 b2:Int
 b3:Int
 seen:Int
 last:Int
 lines:Int
structure aF(w:World)(low St:Nat)(d:SD)(vr:Value)(Mp D:Nat):Prop where
 blk:aB w St #[I T d.id,vr,Value.map (Y Mp),I T d.b0,I T d.b1,I T d.b2,I T d.b3,I T d.seen,I T d.last,P0 (Y ⟨D,0,Z⟩),I T d.lines,bool true] 200
 rcs:w.ownsRow low 66 3 vr d.recs.length (d.recs.flatMap aM.cells)
 vot:VM w Mp d.vts
structure aI(w:World)(Nd:Nat)(id nodes nb:Int)(St:Nat)(act:Bool):Prop where
 blk:aB w Nd #[I T id,I T nodes,I T nb,P0 (Y ⟨St,0,Z⟩),bool false,bool act,I T 0,I T 0,I T 0,I T 0,I T 0,I T 0,I T 0,I T 0,I T 0,I T 0,I T 0,I T 0,I T 0,I T 0,I T 0,I T 0,I T 0,J Z 0 0,Value.map none,I T 0,I T 0,I T 0,I T 0,I T 0,I T 0,I T 0,I T 0,I T 0,I T 0,I T 0,J Z 0 0,Value.map none,I T 0,J Z 0 0] 192
section
variable {w w' : World} {low St Mp D Nd : Nat} {d : SD} {vr : Value} {id nodes nb : Int} {act : Bool}
theorem aF.later(h:aF w low St d vr Mp D)(hb:Below w.heap.size w w'):aF w' low St d vr Mp D:=⟨h.blk.later hb,aH h.rcs (fun g hg=>hb.block g (h.rcs.lt g hg).2),h.vot.later hb⟩
theorem aI.later(h:aI w Nd id nodes nb St act)(hb:Below w.heap.size w w'):aI w' Nd id nodes nb St act:=⟨h.blk.later hb⟩
theorem aF.drew(h:aF w low St d vr Mp D):aF w.drew low St d vr Mp D:=⟨h.blk.drew,h.rcs.drew,⟨h.vot.obj⟩⟩
theorem aI.drew(h:aI w Nd id nodes nb St act):aI w.drew Nd id nodes nb St act:=⟨h.blk.drew⟩
end
def SD.lastR(d:SD):aM:=d.recs.getD (d.recs.length - 1) ⟨0,0,0⟩
theorem iJ(low St:Nat)(d:SD)(vr:Value)(Mp D:Nat)(w:World)(h:aF w low St d vr Mp D)(hne:0<d.recs.length)(hlt:d.recs.length<=100000000):
  Calls pG 179 #[P0 (Y ⟨St,0,Z⟩)] w fun r w'=>r=.returned (I T ((d.recs.length:Int) - 1))/\w'=w:=by
 obtain⟨a,c,hv⟩:=aO h.rcs;subst hv;have c1:=h.blk.cell 1;simp at c1;go_enter Tryz.func179,Tryz.ntmps179;go_wp2;go_ret;exact⟨rfl,rfl⟩
theorem rA(low St:Nat)(d:SD)(vr:Value)(Mp D:Nat)(i:Nat)(w:World)(h:aF w low St d vr Mp D)(hi:i<d.recs.length)(hlt:d.recs.length<=100000000):
  Calls pG 181 #[P0 (Y ⟨St,0,Z⟩),I T (i:Int)] w fun r w'=>r=.returned (.agg #[I T (d.recs.getD i ⟨0,0,0⟩).E,I T (d.recs.getD i ⟨0,0,0⟩).P,I T (d.recs.getD i ⟨0,0,0⟩).S])/\Below w.heap.size w w':=by
 have c1:=h.blk.cell 1;simp at c1;obtain⟨g,cap,hv,hg,hc⟩:=(aP.of_owns h.rcs).at (by omega);subst hv;have j0:=hc _ _ (cO aM.cells 3 eK d.recs i hi 0 (by omega));have j1:=hc _ _ (cO aM.cells 3 eK d.recs i hi 1 (by omega));have j2:=hc _ _ (cO aM.cells 3 eK d.recs i hi 2 (by omega));have e:d.recs.getD i ⟨0,0,0⟩=d.recs[i]:=by rw[List.getD_eq_getElem?_getD,List.getElem?_eq_getElem hi];rfl
 rw[e];simp[aM.cells]at j0 j1 j2;have hi2:(i:Int)<(d.recs.length:Int):=by omega
 have hSt:=h.blk.lt;clear e hc h;generalize d.recs[i]=r at*;go_enter Tryz.func181,Tryz.ntmps181;go_wp2;exact bodyPost_ret (v:=.agg #[I T r.E,I T r.P,I T r.S]) (by simp[results,Tryz.results181,go_sem]) rfl ⟨rfl,(Below.refl w.heap.size w).alloc (Nat.le_refl _) _⟩
theorem kR(low St:Nat)(d:SD)(vr:Value)(Mp D:Nat)(e:Int)(w:World)(h:aF w low St d vr Mp D):
  Calls pG 186 #[P0 (Y ⟨St,0,Z⟩),I T e] w fun r w'=>r=.returned (dC (aE d.vts e))/\Below w.heap.size w w':=by
 have c2:=h.blk.cell 2;simp at c2;have hlk:∀w',Below w.heap.size w w'->(Instr.lookup 193 (.map (Y Mp)) (.agg #[I T e]) false).run pG w'=.ok (dC (aE d.vts e)) w':=fun w' hb=>(h.vot.later hb).look e;have hb0:=(Below.refl w.heap.size w).alloc (Nat.le_refl _) (G #[I T 0,I T 0,I T 0,I T 0] 284);have hl0:=hlk _ hb0;have hSt:=h.blk.lt;unfold dC at hl0⊢;clear hlk h;generalize aE d.vts e=x at*;go_enter Tryz.func186,Tryz.ntmps186;go_wp2;exact bodyPost_ret (v:=.agg #[I T x.pr,I T x.ac,I T x.pm,I T x.st]) (by simp[results,Tryz.results186,go_sem]) rfl ⟨rfl,(Below.refl w.heap.size w).alloc (Nat.le_refl _) _⟩
theorem jX(low St:Nat)(d:SD)(vr:Value)(Mp D:Nat)(w:World)(h:aF w low St d vr Mp D):
  Calls pG 189 #[P0 (Y ⟨St,0,Z⟩)] w fun r w'=>r=.returned (.agg #[I T d.seen,I T d.last])/\Below w.heap.size w w':=by
 have c7:=h.blk.cell 7;have c8:=h.blk.cell 8;simp at c7 c8;have hSt:=h.blk.lt;clear h;go_enter Tryz.func189,Tryz.ntmps189;go_wp2;exact bodyPost_ret (v:=.agg #[I T d.seen,I T d.last]) (by simp[results,Tryz.results189,go_sem]) rfl ⟨rfl,(Below.refl w.heap.size w).alloc (Nat.le_refl _) _⟩
theorem rW(low St Nd:Nat)(d:SD)(vr:Value)(Mp D:Nat)(id nodes nb:Int)(act:Bool)(w:World)(hn:aI w Nd id nodes nb St act)(h:aF w low St d vr Mp D)(hne:0<d.recs.length)(hlt:d.recs.length<=100000000):
  Calls pG 133 #[P0 (Y ⟨Nd,0,Z⟩)] w fun r w'=>r=.returned (.agg #[I T d.lastR.E,I T d.lastR.P,I T d.lastR.S])/\Below w.heap.size w w':=by
 have hb0:=(Below.refl w.heap.size w).alloc (Nat.le_refl _) (G #[I T 0,I T 0,I T 0] 66);have HN:=aA (hn.later hb0);have HS:=aA (h.later hb0);have HB:=aA hb0;have c3:=HN.out.blk.cell 3;simp at c3;have hNd:=HN.out.blk.lt;have hSt:=HS.out.blk.lt;have hs0:(w.alloc (G #[I T 0,I T 0,I T 0] 66)).heap.size=w.heap.size+1:=by simp
 have HR:=aA (aB.new w #[I T 0,I T 0,I T 0] 66);have hNd0:=hn.blk.lt;have hcast:(d.recs.length:Int) - 1=((d.recs.length - 1:Nat):Int):=by omega
 clear hn h hb0;go_enter Tryz.func133,Tryz.ntmps133
 go_wp2_with fail
 generalize (w.alloc (G #[I T 0,I T 0,I T 0] 66))=W0 at*
 go_region_held3 (fun w'=>w'.cell? ⟨Nd,3,Z⟩=Y (P0 (Y ⟨St,0,Z⟩))) (first|assumption|go_keep|(repeat(first|assumption|refine(World.cell?_setCell_other _ _ _ _ (by intro hh;have h9:=congrArg Addr.block hh;(try simp at h9);omega)).trans ?_))) (first|(go_at_call 179;refine(iJ low St d vr Mp D W0.drew HS.out.drew hne hlt).mono ?_;rintro r w3 ⟨rfl,rfl⟩;rw[hcast])|(go_at_call 181;refine(rA low St d vr Mp D (d.recs.length - 1) W0.drew HS.out.drew (by omega) hlt).mono ?_;rintro r w4 ⟨rfl,hb4⟩;have z3:w4.cell? ⟨Nd,3,Z⟩=Y (P0 (Y ⟨St,0,Z⟩)):=(hb4.cell (p:=⟨Nd,3,Z⟩) hNd).trans c3;have r0:=(HR.out.drew.later hb4).cell 0;have r1:=(HR.out.drew.later hb4).cell 1;have r2:=(HR.out.drew.later hb4).cell 2;have f0:=(HR.out.drew.later hb4).free 0;have f1:=(HR.out.drew.later hb4).free 1;have f2:=(HR.out.drew.later hb4).free 2;simp at r0 r1 r2))
 have e:d.recs[d.recs.length - 1]?.getD ⟨0,0,0⟩=d.lastR:=by unfold SD.lastR;rw[List.getD_eq_getElem?_getD]
 simp only[e] at*;have HBL:Hid (Below w.heap.size w (((w4.setCell ⟨w.heap.size,0,Z⟩ (I T d.lastR.E)).setCell ⟨w.heap.size,1,Z⟩ (I T d.lastR.P)).setCell ⟨w.heap.size,2,Z⟩ (I T d.lastR.S))):=bX (bX (bX (HB.out.drew.trans (hb4.mono (by show _<=W0.heap.size;omega))) (Nat.le_refl _) _ _) (Nat.le_refl _) _ _) (Nat.le_refl _) _ _;have HRF:=(((HR.out.drew.later hb4).set 0 (I T d.lastR.E)).set 1 (I T d.lastR.P)).set 2 (I T d.lastR.S);generalize (((w4.setCell ⟨w.heap.size,0,Z⟩ (I T d.lastR.E)).setCell ⟨w.heap.size,1,Z⟩ (I T d.lastR.P)).setCell ⟨w.heap.size,2,Z⟩ (I T d.lastR.S))=W9 at*;have q0:=HRF.cell 0;have q1:=HRF.cell 1;have q2:=HRF.cell 2;simp at q0 q1 q2;go_wp2;exact bodyPost_ret (v:=.agg #[I T d.lastR.E,I T d.lastR.P,I T d.lastR.S]) (by simp[results,Tryz.results133,go_sem,q0,q1,q2]) rfl ⟨rfl,HBL.out⟩
def SD.takes(d:SD)(E P:Int):Bool:=decide (P=d.id+1)&&decide (d.seen<E)
theorem rX(low St:Nat)(d:SD)(vr:Value)(Mp D:Nat)(E P S:Int)(w:World)(h:aF w low St d vr Mp D)(hid:0<=d.id/\d.id<5):
    Calls pG 246 #[P0 (Y ⟨St,0,Z⟩),.agg #[I T E,I T P,I T S]] w fun r w'=>r=.returned (.bool (d.takes E P))/\Below w.heap.size w w':=by
  have hb0:=(Below.refl w.heap.size w).alloc (Nat.le_refl _) (G #[I T E,I T P,I T S] 66);have HR:=aA (aB.new w #[I T E,I T P,I T S] 66);have HS:=aA (h.later hb0);have HB:=aA hb0;clear h hb0;go_enter Tryz.func246,Tryz.ntmps246
  go_wp2_with fail
  generalize (w.alloc (G #[I T E,I T P,I T S] 66))=W0 at*;have c0:=HS.out.blk.cell 0;have c7:=HS.out.blk.cell 7;simp at c0 c7;have m0:=HR.out.cell 0;have m1:=HR.out.cell 1;have m2:=HR.out.cell 2;simp at m0 m1 m2;have hSt:=HS.out.blk.lt;have hR:=HR.out.lt
  by_cases h1:P=d.id+1
  · have h2:(P==d.id+1)=true:=by simpa using h1
    have HT:Hid (d.takes E P=decide (d.seen<E)):=by unfold Hid SD.takes;simp[h1]
    clear h1
    go_quiet (fail)
    go_wp2;go_ret
    exact⟨by rw[HT.out];rfl,below_drewN HB.out _⟩
  · have h2:(P==d.id+1)=false:=by simpa using h1
    have HT:Hid (d.takes E P=false):=by unfold Hid SD.takes;simp[h1]
    clear h1
    go_quiet (fail)
    go_wp2;go_ret
    exact⟨by rw[HT.out];rfl,below_drewN HB.out _⟩
def SD.learn(d:SD)(E P S:Int):SD:={d with recs:=d.recs++[⟨E,P,S⟩],seen:=if d.takes E P=true then E else d.seen,last:=if d.takes E P=true then 0 else d.last,vts:=fP d.vts (E - 1)}
theorem zS(low St:Nat)(d:SD)(vr:Value)(Mp D:Nat)(E P S:Int)(w:World)(h:aF w low St d vr Mp D)(hid:0<=d.id/\d.id<5)(hlw:low<=w.heap.size)(hlt:d.recs.length<=100000000)(hE:1<=E/\E<=1000000000001):
    Calls pG 252 #[P0 (Y ⟨St,0,Z⟩),.agg #[I T E,I T P,I T S]] w fun r w'=>r=.returned (.tuple #[])/\∃vr',aF w' low St (d.learn E P S) vr' Mp D/\aK (fun g=>g=St∨g=Mp∨vr.ownBlock=Y g) w w'/\(∀g,vr'.ownBlock=Y g->vr.ownBlock=Y g∨w.heap.size<=g):=by
  obtain⟨i0,hi0,hz0,hz1,hz2⟩:=info_parts l6;obtain⟨ar,cr,hvr⟩:=aO h.rcs;subst hvr;have hb0:=(Below.refl w.heap.size w).alloc (Nat.le_refl _) (G #[I T E,I T P,I T S] 66);have HR:=aA (aB.new w #[I T E,I T P,I T S] 66);have HS:=aA (h.later hb0);have HB:=aA hb0;have HSw:=aA h;clear h hb0;go_enter Tryz.func252,Tryz.ntmps252
  go_wp2_with fail
  generalize (w.alloc (G #[I T E,I T P,I T S] 66))=W0 at*;refine(rX low St d (J ar d.recs.length cr) Mp D E P S W0 HS.out hid).mono ?_;rintro r w1 ⟨rfl,hb1⟩;have HS1:=aA (HS.out.later hb1);have HR1:=aA (HR.out.later hb1);have HB1:=aA (HB.out.trans (hb1.mono HB.out.size));have hSt0:=HSw.out.blk.lt;have hStR:St≠w.heap.size:=by omega
  clear hb1 HR HS HB;have c0:=HS1.out.blk.cell 0;have c1:=HS1.out.blk.cell 1;have c2:=HS1.out.blk.cell 2;have c3:=HS1.out.blk.cell 3;have c4:=HS1.out.blk.cell 4;have c5:=HS1.out.blk.cell 5;have c6:=HS1.out.blk.cell 6;have c7:=HS1.out.blk.cell 7;have c8:=HS1.out.blk.cell 8;have c9:=HS1.out.blk.cell 9;have c10:=HS1.out.blk.cell 10;have c11:=HS1.out.blk.cell 11;simp at c0 c1 c2 c3 c4 c5 c6 c7 c8 c9 c10 c11;have hf0:=HS1.out.blk.free 0;have hf1:=HS1.out.blk.free 1;have hf2:=HS1.out.blk.free 2;have hf3:=HS1.out.blk.free 3;have hf4:=HS1.out.blk.free 4;have hf5:=HS1.out.blk.free 5;have hf6:=HS1.out.blk.free 6;have hf7:=HS1.out.blk.free 7;have hf8:=HS1.out.blk.free 8;have hf9:=HS1.out.blk.free 9;have hf10:=HS1.out.blk.free 10;have hf11:=HS1.out.blk.free 11;have m0:=HR1.out.cell 0;have m1:=HR1.out.cell 1;have m2:=HR1.out.cell 2;simp at m0 m1 m2;have hSt1:=HS1.out.blk.lt;have hR1:=HR1.out.lt;have hMp1:=HS1.out.vot.lt;have hMpSt:=HS1.out.vot.ne HS1.out.blk;have hMp0:=HSw.out.vot.lt;cases htk:d.takes E P
  · have HTK:Hid (d.takes E P=false):=htk
    clear htk
    go_upto_region 3 with fail
    have HBt:=aA ((aD.self2 St w1));have HBk:Hid (aB w1 St #[I T d.id,J ar d.recs.length cr,Value.map (Y Mp),I T d.b0,I T d.b1,I T d.b2,I T d.b3,I T d.seen,I T d.last,P0 (Y ⟨D,0,Z⟩),I T d.lines,bool true] 200):=by have h9:=HS1.out.blk;unfold Hid;simpa using h9
    have HRr:=aA (aH HS1.out.rcs (fun g hg=>HBt.out.block g (fun hh=>aW HS1.out.rcs HS1.out.blk.blk (by decide) (hh ▸ hg))));have HVt:=aA (HS1.out.vot.same (HBt.out.block Mp hMpSt));have HRb:=aA (HR1.out.same (HBt.out.block _ (Ne.symm hStR)));have hsz1:=HBt.out.size;clear c0 c1 c2 c3 c4 c5 c6 c7 c8 c9 c10 c11 hf0 hf1 hf2 hf3 hf4 hf5 hf6 hf7 hf8 hf9 hf10 hf11 m0 m1 m2;have c0:=HBk.out.cell 0;have c1:=HBk.out.cell 1;have c2:=HBk.out.cell 2;have c3:=HBk.out.cell 3;have c4:=HBk.out.cell 4;have c5:=HBk.out.cell 5;have c6:=HBk.out.cell 6;have c7:=HBk.out.cell 7;have c8:=HBk.out.cell 8;have c9:=HBk.out.cell 9;have c10:=HBk.out.cell 10;have c11:=HBk.out.cell 11;simp at c0 c1 c2 c3 c4 c5 c6 c7 c8 c9 c10 c11;have hf0:=HBk.out.free 0;have hf1:=HBk.out.free 1;have hf2:=HBk.out.free 2;have hf3:=HBk.out.free 3;have hf4:=HBk.out.free 4;have hf5:=HBk.out.free 5;have hf6:=HBk.out.free 6;have hf7:=HBk.out.free 7;have hf8:=HBk.out.free 8;have hf9:=HBk.out.free 9;have hf10:=HBk.out.free 10;have hf11:=HBk.out.free 11;have m0:=HRb.out.cell 0;have m1:=HRb.out.cell 1;have m2:=HRb.out.cell 2;simp at m0 m1 m2;have hSt2:=HBk.out.lt;have hR2:=HRb.out.lt;have hRX:=aW HRr.out HBk.out.blk (by decide);have hRl:=fun g hg=>World.ownsRow.lt HRr.out g hg;have hlow1:low<=w1.heap.size:=by have:=HB1.out.size;omega
    have HSZ:Hid (w.heap.size<=w1.heap.size):=by have:=HB1.out.size;unfold Hid;omega
    go_cut [20] (fun sx wx=>∃va vc2,sx=J va (d.recs.length+1) vc2/\aB wx St #[I T d.id,J va (d.recs.length+1) vc2,Value.map (Y Mp),I T d.b0,I T d.b1,I T d.b2,I T d.b3,I T d.seen,I T d.last,P0 (Y ⟨D,0,Z⟩),I T d.lines,bool true] 200/\wx.ownsRow low 66 3 (J va (d.recs.length+1) vc2) (d.recs.length+1) (d.recs.flatMap aM.cells++[I T E,I T P,I T S])/\VM wx Mp d.vts/\aB wx w.heap.size #[I T E,I T P,I T S] 66/\aK (fun g=>g=St∨Value.ownBlock (J ar d.recs.length cr)=Y g) w1 wx/\(∀g,Value.ownBlock (J va (d.recs.length+1) vc2)=Y g->Value.ownBlock (J ar d.recs.length cr)=Y g∨w1.heap.size<=g))
    case first=>
     go_region_law (refine gC rfl (.tmp 17) (.tmp 19) 23 rfl low 66 i0 (.agg #[I T 0,I T 0,I T 0]) 3 24 Tryz.underlying23 hi0 hz0 hz1 hz2 rfl (by decide) (J ar d.recs.length cr) d.recs.length (d.recs.flatMap aM.cells) (by simp[Act.eval]) (by exact(HRr.out.alloc _).drew) ⟨w1.heap.size,0,Z⟩ 1 1 [I T E,I T P,I T S] (by omega) (by simp[Act.eval]) rfl (by intro j u hu;rw[Go.WideShapes.add_plain];refine(World.cell?_alloc_at _ _ _ _ (by simp)).trans ?_;simpa using hu) (by intro u hu;simp at hu;rcases hu with rfl|rfl|rfl<;>rfl) (by unfold maxLen;omega) (by omega) (by show _<=(World.alloc _ _).heap.size;simp;omega) ?_;intro v' w2 ho' hg' hloc;obtain⟨va,vc2,rfl⟩:=aO ho';have hX2:w2.heap[St]?=w1.heap[St]?:=(hg'.block St (by show _<(World.alloc _ _).heap.size;simp;omega) (Ne.symm hRX)).trans (heap_alloc_old _ _ hSt2);have k4:w2.cell? ⟨St,1,Z⟩=Y (J ar d.recs.length cr):=(World.cell?_of_block (w:=w1) (a:=⟨St,1,Z⟩) hX2).trans c1;have kf:w2.frozen? ⟨St,1,Z⟩=false:=(World.frozen?_of_block (w:=w1) (a:=⟨St,1,Z⟩) hX2).trans hf1)
     all_goals
       have hgB:∀g,g<w1.heap.size->Value.ownBlock (J ar d.recs.length cr)≠some g->w2.heap[g]?=w1.heap[g]?:=fun g hg hne=>(hg'.block g (by show _<(World.alloc _ _).heap.size;simp;omega) (Ne.symm hne)).trans (heap_alloc_old _ _ hg)
       have hlo2:∀g,Value.ownBlock (J va (d.recs.length+1) vc2)=Y g->Value.ownBlock (J ar d.recs.length cr)=Y g∨w1.heap.size<=g:=by
         intro g hg;obtain⟨g',h1,h2⟩:=hloc;rw[h1]at hg;cases hg;exact h2.imp id (fun h=>Nat.le_trans (by show _<=(World.alloc _ _).heap.size;simp) h.1)
       have hs2:w1.heap.size<=w2.heap.size:=Nat.le_trans (by show _<=(World.alloc _ _).heap.size;simp) hg'.size;have hq2:w2.os=w1.os/\w2.tape=w1.tape/\w2.output=w1.output:=⟨hg'.os,hg'.tape,hg'.output⟩;have hvX:=aW ho' (hX2.trans HBk.out.blk) (by decide)
       have hMpne:Value.ownBlock (J ar d.recs.length cr)≠some Mp:=fun hh=>by
         rcases HRr.out.2 with⟨h0,_⟩|⟨g9,cap9,cur9,h8,_,hg9,_⟩
         · rw[h0]at hh;simp[Value.ownBlock]at hh
         · rw[h8]at hh
           simp[Value.ownBlock]at hh;subst hh;obtain⟨es,clk,h7,_⟩:=HVt.out.obj;rw[h7]at hg9;simp at hg9
       have hRne:Value.ownBlock (J ar d.recs.length cr)≠some w.heap.size:=fun hh=>by have h8:=(HSw.out.rcs.lt _ hh).2;omega
     all_goals go_wp2_with fail
     all_goals go_meet
     all_goals
       have hbt2:=aD.setCell w2 ⟨St,1,Z⟩ (J va (d.recs.length+1) vc2);refine⟨va,vc2,rfl,?_,?_,?_,?_,?_,hlo2⟩
       · have h9:=(aB.same HBk.out hX2).set 1 (J va (d.recs.length+1) vc2)
         simpa using h9
       · exact aH ho' (fun g hg=>hbt2.block g (fun hh=>hvX (by have h8:g=St:=hh;rw[←h8];exact hg)))
       · exact HVt.out.same ((hbt2.block Mp hMpSt).trans (hgB Mp (by omega) hMpne))
       · exact HRb.out.same ((hbt2.block _ (Ne.symm hStR)).trans (hgB _ (by omega) hRne))
       · exact⟨hbt2.os.trans hq2.1,hbt2.tape.trans hq2.2.1,hbt2.output.trans hq2.2.2,by rw[hbt2.size];exact hs2,fun k hk hA=>(hbt2.block k (fun hh=>hA (.inl hh))).trans (hgB k hk (fun hh=>hA (.inr hh)))⟩
    case rest=>
    obtain⟨va,vc2,rfl,hb3,ho3,hv3,hr3,hk3,hl3⟩:=hcut;have HL3:=aA hl3;clear hl3;have HV3:=aA hv3;obtain⟨w4,hdel,hv4,hbt4⟩:=(VM.same (w':=wc.drew) hv3 rfl).del (E - 1) 0;have HB3:=aA hb3;have HO3:=aA ho3;have HR3:=aA hr3;have HK3:=aA hk3;have HV4:=aA hv4;have HBT4:=aA hbt4;clear hb3 ho3 hv3 hr3 hk3 hv4 hbt4 c0 c1 c2 c3 c4 c5 c6 c7 c8 c9 c10 c11 hf0 hf1 hf2 hf3 hf4 hf5 hf6 hf7 hf8 hf9 hf10 hf11 m0 m1 m2;have c0:=HB3.out.cell 0;have c1:=HB3.out.cell 1;have c2:=HB3.out.cell 2;have c3:=HB3.out.cell 3;have c4:=HB3.out.cell 4;have c5:=HB3.out.cell 5;have c6:=HB3.out.cell 6;have c7:=HB3.out.cell 7;have c8:=HB3.out.cell 8;have c9:=HB3.out.cell 9;have c10:=HB3.out.cell 10;have c11:=HB3.out.cell 11;simp at c0 c1 c2 c3 c4 c5 c6 c7 c8 c9 c10 c11;have m0:=HR3.out.cell 0;have m1:=HR3.out.cell 1;have m2:=HR3.out.cell 2;simp at m0 m1 m2;have HL:Hid (d.learn E P S={d with recs:=d.recs++[⟨E,P,S⟩],seen:=d.seen,last:=d.last,vts:=fP d.vts (E - 1)}):=by unfold Hid SD.learn;rw[HTK.out];rfl
    go_wp2_with fail
    go_region
    all_goals
      refine bodyPost_end (v:=.tuple #[]) (by simp[results,Tryz.results252,go_sem]) rfl ⟨rfl,J va (d.recs.length+1) vc2,?_,?_,fun g hg=>(HL3.out g hg).imp id (fun h9=>Nat.le_trans HSZ.out h9)⟩
      · rw[HL.out]
        refine⟨HB3.out.same (HBT4.out.block St (Ne.symm hMpSt)),?_,HV4.out⟩
        have h9:wc.ownsRow low 66 3 (J va (d.recs.length+1) vc2) (d.recs++[(⟨E,P,S⟩:aM)]).length ((d.recs++[(⟨E,P,S⟩:aM)]).flatMap aM.cells):=by
          simp only[List.length_append,List.flatMap_append,List.length_cons,List.length_nil,List.flatMap_cons,List.flatMap_nil,List.append_nil];exact HO3.out
        refine aH h9 (fun g hg=>HBT4.out.block g (fun hh=>?_));rcases h9.2 with⟨h0,_⟩|⟨g9,cap9,cur9,h8,_,hg9,_⟩
        · rw[h0]at hg;simp[Value.ownBlock]at hg
        · rw[h8]at hg
          simp[Value.ownBlock]at hg;subst hg;obtain⟨es,clk,h7,_⟩:=HV3.out.obj;rw[←hh,hg9]at h7;cases h7
      · have hk1:aK (fun g=>g=St) w w1:=(aK.of_below (A:=fun _=>False) HB1.out).trans (B:=fun g=>g=St) ⟨HBt.out.os,HBt.out.tape,HBt.out.output,by rw[HBt.out.size];exact Nat.le_refl _,fun k _ hk=>HBt.out.block k hk⟩ (fun _ hh=>hh.elim) (fun _ _ hh=>hh)
        have hk2:=hk1.trans HK3.out (fun _ hh=>.inl hh) (fun _ _ hh=>hh);exact hk2.trans (B:=fun g=>g=Mp) ⟨HBT4.out.os,HBT4.out.tape,HBT4.out.output,by rw[HBT4.out.size];exact Nat.le_refl _,fun k _ hk=>HBT4.out.block k hk⟩ (fun _ hh=>hh.elim .inl (fun h=>.inr (.inr h))) (fun _ _ hh=>.inr (.inl hh))
  · have HTK:Hid (d.takes E P=true):=htk
    clear htk
    go_upto_region 3 with fail
    have HBt:=aA ((((aD.self2 St w1).set2 7 (I T E)).set2 8 (I T 0)));have HBk:Hid (aB ((w1.setCell ⟨St,7,Z⟩ (I T E)).setCell ⟨St,8,Z⟩ (I T 0)) St #[I T d.id,J ar d.recs.length cr,Value.map (Y Mp),I T d.b0,I T d.b1,I T d.b2,I T d.b3,I T E,I T 0,P0 (Y ⟨D,0,Z⟩),I T d.lines,bool true] 200):=by have h9:=((HS1.out.blk.set 7 (I T E)).set 8 (I T 0));unfold Hid;simpa using h9
    generalize ((w1.setCell ⟨St,7,Z⟩ (I T E)).setCell ⟨St,8,Z⟩ (I T 0))=W1 at*;have HRr:=aA (aH HS1.out.rcs (fun g hg=>HBt.out.block g (fun hh=>aW HS1.out.rcs HS1.out.blk.blk (by decide) (hh ▸ hg))));have HVt:=aA (HS1.out.vot.same (HBt.out.block Mp hMpSt));have HRb:=aA (HR1.out.same (HBt.out.block _ (Ne.symm hStR)));have hsz1:=HBt.out.size;clear c0 c1 c2 c3 c4 c5 c6 c7 c8 c9 c10 c11 hf0 hf1 hf2 hf3 hf4 hf5 hf6 hf7 hf8 hf9 hf10 hf11 m0 m1 m2;have c0:=HBk.out.cell 0;have c1:=HBk.out.cell 1;have c2:=HBk.out.cell 2;have c3:=HBk.out.cell 3;have c4:=HBk.out.cell 4;have c5:=HBk.out.cell 5;have c6:=HBk.out.cell 6;have c7:=HBk.out.cell 7;have c8:=HBk.out.cell 8;have c9:=HBk.out.cell 9;have c10:=HBk.out.cell 10;have c11:=HBk.out.cell 11;simp at c0 c1 c2 c3 c4 c5 c6 c7 c8 c9 c10 c11;have hf0:=HBk.out.free 0;have hf1:=HBk.out.free 1;have hf2:=HBk.out.free 2;have hf3:=HBk.out.free 3;have hf4:=HBk.out.free 4;have hf5:=HBk.out.free 5;have hf6:=HBk.out.free 6;have hf7:=HBk.out.free 7;have hf8:=HBk.out.free 8;have hf9:=HBk.out.free 9;have hf10:=HBk.out.free 10;have hf11:=HBk.out.free 11;have m0:=HRb.out.cell 0;have m1:=HRb.out.cell 1;have m2:=HRb.out.cell 2;simp at m0 m1 m2;have hSt2:=HBk.out.lt;have hR2:=HRb.out.lt;have hRX:=aW HRr.out HBk.out.blk (by decide);have hRl:=fun g hg=>World.ownsRow.lt HRr.out g hg;have hlow1:low<=W1.heap.size:=by have:=HB1.out.size;omega
    have HSZ:Hid (w.heap.size<=W1.heap.size):=by have:=HB1.out.size;unfold Hid;omega
    go_cut [20] (fun sx wx=>∃va vc2,sx=J va (d.recs.length+1) vc2/\aB wx St #[I T d.id,J va (d.recs.length+1) vc2,Value.map (Y Mp),I T d.b0,I T d.b1,I T d.b2,I T d.b3,I T E,I T 0,P0 (Y ⟨D,0,Z⟩),I T d.lines,bool true] 200/\wx.ownsRow low 66 3 (J va (d.recs.length+1) vc2) (d.recs.length+1) (d.recs.flatMap aM.cells++[I T E,I T P,I T S])/\VM wx Mp d.vts/\aB wx w.heap.size #[I T E,I T P,I T S] 66/\aK (fun g=>g=St∨Value.ownBlock (J ar d.recs.length cr)=Y g) W1 wx/\(∀g,Value.ownBlock (J va (d.recs.length+1) vc2)=Y g->Value.ownBlock (J ar d.recs.length cr)=Y g∨W1.heap.size<=g))
    case first=>
     go_region_law (refine gC rfl (.tmp 17) (.tmp 19) 23 rfl low 66 i0 (.agg #[I T 0,I T 0,I T 0]) 3 24 Tryz.underlying23 hi0 hz0 hz1 hz2 rfl (by decide) (J ar d.recs.length cr) d.recs.length (d.recs.flatMap aM.cells) (by simp[Act.eval]) (by exact(HRr.out.alloc _).drew) ⟨W1.heap.size,0,Z⟩ 1 1 [I T E,I T P,I T S] (by omega) (by simp[Act.eval]) rfl (by intro j u hu;rw[Go.WideShapes.add_plain];refine(World.cell?_alloc_at _ _ _ _ (by simp)).trans ?_;simpa using hu) (by intro u hu;simp at hu;rcases hu with rfl|rfl|rfl<;>rfl) (by unfold maxLen;omega) (by omega) (by show _<=(World.alloc _ _).heap.size;simp;omega) ?_;intro v' w2 ho' hg' hloc;obtain⟨va,vc2,rfl⟩:=aO ho';have hX2:w2.heap[St]?=W1.heap[St]?:=(hg'.block St (by show _<(World.alloc _ _).heap.size;simp;omega) (Ne.symm hRX)).trans (heap_alloc_old _ _ hSt2);have k4:w2.cell? ⟨St,1,Z⟩=Y (J ar d.recs.length cr):=(World.cell?_of_block (w:=W1) (a:=⟨St,1,Z⟩) hX2).trans c1;have kf:w2.frozen? ⟨St,1,Z⟩=false:=(World.frozen?_of_block (w:=W1) (a:=⟨St,1,Z⟩) hX2).trans hf1)
     all_goals
       have hgB:∀g,g<W1.heap.size->Value.ownBlock (J ar d.recs.length cr)≠some g->w2.heap[g]?=W1.heap[g]?:=fun g hg hne=>(hg'.block g (by show _<(World.alloc _ _).heap.size;simp;omega) (Ne.symm hne)).trans (heap_alloc_old _ _ hg)
       have hlo2:∀g,Value.ownBlock (J va (d.recs.length+1) vc2)=Y g->Value.ownBlock (J ar d.recs.length cr)=Y g∨W1.heap.size<=g:=by
         intro g hg;obtain⟨g',h1,h2⟩:=hloc;rw[h1]at hg;cases hg;exact h2.imp id (fun h=>Nat.le_trans (by show _<=(World.alloc _ _).heap.size;simp) h.1)
       have hs2:W1.heap.size<=w2.heap.size:=Nat.le_trans (by show _<=(World.alloc _ _).heap.size;simp) hg'.size;have hq2:w2.os=W1.os/\w2.tape=W1.tape/\w2.output=W1.output:=⟨hg'.os,hg'.tape,hg'.output⟩;have hvX:=aW ho' (hX2.trans HBk.out.blk) (by decide)
       have hMpne:Value.ownBlock (J ar d.recs.length cr)≠some Mp:=fun hh=>by
         rcases HRr.out.2 with⟨h0,_⟩|⟨g9,cap9,cur9,h8,_,hg9,_⟩
         · rw[h0]at hh;simp[Value.ownBlock]at hh
         · rw[h8]at hh
           simp[Value.ownBlock]at hh;subst hh;obtain⟨es,clk,h7,_⟩:=HVt.out.obj;rw[h7]at hg9;simp at hg9
       have hRne:Value.ownBlock (J ar d.recs.length cr)≠some w.heap.size:=fun hh=>by have h8:=(HSw.out.rcs.lt _ hh).2;omega
     all_goals go_wp2_with fail
     all_goals go_meet
     all_goals
       have hbt2:=aD.setCell w2 ⟨St,1,Z⟩ (J va (d.recs.length+1) vc2);refine⟨va,vc2,rfl,?_,?_,?_,?_,?_,hlo2⟩
       · have h9:=(aB.same HBk.out hX2).set 1 (J va (d.recs.length+1) vc2)
         simpa using h9
       · exact aH ho' (fun g hg=>hbt2.block g (fun hh=>hvX (by have h8:g=St:=hh;rw[←h8];exact hg)))
       · exact HVt.out.same ((hbt2.block Mp hMpSt).trans (hgB Mp (by omega) hMpne))
       · exact HRb.out.same ((hbt2.block _ (Ne.symm hStR)).trans (hgB _ (by omega) hRne))
       · exact⟨hbt2.os.trans hq2.1,hbt2.tape.trans hq2.2.1,hbt2.output.trans hq2.2.2,by rw[hbt2.size];exact hs2,fun k hk hA=>(hbt2.block k (fun hh=>hA (.inl hh))).trans (hgB k hk (fun hh=>hA (.inr hh)))⟩
    case rest=>
    obtain⟨va,vc2,rfl,hb3,ho3,hv3,hr3,hk3,hl3⟩:=hcut;have HL3:=aA hl3;clear hl3;have HV3:=aA hv3;obtain⟨w4,hdel,hv4,hbt4⟩:=(VM.same (w':=wc.drew) hv3 rfl).del (E - 1) 0;have HB3:=aA hb3;have HO3:=aA ho3;have HR3:=aA hr3;have HK3:=aA hk3;have HV4:=aA hv4;have HBT4:=aA hbt4;clear hb3 ho3 hv3 hr3 hk3 hv4 hbt4 c0 c1 c2 c3 c4 c5 c6 c7 c8 c9 c10 c11 hf0 hf1 hf2 hf3 hf4 hf5 hf6 hf7 hf8 hf9 hf10 hf11 m0 m1 m2;have c0:=HB3.out.cell 0;have c1:=HB3.out.cell 1;have c2:=HB3.out.cell 2;have c3:=HB3.out.cell 3;have c4:=HB3.out.cell 4;have c5:=HB3.out.cell 5;have c6:=HB3.out.cell 6;have c7:=HB3.out.cell 7;have c8:=HB3.out.cell 8;have c9:=HB3.out.cell 9;have c10:=HB3.out.cell 10;have c11:=HB3.out.cell 11;simp at c0 c1 c2 c3 c4 c5 c6 c7 c8 c9 c10 c11;have m0:=HR3.out.cell 0;have m1:=HR3.out.cell 1;have m2:=HR3.out.cell 2;simp at m0 m1 m2;have HL:Hid (d.learn E P S={d with recs:=d.recs++[⟨E,P,S⟩],seen:=E,last:=0,vts:=fP d.vts (E - 1)}):=by unfold Hid SD.learn;rw[HTK.out];rfl
    go_wp2_with fail
    go_region
    all_goals
      refine bodyPost_end (v:=.tuple #[]) (by simp[results,Tryz.results252,go_sem]) rfl ⟨rfl,J va (d.recs.length+1) vc2,?_,?_,fun g hg=>(HL3.out g hg).imp id (fun h9=>Nat.le_trans HSZ.out h9)⟩
      · rw[HL.out]
        refine⟨HB3.out.same (HBT4.out.block St (Ne.symm hMpSt)),?_,HV4.out⟩
        have h9:wc.ownsRow low 66 3 (J va (d.recs.length+1) vc2) (d.recs++[(⟨E,P,S⟩:aM)]).length ((d.recs++[(⟨E,P,S⟩:aM)]).flatMap aM.cells):=by
          simp only[List.length_append,List.flatMap_append,List.length_cons,List.length_nil,List.flatMap_cons,List.flatMap_nil,List.append_nil];exact HO3.out
        refine aH h9 (fun g hg=>HBT4.out.block g (fun hh=>?_));rcases h9.2 with⟨h0,_⟩|⟨g9,cap9,cur9,h8,_,hg9,_⟩
        · rw[h0]at hg;simp[Value.ownBlock]at hg
        · rw[h8]at hg
          simp[Value.ownBlock]at hg;subst hg;obtain⟨es,clk,h7,_⟩:=HV3.out.obj;rw[←hh,hg9]at h7;cases h7
      · have hk1:aK (fun g=>g=St) w W1:=(aK.of_below (A:=fun _=>False) HB1.out).trans (B:=fun g=>g=St) ⟨HBt.out.os,HBt.out.tape,HBt.out.output,by rw[HBt.out.size];exact Nat.le_refl _,fun k _ hk=>HBt.out.block k hk⟩ (fun _ hh=>hh.elim) (fun _ _ hh=>hh)
        have hk2:=hk1.trans HK3.out (fun _ hh=>.inl hh) (fun _ _ hh=>hh);exact hk2.trans (B:=fun g=>g=Mp) ⟨HBT4.out.os,HBT4.out.tape,HBT4.out.output,by rw[HBT4.out.size];exact Nat.le_refl _,fun k _ hk=>HBT4.out.block k hk⟩ (fun _ hh=>hh.elim .inl (fun h=>.inr (.inr h))) (fun _ _ hh=>.inr (.inl hh))
theorem nR(k f e b wa p s q bl v:Int)(ms:Value)(w:World)(h1:0<=e)(h2:e<=1000000000000):
  Calls pG 245 #[.agg #[I T k,I T f,I T e,I T b,I T wa,I T p,I T s,I T q,I T bl,I T v,ms]] w fun r w'=>r=.returned (.agg #[I T (e+1),I T p,I T s])/\Below w.heap.size w w':=by
 have hb0:=((Below.refl w.heap.size w).alloc (Nat.le_refl _) (G #[I T k,I T f,I T e,I T b,I T wa,I T p,I T s,I T q,I T bl,I T v,ms] 136)).alloc (by simp) (G #[I T (e+1),I T p,I T s] 66);go_enter Tryz.func245,Tryz.ntmps245;go_wp2;exact bodyPost_ret (v:=.agg #[I T (e+1),I T p,I T s]) (by simp[results,Tryz.results245,go_sem]) rfl ⟨rfl,hb0⟩
theorem xR(k f e b wa p s q bl v:Int)(ms:Value)(w:World):
  Calls pG 249 #[.agg #[I T k,I T f,I T e,I T b,I T wa,I T p,I T s,I T q,I T bl,I T v,ms]] w fun r w'=>r=.returned (I T (if k=9 then 10 else 8))/\Below w.heap.size w w':=by
 have hb0:=(Below.refl w.heap.size w).alloc (Nat.le_refl _) (G #[I T k,I T f,I T e,I T b,I T wa,I T p,I T s,I T q,I T bl,I T v,ms] 136)
 by_cases hk:k=9
 ·subst hk;go_enter Tryz.func249,Tryz.ntmps249;go_wp2;go_ret;exact⟨rfl,hb0⟩
 ·have hq:(k==9)=false:=by simpa using hk
  rw[if_neg hk];clear hk;go_enter Tryz.func249,Tryz.ntmps249;go_wp2;go_ret;exact⟨rfl,hb0⟩
theorem mL(x:PV)(k f e b wa p s q bl v:Int)(ms:Value)(w:World):
  Calls pG 239 #[.agg #[I T x.pr,I T x.ac,I T x.pm,I T x.st],.agg #[I T k,I T f,I T e,I T b,I T wa,I T p,I T s,I T q,I T bl,I T v,ms]] w fun r w'=>r=.returned (.agg #[I T (x.after k b p s).pr,I T (x.after k b p s).ac,I T (x.after k b p s).pm,I T (x.after k b p s).st])/\Below w.heap.size w w':=by
 by_cases hk:k=3
 ·subst hk;have e1:x.after 3 b p s=⟨b,b,p,s⟩:=rfl;rw[e1];go_enter Tryz.func239,Tryz.ntmps239;go_wp2;refine bodyPost_ret (v:=.agg #[I T b,I T b,I T p,I T s]) (by simp[results,Tryz.results239,go_sem]) rfl ⟨rfl,?_⟩;exact(((Below.refl w.heap.size w).alloc (Nat.le_refl _) _).alloc (by simp) _).alloc (by simp;omega) _
 ·have e1:x.after k b p s=⟨b,x.ac,x.pm,x.st⟩:=by unfold PV.after;rw[if_neg hk]
  have hq:(k==3)=false:=by simpa using hk
  rw[e1];clear hk e1;go_enter Tryz.func239,Tryz.ntmps239;go_wp2;refine bodyPost_ret (v:=.agg #[I T b,I T x.ac,I T x.pm,I T x.st]) (by simp[results,Tryz.results239,go_sem]) rfl ⟨rfl,?_⟩;exact(((Below.refl w.heap.size w).alloc (Nat.le_refl _) _).alloc (by simp) _).alloc (by simp;omega) _
theorem tQ{w:World}{base:Nat}{e:TypeId}{size n Mp:Nat}{v:Value}{xs:List Value}{l:List (Int×PV)}(h:w.ownsRow base e size v n xs)(hv:VM w Mp l):v.ownBlock≠some Mp:=by
 intro hh;rcases h.2 with⟨h0,_⟩|⟨g9,cap9,cur9,h8,_,hg9,_⟩
 ·rw[h0]at hh;simp[Value.ownBlock]at hh
 ·rw[h8]at hh;simp[Value.ownBlock]at hh;subst hh;obtain⟨es,clk,h7,_⟩:=hv.obj;rw[h7]at hg9;simp at hg9
theorem VM.lookE{w:World}{B:Nat}{l:List (Int×PV)}(h:VM w B l)(e:Int):∀w',w'.heap[B]?=w.heap[B]?->(Instr.lookup 193 (.map (Y B)) (.agg #[I T e]) false).run pG w'=.ok (.agg #[I T (aE l e).pr,I T (aE l e).ac,I T (aE l e).pm,I T (aE l e).st]) w':=fun w' hw=>(h.same hw).look e
theorem zT(low St:Nat)(d:SD)(vr:Value)(Mp D:Nat)(f e b wa p s q bl v:Int)(ms:Value)(w:World)(h:aF w low St d vr Mp D):
  Calls pG 220 #[P0 (Y ⟨St,0,Z⟩),.agg #[I T 1,I T f,I T e,I T b,I T wa,I T p,I T s,I T q,I T bl,I T v,ms]] w fun r w'=>r=.returned (.tuple #[])/\aF w' low St {d with vts:=fB d.vts e ((aE d.vts e).after 1 b p s)} vr Mp D/\aK (fun g=>g=Mp) w w':=by
 have hb0:=(Below.refl w.heap.size w).alloc (Nat.le_refl _) (G #[I T 1,I T f,I T e,I T b,I T wa,I T p,I T s,I T q,I T bl,I T v,ms] 136);have HM:=aA (aB.new w #[I T 1,I T f,I T e,I T b,I T wa,I T p,I T s,I T q,I T bl,I T v,ms] 136);have HS:=aA (h.later hb0);have HB:=aA hb0;clear h hb0;go_enter Tryz.func220,Tryz.ntmps220
 go_upto_region 1 with fail
 generalize (w.alloc (G #[I T 1,I T f,I T e,I T b,I T wa,I T p,I T s,I T q,I T bl,I T v,ms] 136))=W0 at*;have c2:=HS.out.blk.cell 2;simp at c2;obtain⟨m0,m1,m2,m3,m4,m5,m6,m7,m8,m9,m10⟩:=HM.out.c11;have hSt:=HS.out.blk.lt;have hM:=HM.out.lt;have hMp:=HS.out.vot.lt;have hlk:=HS.out.vot.lookE e;have hlk0:=HS.out.vot.lookE e W0.drew rfl;clear hlk
 go_wp2_with fail
 have hMpSt:=HS.out.vot.ne HS.out.blk;have hMpM:=HS.out.vot.ne HM.out;refine eN (S:=(fun w'=>w'.cell? ⟨St,2,Z⟩=Y (Value.map (Y Mp))/\w'.cell? ⟨w.heap.size,0,Z⟩=Y (I T 1)/\w'.cell? ⟨w.heap.size,1,Z⟩=Y (I T f)/\w'.cell? ⟨w.heap.size,2,Z⟩=Y (I T e)/\w'.cell? ⟨w.heap.size,3,Z⟩=Y (I T b)/\w'.cell? ⟨w.heap.size,4,Z⟩=Y (I T wa)/\w'.cell? ⟨w.heap.size,5,Z⟩=Y (I T p)/\w'.cell? ⟨w.heap.size,6,Z⟩=Y (I T s)/\w'.cell? ⟨w.heap.size,7,Z⟩=Y (I T q)/\w'.cell? ⟨w.heap.size,8,Z⟩=Y (I T bl)/\w'.cell? ⟨w.heap.size,9,Z⟩=Y (I T v)/\w'.cell? ⟨w.heap.size,10,Z⟩=Y (ms))) fun _=>?_;refine tk 0 ?_;refine tk 1 ?_;refine tk 2 ?_;refine tk 3 ?_;refine tk 4 ?_;refine tk 5 ?_;refine tk 6 ?_;refine tk 7 ?_;refine tk 8 ?_;refine tk 9 ?_;refine tk 10 ?_;refine tk 11 ?_;refine tk 12 ?_;refine tk 13 ?_;refine tk 15 ?_;refine aG 14 fun K hK=>?_
 (try go_simp)
 refine k1 hK fun _=>?_;clear hK K;refine aG 16 fun K hK=>?_
 (try go_simp)
 go_at_call 239
 refine(mL (aE d.vts e) 1 f e b wa p s q bl v ms _).mono ?_;rintro r w3 ⟨rfl,hb3⟩;have z0:=(hb3.cell (p:=⟨St,2,Z⟩) hSt).trans c2;have z1:=(hb3.cell (p:=⟨w.heap.size,0,Z⟩) hM).trans m0;have z2:=(hb3.cell (p:=⟨w.heap.size,1,Z⟩) hM).trans m1;have z3:=(hb3.cell (p:=⟨w.heap.size,2,Z⟩) hM).trans m2;have z4:=(hb3.cell (p:=⟨w.heap.size,3,Z⟩) hM).trans m3;have z5:=(hb3.cell (p:=⟨w.heap.size,4,Z⟩) hM).trans m4;have z6:=(hb3.cell (p:=⟨w.heap.size,5,Z⟩) hM).trans m5;have z7:=(hb3.cell (p:=⟨w.heap.size,6,Z⟩) hM).trans m6;have z8:=(hb3.cell (p:=⟨w.heap.size,7,Z⟩) hM).trans m7;have z9:=(hb3.cell (p:=⟨w.heap.size,8,Z⟩) hM).trans m8;have z10:=(hb3.cell (p:=⟨w.heap.size,9,Z⟩) hM).trans m9;have z11:=(hb3.cell (p:=⟨w.heap.size,10,Z⟩) hM).trans m10;obtain⟨w4,hput,hv4,hbt4⟩:=((HS.out.vot.same (w':=w3) (hb3.block Mp hMp))).put e ((aE d.vts e).after 1 b p s);unfold dC at hput;have HV4:=aA hv4;have HBT4:=aA hbt4;have y0:=(hbt4.cell (p:=⟨St,2,Z⟩) (Ne.symm hMpSt)).trans z0;have y1:=(hbt4.cell (p:=⟨w.heap.size,0,Z⟩) (Ne.symm hMpM)).trans z1;have y2:=(hbt4.cell (p:=⟨w.heap.size,1,Z⟩) (Ne.symm hMpM)).trans z2;have y3:=(hbt4.cell (p:=⟨w.heap.size,2,Z⟩) (Ne.symm hMpM)).trans z3;have y4:=(hbt4.cell (p:=⟨w.heap.size,3,Z⟩) (Ne.symm hMpM)).trans z4;have y5:=(hbt4.cell (p:=⟨w.heap.size,4,Z⟩) (Ne.symm hMpM)).trans z5;have y6:=(hbt4.cell (p:=⟨w.heap.size,5,Z⟩) (Ne.symm hMpM)).trans z6;have y7:=(hbt4.cell (p:=⟨w.heap.size,6,Z⟩) (Ne.symm hMpM)).trans z7;have y8:=(hbt4.cell (p:=⟨w.heap.size,7,Z⟩) (Ne.symm hMpM)).trans z8;have y9:=(hbt4.cell (p:=⟨w.heap.size,8,Z⟩) (Ne.symm hMpM)).trans z9;have y10:=(hbt4.cell (p:=⟨w.heap.size,9,Z⟩) (Ne.symm hMpM)).trans z10;have y11:=(hbt4.cell (p:=⟨w.heap.size,10,Z⟩) (Ne.symm hMpM)).trans z11;clear hv4 hbt4;refine k1 hK fun _=>?_;clear hK K;refine aG 17 fun K hK=>?_
 (try go_simp)
 refine k1 hK fun _=>?_;clear hK K;refine dn ?_;go_wp2;have HS3:=HS.out.drew.later hb3;have hr3:=tQ HS3.rcs HS3.vot;refine bodyPost_end (v:=.tuple #[]) (by simp[results,Tryz.results220,go_sem]) rfl ⟨rfl,⟨HS3.blk.same (HBT4.out.block St (Ne.symm hMpSt)),aH HS3.rcs (fun g hg=>HBT4.out.block g (fun hh=>hr3 (by rw[←hh];exact hg))),HV4.out⟩,?_⟩;exact(aK.of_below (A:=fun _=>False) (HB.out.drew.trans (hb3.mono HB.out.size))).trans (B:=fun g=>g=Mp) ⟨HBT4.out.os,HBT4.out.tape,HBT4.out.output,by rw[HBT4.out.size];exact Nat.le_refl _,fun k _ hk=>HBT4.out.block k hk⟩ (fun _ hh=>hh.elim) (fun _ _ hh=>hh)
theorem zU(low St:Nat)(d:SD)(vr:Value)(Mp D:Nat)(f e b wa p s q bl v:Int)(ms:Value)(w:World)(h:aF w low St d vr Mp D):
  Calls pG 220 #[P0 (Y ⟨St,0,Z⟩),.agg #[I T 3,I T f,I T e,I T b,I T wa,I T p,I T s,I T q,I T bl,I T v,ms]] w fun r w'=>r=.returned (.tuple #[])/\aF w' low St {d with vts:=fB d.vts e ((aE d.vts e).after 3 b p s)} vr Mp D/\aK (fun g=>g=Mp) w w':=by
 have hb0:=(Below.refl w.heap.size w).alloc (Nat.le_refl _) (G #[I T 3,I T f,I T e,I T b,I T wa,I T p,I T s,I T q,I T bl,I T v,ms] 136);have HM:=aA (aB.new w #[I T 3,I T f,I T e,I T b,I T wa,I T p,I T s,I T q,I T bl,I T v,ms] 136);have HS:=aA (h.later hb0);have HB:=aA hb0;clear h hb0;go_enter Tryz.func220,Tryz.ntmps220
 go_upto_region 1 with fail
 generalize (w.alloc (G #[I T 3,I T f,I T e,I T b,I T wa,I T p,I T s,I T q,I T bl,I T v,ms] 136))=W0 at*;have c2:=HS.out.blk.cell 2;simp at c2;obtain⟨m0,m1,m2,m3,m4,m5,m6,m7,m8,m9,m10⟩:=HM.out.c11;have hSt:=HS.out.blk.lt;have hM:=HM.out.lt;have hMp:=HS.out.vot.lt;have hlk:=HS.out.vot.lookE e;have hlk0:=HS.out.vot.lookE e W0.drew rfl;clear hlk
 go_wp2_with fail
 have hMpSt:=HS.out.vot.ne HS.out.blk;have hMpM:=HS.out.vot.ne HM.out;refine eN (S:=(fun w'=>w'.cell? ⟨St,2,Z⟩=Y (Value.map (Y Mp))/\w'.cell? ⟨w.heap.size,0,Z⟩=Y (I T 3)/\w'.cell? ⟨w.heap.size,1,Z⟩=Y (I T f)/\w'.cell? ⟨w.heap.size,2,Z⟩=Y (I T e)/\w'.cell? ⟨w.heap.size,3,Z⟩=Y (I T b)/\w'.cell? ⟨w.heap.size,4,Z⟩=Y (I T wa)/\w'.cell? ⟨w.heap.size,5,Z⟩=Y (I T p)/\w'.cell? ⟨w.heap.size,6,Z⟩=Y (I T s)/\w'.cell? ⟨w.heap.size,7,Z⟩=Y (I T q)/\w'.cell? ⟨w.heap.size,8,Z⟩=Y (I T bl)/\w'.cell? ⟨w.heap.size,9,Z⟩=Y (I T v)/\w'.cell? ⟨w.heap.size,10,Z⟩=Y (ms))) fun _=>?_;refine tk 0 ?_;refine tk 1 ?_;refine tk 2 ?_;refine tk 3 ?_;refine tk 4 ?_;refine tk 5 ?_;refine tk 6 ?_;refine tk 7 ?_;refine tk 8 ?_;refine tk 9 ?_;refine tk 10 ?_;refine tk 11 ?_;refine tk 12 ?_;refine tk 13 ?_;refine tk 15 ?_;refine aG 14 fun K hK=>?_
 (try go_simp)
 refine k1 hK fun _=>?_;clear hK K;refine aG 16 fun K hK=>?_
 (try go_simp)
 go_at_call 239
 refine(mL (aE d.vts e) 3 f e b wa p s q bl v ms _).mono ?_;rintro r w3 ⟨rfl,hb3⟩;have z0:=(hb3.cell (p:=⟨St,2,Z⟩) hSt).trans c2;have z1:=(hb3.cell (p:=⟨w.heap.size,0,Z⟩) hM).trans m0;have z2:=(hb3.cell (p:=⟨w.heap.size,1,Z⟩) hM).trans m1;have z3:=(hb3.cell (p:=⟨w.heap.size,2,Z⟩) hM).trans m2;have z4:=(hb3.cell (p:=⟨w.heap.size,3,Z⟩) hM).trans m3;have z5:=(hb3.cell (p:=⟨w.heap.size,4,Z⟩) hM).trans m4;have z6:=(hb3.cell (p:=⟨w.heap.size,5,Z⟩) hM).trans m5;have z7:=(hb3.cell (p:=⟨w.heap.size,6,Z⟩) hM).trans m6;have z8:=(hb3.cell (p:=⟨w.heap.size,7,Z⟩) hM).trans m7;have z9:=(hb3.cell (p:=⟨w.heap.size,8,Z⟩) hM).trans m8;have z10:=(hb3.cell (p:=⟨w.heap.size,9,Z⟩) hM).trans m9;have z11:=(hb3.cell (p:=⟨w.heap.size,10,Z⟩) hM).trans m10;obtain⟨w4,hput,hv4,hbt4⟩:=((HS.out.vot.same (w':=w3) (hb3.block Mp hMp))).put e ((aE d.vts e).after 3 b p s);unfold dC at hput;have HV4:=aA hv4;have HBT4:=aA hbt4;have y0:=(hbt4.cell (p:=⟨St,2,Z⟩) (Ne.symm hMpSt)).trans z0;have y1:=(hbt4.cell (p:=⟨w.heap.size,0,Z⟩) (Ne.symm hMpM)).trans z1;have y2:=(hbt4.cell (p:=⟨w.heap.size,1,Z⟩) (Ne.symm hMpM)).trans z2;have y3:=(hbt4.cell (p:=⟨w.heap.size,2,Z⟩) (Ne.symm hMpM)).trans z3;have y4:=(hbt4.cell (p:=⟨w.heap.size,3,Z⟩) (Ne.symm hMpM)).trans z4;have y5:=(hbt4.cell (p:=⟨w.heap.size,4,Z⟩) (Ne.symm hMpM)).trans z5;have y6:=(hbt4.cell (p:=⟨w.heap.size,5,Z⟩) (Ne.symm hMpM)).trans z6;have y7:=(hbt4.cell (p:=⟨w.heap.size,6,Z⟩) (Ne.symm hMpM)).trans z7;have y8:=(hbt4.cell (p:=⟨w.heap.size,7,Z⟩) (Ne.symm hMpM)).trans z8;have y9:=(hbt4.cell (p:=⟨w.heap.size,8,Z⟩) (Ne.symm hMpM)).trans z9;have y10:=(hbt4.cell (p:=⟨w.heap.size,9,Z⟩) (Ne.symm hMpM)).trans z10;have y11:=(hbt4.cell (p:=⟨w.heap.size,10,Z⟩) (Ne.symm hMpM)).trans z11;clear hv4 hbt4;refine k1 hK fun _=>?_;clear hK K;refine aG 17 fun K hK=>?_
 (try go_simp)
 refine k1 hK fun _=>?_;clear hK K;refine dn ?_;go_wp2;have HS3:=HS.out.drew.later hb3;have hr3:=tQ HS3.rcs HS3.vot;refine bodyPost_end (v:=.tuple #[]) (by simp[results,Tryz.results220,go_sem]) rfl ⟨rfl,⟨HS3.blk.same (HBT4.out.block St (Ne.symm hMpSt)),aH HS3.rcs (fun g hg=>HBT4.out.block g (fun hh=>hr3 (by rw[←hh];exact hg))),HV4.out⟩,?_⟩;exact(aK.of_below (A:=fun _=>False) (HB.out.drew.trans (hb3.mono HB.out.size))).trans (B:=fun g=>g=Mp) ⟨HBT4.out.os,HBT4.out.tape,HBT4.out.output,by rw[HBT4.out.size];exact Nat.le_refl _,fun k _ hk=>HBT4.out.block k hk⟩ (fun _ hh=>hh.elim) (fun _ _ hh=>hh)
theorem zV(low St:Nat)(d:SD)(vr:Value)(Mp D:Nat)(f e b wa p s q bl v:Int)(ms:Value)(w:World)(h:aF w low St d vr Mp D)(hid:0<=d.id/\d.id<5)(hlw:low<=w.heap.size)(hlt:d.recs.length<=100000000)(he:0<=e/\e<=1000000000000):
  Calls pG 220 #[P0 (Y ⟨St,0,Z⟩),.agg #[I T 6,I T f,I T e,I T b,I T wa,I T p,I T s,I T q,I T bl,I T v,ms]] w fun r w'=>r=.returned (.tuple #[])/\∃vr',aF w' low St (d.learn (e+1) p s) vr' Mp D/\aK (fun g=>g=St∨g=Mp∨vr.ownBlock=Y g) w w'/\(∀g,vr'.ownBlock=Y g->vr.ownBlock=Y g∨w.heap.size<=g):=by
 have hb0:=(Below.refl w.heap.size w).alloc (Nat.le_refl _) (G #[I T 6,I T f,I T e,I T b,I T wa,I T p,I T s,I T q,I T bl,I T v,ms] 136);have HM:=aA (aB.new w #[I T 6,I T f,I T e,I T b,I T wa,I T p,I T s,I T q,I T bl,I T v,ms] 136);have HS:=aA (h.later hb0);have HB:=aA hb0;have hSt0:=h.blk.lt;have hStM:St≠w.heap.size:=by omega
 clear h hb0;go_enter Tryz.func220,Tryz.ntmps220
 go_upto_region 1 with fail
 generalize (w.alloc (G #[I T 6,I T f,I T e,I T b,I T wa,I T p,I T s,I T q,I T bl,I T v,ms] 136))=W0 at*;have c2:=HS.out.blk.cell 2;simp at c2;obtain⟨m0,m1,m2,m3,m4,m5,m6,m7,m8,m9,m10⟩:=HM.out.c11;have hSt:=HS.out.blk.lt;have hM:=HM.out.lt
 go_wp2_with fail
 refine(nR 6 f e b wa p s q bl v ms W0 he.1 he.2).mono ?_;rintro r w1 ⟨rfl,hb1⟩;have HS1:=aA (HS.out.later hb1);have HB1:=aA (HB.out.trans (hb1.mono HB.out.size));clear hb1
 go_wp2_with fail
 refine(zS low St d vr Mp D (e+1) p s w1 HS1.out hid (Nat.le_trans hlw HB1.out.size) hlt ⟨by omega,by omega⟩).mono ?_;rintro r w2 ⟨rfl,vr',hs2,hk2,hl2⟩;have HL2:Hid (∀g,vr'.ownBlock=Y g->vr.ownBlock=Y g∨w.heap.size<=g):=fun g hg=>(hl2 g hg).imp id (fun h9=>Nat.le_trans HB1.out.size h9);clear hl2;have HS2:=aA hs2;have HK2:=aA ((aK.of_below (A:=fun _=>False) HB1.out).trans hk2 (fun _ hh=>hh.elim) (fun _ _ hh=>hh));clear hs2 hk2;go_wp2;exact bodyPost_end (v:=.tuple #[]) (by simp[results,Tryz.results220,go_sem]) rfl ⟨rfl,vr',HS2.out,HK2.out,HL2.out⟩
theorem D0(low St:Nat)(d:SD)(vr:Value)(Mp D:Nat)(f e b wa p s q v:Int)(ms:Value)(w:World)(h:aF w low St d vr Mp D):
  Calls pG 220 #[P0 (Y ⟨St,0,Z⟩),.agg #[I T 7,I T f,I T e,I T b,I T wa,I T p,I T s,I T q,I T 0,I T v,ms]] w fun r w'=>r=.returned (.tuple #[])/\aF w' low St {d with seen:=e,last:=q,b0:=v} vr Mp D/\aK (fun g=>g=St) w w':=by
 have hb0:=(Below.refl w.heap.size w).alloc (Nat.le_refl _) (G #[I T 7,I T f,I T e,I T b,I T wa,I T p,I T s,I T q,I T 0,I T v,ms] 136);have HM:=aA (aB.new w #[I T 7,I T f,I T e,I T b,I T wa,I T p,I T s,I T q,I T 0,I T v,ms] 136);have HS:=aA (h.later hb0);have HB:=aA hb0;have hSt0:=h.blk.lt;have hStM:St≠w.heap.size:=by omega
 clear h hb0;go_enter Tryz.func220,Tryz.ntmps220
 go_upto_region 1 with fail
 generalize (w.alloc (G #[I T 7,I T f,I T e,I T b,I T wa,I T p,I T s,I T q,I T 0,I T v,ms] 136))=W0 at*;have c0:=HS.out.blk.cell 0;have c1:=HS.out.blk.cell 1;have c2:=HS.out.blk.cell 2;have c3:=HS.out.blk.cell 3;have c4:=HS.out.blk.cell 4;have c5:=HS.out.blk.cell 5;have c6:=HS.out.blk.cell 6;have c7:=HS.out.blk.cell 7;have c8:=HS.out.blk.cell 8;have c9:=HS.out.blk.cell 9;have c10:=HS.out.blk.cell 10;have c11:=HS.out.blk.cell 11;simp at c0 c1 c2 c3 c4 c5 c6 c7 c8 c9 c10 c11;have hf0:=HS.out.blk.free 0;have hf1:=HS.out.blk.free 1;have hf2:=HS.out.blk.free 2;have hf3:=HS.out.blk.free 3;have hf4:=HS.out.blk.free 4;have hf5:=HS.out.blk.free 5;have hf6:=HS.out.blk.free 6;have hf7:=HS.out.blk.free 7;have hf8:=HS.out.blk.free 8;have hf9:=HS.out.blk.free 9;have hf10:=HS.out.blk.free 10;have hf11:=HS.out.blk.free 11;obtain⟨m0,m1,m2,m3,m4,m5,m6,m7,m8,m9,m10⟩:=HM.out.c11;have hSt:=HS.out.blk.lt;have hM:=HM.out.lt;have hMpSt:=HS.out.vot.ne HS.out.blk
 go_upto_region 9 with fail
 go_region
 all_goals go_wp2
 all_goals
  have hbt:aD St W0 (((W0.setCell ⟨St,7,Z⟩ (I T e)).setCell ⟨St,8,Z⟩ (I T q)).setCell ⟨St,3,Z⟩ (I T v)):=((((aD.self2 St W0).set2 7 _).set2 8 _).set2 3 _);have hbk:aB (((W0.setCell ⟨St,7,Z⟩ (I T e)).setCell ⟨St,8,Z⟩ (I T q)).setCell ⟨St,3,Z⟩ (I T v)) St #[I T d.id,vr,Value.map (Y Mp),I T v,I T d.b1,I T d.b2,I T d.b3,I T e,I T q,P0 (Y ⟨D,0,Z⟩),I T d.lines,bool true] 200:=by have h9:=((HS.out.blk.set 7 (I T e)).set 8 (I T q)).set 3 (I T v);simpa using h9
  have hrX:=aW HS.out.rcs HS.out.blk.blk (by decide);refine bodyPost_end (v:=.tuple #[]) (by simp[results,Tryz.results220,go_sem]) rfl ⟨rfl,⟨⟨hbk.blk⟩,aH HS.out.rcs (fun g hg=>hbt.block g (fun hh=>hrX (by rw[←hh];exact hg))),HS.out.vot.same (hbt.block Mp hMpSt)⟩,?_⟩;exact(aK.of_below (A:=fun _=>False) HB.out).trans (B:=fun g=>g=St) ⟨hbt.os,hbt.tape,hbt.output,by exact Nat.le_of_eq hbt.size.symm,fun k _ hk=>hbt.block k hk⟩ (fun _ hh=>hh.elim) (fun _ _ hh=>hh)
theorem D1(low St:Nat)(d:SD)(vr:Value)(Mp D:Nat)(f e b wa p s q v:Int)(ms:Value)(w:World)(h:aF w low St d vr Mp D):
  Calls pG 220 #[P0 (Y ⟨St,0,Z⟩),.agg #[I T 7,I T f,I T e,I T b,I T wa,I T p,I T s,I T q,I T 1,I T v,ms]] w fun r w'=>r=.returned (.tuple #[])/\aF w' low St {d with seen:=e,last:=q,b1:=v} vr Mp D/\aK (fun g=>g=St) w w':=by
 have hb0:=(Below.refl w.heap.size w).alloc (Nat.le_refl _) (G #[I T 7,I T f,I T e,I T b,I T wa,I T p,I T s,I T q,I T 1,I T v,ms] 136);have HM:=aA (aB.new w #[I T 7,I T f,I T e,I T b,I T wa,I T p,I T s,I T q,I T 1,I T v,ms] 136);have HS:=aA (h.later hb0);have HB:=aA hb0;have hSt0:=h.blk.lt;have hStM:St≠w.heap.size:=by omega
 clear h hb0;go_enter Tryz.func220,Tryz.ntmps220
 go_upto_region 1 with fail
 generalize (w.alloc (G #[I T 7,I T f,I T e,I T b,I T wa,I T p,I T s,I T q,I T 1,I T v,ms] 136))=W0 at*;have c0:=HS.out.blk.cell 0;have c1:=HS.out.blk.cell 1;have c2:=HS.out.blk.cell 2;have c3:=HS.out.blk.cell 3;have c4:=HS.out.blk.cell 4;have c5:=HS.out.blk.cell 5;have c6:=HS.out.blk.cell 6;have c7:=HS.out.blk.cell 7;have c8:=HS.out.blk.cell 8;have c9:=HS.out.blk.cell 9;have c10:=HS.out.blk.cell 10;have c11:=HS.out.blk.cell 11;simp at c0 c1 c2 c3 c4 c5 c6 c7 c8 c9 c10 c11;have hf0:=HS.out.blk.free 0;have hf1:=HS.out.blk.free 1;have hf2:=HS.out.blk.free 2;have hf3:=HS.out.blk.free 3;have hf4:=HS.out.blk.free 4;have hf5:=HS.out.blk.free 5;have hf6:=HS.out.blk.free 6;have hf7:=HS.out.blk.free 7;have hf8:=HS.out.blk.free 8;have hf9:=HS.out.blk.free 9;have hf10:=HS.out.blk.free 10;have hf11:=HS.out.blk.free 11;obtain⟨m0,m1,m2,m3,m4,m5,m6,m7,m8,m9,m10⟩:=HM.out.c11;have hSt:=HS.out.blk.lt;have hM:=HM.out.lt;have hMpSt:=HS.out.vot.ne HS.out.blk
 go_upto_region 9 with fail
 go_region
 all_goals go_wp2
 all_goals
  have hbt:aD St W0 (((W0.setCell ⟨St,7,Z⟩ (I T e)).setCell ⟨St,8,Z⟩ (I T q)).setCell ⟨St,4,Z⟩ (I T v)):=((((aD.self2 St W0).set2 7 _).set2 8 _).set2 4 _);have hbk:aB (((W0.setCell ⟨St,7,Z⟩ (I T e)).setCell ⟨St,8,Z⟩ (I T q)).setCell ⟨St,4,Z⟩ (I T v)) St #[I T d.id,vr,Value.map (Y Mp),I T d.b0,I T v,I T d.b2,I T d.b3,I T e,I T q,P0 (Y ⟨D,0,Z⟩),I T d.lines,bool true] 200:=by have h9:=((HS.out.blk.set 7 (I T e)).set 8 (I T q)).set 4 (I T v);simpa using h9
  have hrX:=aW HS.out.rcs HS.out.blk.blk (by decide);refine bodyPost_end (v:=.tuple #[]) (by simp[results,Tryz.results220,go_sem]) rfl ⟨rfl,⟨⟨hbk.blk⟩,aH HS.out.rcs (fun g hg=>hbt.block g (fun hh=>hrX (by rw[←hh];exact hg))),HS.out.vot.same (hbt.block Mp hMpSt)⟩,?_⟩;exact(aK.of_below (A:=fun _=>False) HB.out).trans (B:=fun g=>g=St) ⟨hbt.os,hbt.tape,hbt.output,by exact Nat.le_of_eq hbt.size.symm,fun k _ hk=>hbt.block k hk⟩ (fun _ hh=>hh.elim) (fun _ _ hh=>hh)
theorem D2(low St:Nat)(d:SD)(vr:Value)(Mp D:Nat)(f e b wa p s q v:Int)(ms:Value)(w:World)(h:aF w low St d vr Mp D):
  Calls pG 220 #[P0 (Y ⟨St,0,Z⟩),.agg #[I T 7,I T f,I T e,I T b,I T wa,I T p,I T s,I T q,I T 2,I T v,ms]] w fun r w'=>r=.returned (.tuple #[])/\aF w' low St {d with seen:=e,last:=q,b2:=v} vr Mp D/\aK (fun g=>g=St) w w':=by
 have hb0:=(Below.refl w.heap.size w).alloc (Nat.le_refl _) (G #[I T 7,I T f,I T e,I T b,I T wa,I T p,I T s,I T q,I T 2,I T v,ms] 136);have HM:=aA (aB.new w #[I T 7,I T f,I T e,I T b,I T wa,I T p,I T s,I T q,I T 2,I T v,ms] 136);have HS:=aA (h.later hb0);have HB:=aA hb0;have hSt0:=h.blk.lt;have hStM:St≠w.heap.size:=by omega
 clear h hb0;go_enter Tryz.func220,Tryz.ntmps220
 go_upto_region 1 with fail
 generalize (w.alloc (G #[I T 7,I T f,I T e,I T b,I T wa,I T p,I T s,I T q,I T 2,I T v,ms] 136))=W0 at*;have c0:=HS.out.blk.cell 0;have c1:=HS.out.blk.cell 1;have c2:=HS.out.blk.cell 2;have c3:=HS.out.blk.cell 3;have c4:=HS.out.blk.cell 4;have c5:=HS.out.blk.cell 5;have c6:=HS.out.blk.cell 6;have c7:=HS.out.blk.cell 7;have c8:=HS.out.blk.cell 8;have c9:=HS.out.blk.cell 9;have c10:=HS.out.blk.cell 10;have c11:=HS.out.blk.cell 11;simp at c0 c1 c2 c3 c4 c5 c6 c7 c8 c9 c10 c11;have hf0:=HS.out.blk.free 0;have hf1:=HS.out.blk.free 1;have hf2:=HS.out.blk.free 2;have hf3:=HS.out.blk.free 3;have hf4:=HS.out.blk.free 4;have hf5:=HS.out.blk.free 5;have hf6:=HS.out.blk.free 6;have hf7:=HS.out.blk.free 7;have hf8:=HS.out.blk.free 8;have hf9:=HS.out.blk.free 9;have hf10:=HS.out.blk.free 10;have hf11:=HS.out.blk.free 11;obtain⟨m0,m1,m2,m3,m4,m5,m6,m7,m8,m9,m10⟩:=HM.out.c11;have hSt:=HS.out.blk.lt;have hM:=HM.out.lt;have hMpSt:=HS.out.vot.ne HS.out.blk
 go_upto_region 9 with fail
 go_region
 all_goals go_wp2
 all_goals
  have hbt:aD St W0 (((W0.setCell ⟨St,7,Z⟩ (I T e)).setCell ⟨St,8,Z⟩ (I T q)).setCell ⟨St,5,Z⟩ (I T v)):=((((aD.self2 St W0).set2 7 _).set2 8 _).set2 5 _);have hbk:aB (((W0.setCell ⟨St,7,Z⟩ (I T e)).setCell ⟨St,8,Z⟩ (I T q)).setCell ⟨St,5,Z⟩ (I T v)) St #[I T d.id,vr,Value.map (Y Mp),I T d.b0,I T d.b1,I T v,I T d.b3,I T e,I T q,P0 (Y ⟨D,0,Z⟩),I T d.lines,bool true] 200:=by have h9:=((HS.out.blk.set 7 (I T e)).set 8 (I T q)).set 5 (I T v);simpa using h9
  have hrX:=aW HS.out.rcs HS.out.blk.blk (by decide);refine bodyPost_end (v:=.tuple #[]) (by simp[results,Tryz.results220,go_sem]) rfl ⟨rfl,⟨⟨hbk.blk⟩,aH HS.out.rcs (fun g hg=>hbt.block g (fun hh=>hrX (by rw[←hh];exact hg))),HS.out.vot.same (hbt.block Mp hMpSt)⟩,?_⟩;exact(aK.of_below (A:=fun _=>False) HB.out).trans (B:=fun g=>g=St) ⟨hbt.os,hbt.tape,hbt.output,by exact Nat.le_of_eq hbt.size.symm,fun k _ hk=>hbt.block k hk⟩ (fun _ hh=>hh.elim) (fun _ _ hh=>hh)
theorem D3(low St:Nat)(d:SD)(vr:Value)(Mp D:Nat)(f e b wa p s q v:Int)(ms:Value)(w:World)(h:aF w low St d vr Mp D):
  Calls pG 220 #[P0 (Y ⟨St,0,Z⟩),.agg #[I T 7,I T f,I T e,I T b,I T wa,I T p,I T s,I T q,I T 3,I T v,ms]] w fun r w'=>r=.returned (.tuple #[])/\aF w' low St {d with seen:=e,last:=q,b3:=v} vr Mp D/\aK (fun g=>g=St) w w':=by
 have hb0:=(Below.refl w.heap.size w).alloc (Nat.le_refl _) (G #[I T 7,I T f,I T e,I T b,I T wa,I T p,I T s,I T q,I T 3,I T v,ms] 136);have HM:=aA (aB.new w #[I T 7,I T f,I T e,I T b,I T wa,I T p,I T s,I T q,I T 3,I T v,ms] 136);have HS:=aA (h.later hb0);have HB:=aA hb0;have hSt0:=h.blk.lt;have hStM:St≠w.heap.size:=by omega
 clear h hb0;go_enter Tryz.func220,Tryz.ntmps220
 go_upto_region 1 with fail
 generalize (w.alloc (G #[I T 7,I T f,I T e,I T b,I T wa,I T p,I T s,I T q,I T 3,I T v,ms] 136))=W0 at*;have c0:=HS.out.blk.cell 0;have c1:=HS.out.blk.cell 1;have c2:=HS.out.blk.cell 2;have c3:=HS.out.blk.cell 3;have c4:=HS.out.blk.cell 4;have c5:=HS.out.blk.cell 5;have c6:=HS.out.blk.cell 6;have c7:=HS.out.blk.cell 7;have c8:=HS.out.blk.cell 8;have c9:=HS.out.blk.cell 9;have c10:=HS.out.blk.cell 10;have c11:=HS.out.blk.cell 11;simp at c0 c1 c2 c3 c4 c5 c6 c7 c8 c9 c10 c11;have hf0:=HS.out.blk.free 0;have hf1:=HS.out.blk.free 1;have hf2:=HS.out.blk.free 2;have hf3:=HS.out.blk.free 3;have hf4:=HS.out.blk.free 4;have hf5:=HS.out.blk.free 5;have hf6:=HS.out.blk.free 6;have hf7:=HS.out.blk.free 7;have hf8:=HS.out.blk.free 8;have hf9:=HS.out.blk.free 9;have hf10:=HS.out.blk.free 10;have hf11:=HS.out.blk.free 11;obtain⟨m0,m1,m2,m3,m4,m5,m6,m7,m8,m9,m10⟩:=HM.out.c11;have hSt:=HS.out.blk.lt;have hM:=HM.out.lt;have hMpSt:=HS.out.vot.ne HS.out.blk
 go_upto_region 9 with fail
 go_region
 all_goals go_wp2
 all_goals
  have hbt:aD St W0 (((W0.setCell ⟨St,7,Z⟩ (I T e)).setCell ⟨St,8,Z⟩ (I T q)).setCell ⟨St,6,Z⟩ (I T v)):=((((aD.self2 St W0).set2 7 _).set2 8 _).set2 6 _);have hbk:aB (((W0.setCell ⟨St,7,Z⟩ (I T e)).setCell ⟨St,8,Z⟩ (I T q)).setCell ⟨St,6,Z⟩ (I T v)) St #[I T d.id,vr,Value.map (Y Mp),I T d.b0,I T d.b1,I T d.b2,I T v,I T e,I T q,P0 (Y ⟨D,0,Z⟩),I T d.lines,bool true] 200:=by have h9:=((HS.out.blk.set 7 (I T e)).set 8 (I T q)).set 6 (I T v);simpa using h9
  have hrX:=aW HS.out.rcs HS.out.blk.blk (by decide);refine bodyPost_end (v:=.tuple #[]) (by simp[results,Tryz.results220,go_sem]) rfl ⟨rfl,⟨⟨hbk.blk⟩,aH HS.out.rcs (fun g hg=>hbt.block g (fun hh=>hrX (by rw[←hh];exact hg))),HS.out.vot.same (hbt.block Mp hMpSt)⟩,?_⟩;exact(aK.of_below (A:=fun _=>False) HB.out).trans (B:=fun g=>g=St) ⟨hbt.os,hbt.tape,hbt.output,by exact Nat.le_of_eq hbt.size.symm,fun k _ hk=>hbt.block k hk⟩ (fun _ hh=>hh.elim) (fun _ _ hh=>hh)
end
end Go.Proofs.YtdcainmlcpafbaaGreatDoor
