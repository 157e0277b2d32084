import Derived.Test.YtdcainmlcpafbaaGreatDoorJ05
import Derived.ChangeKeysEq
import Derived.Laws.StructEq
import Derived.MapKept
import Derived.Deep.DeepCutAuto
set_option linter.all false
set_option maxHeartbeats 8000000
set_option maxRecDepth 20000
namespace Go.Proofs.YtdcainmlcpafbaaGreatDoor
open Go.RowKit
open Value renaming slice->J,pointer->P0
open Tryz
open Tryz renaming prog->pG
open IntKind renaming i64->T
open Option renaming none->Z,some->Y
open Obj renaming cells->G
open Value (bool)
def CG:∃f:Field,(Tryz.prog.fieldsOf 321).toList=[f]/\f.name = "epoch" /\f.type=3/\f.offset=0:=by
 have h:(Tryz.prog.fieldsOf 321).toList.map (λf=>(f.name,f.type,f.offset))=[("epoch",3,0)]:=kG;cases hl:(Tryz.prog.fieldsOf 321).toList with
 |nil=>rw[hl]at h;simp at h
 |cons f fs=>rw[hl]at h;simp only[List.map_cons,List.cons.injEq,Prod.mk.injEq,List.map_eq_nil_iff]at h;exact⟨f,by rw[h.2],h.1.1,h.1.2.1,h.1.2.2⟩
def wQ:Tryz.prog.underlying 321=Y (.struct (Tryz.prog.fieldsOf 321)):=kG
def L8:Tryz.prog.stoodInHeld 321=false:=kG
def EF(a:Int)(w:World):(part 3 #[I a] 0).run pG w=.ok (I a) w:=by have h:=jH (w:=w) #[Value.int .i64 a] 0 (I a);exact h rfl
def NC(a b:Int)(w:World):(Op.equal 321 (.agg #[I a]) (.agg #[I b])).run pG w=.ok (a==b) w:=by obtain⟨f,c,e,d,g⟩:=CG;show(Op.equalIn 10000 321 _ _).run _ _=_;rw[run_equalIn_struct w 9999 321 _ _ wQ L8,c];simp only[Op.eqFields,e,d,g,Sem.run_bind,Sem.run_ite,EF,Result.andThen_ok,run_equalIn_int w 9998 3 .i64 .i64 _ _ underlying3];by_cases h:a=b<;>simp[h]
def sL(b:Bool)(a:Int)(w:World):(Instr.checkKey b 10000 321 (.agg #[I a])).run pG w=.ok () w:=by obtain⟨f,c,e,d,g⟩:=CG;rw[show(10000:Nat)=9998+1+1 from rfl];unfold Instr.checkKey;simp only[Sem.run_bind,run_underlying wQ,Result.andThen_ok];rw[←Array.forIn_toList,c];simp only[List.forIn_cons,List.forIn_nil,e,d,g,Sem.run_bind,Sem.run_ite,EF,Result.andThen_ok];unfold Instr.checkKey;simp[run_underlying underlying3]
structure PV where
 pr:Int
 ac:Int
 pm:Int
 st:Int
def PV.after(x:PV)(k b p s:Int):PV:=if k=3 then⟨b,b,p,s⟩ else{x with pr:=b}
def iG(x:PV):Value:=.agg #[I x.pr,I x.ac,I x.pm,I x.st]
def gV(e:Int):Value:=.agg #[I e]
def pB(bs:List Nat)(clk:Nat):Prop:=(∀b∈bs,b<clk)/\bs.Nodup
def pB.snoc{f:List Nat}{c:Nat}(h:pB f c):pB (f++[c]) (c+1):=by
 refine⟨λb e=>?_,?_⟩
 ·rcases List.mem_append.1 e with d|d;·have:=h.1 b d;omega
  ·simp at d;omega
 ·rw[List.nodup_append];refine⟨h.2,sG,λa g b e=>?_⟩;simp at e;have:=h.1 a g;omega
def pB.sub{c cs:List Nat}{a:Nat}(h:pB c a)(hs:cs.Sublist c):pB cs a:=⟨λb d=>h.1 b (hs.subset d),hs.nodup h.2⟩
def zK(f:MapEntry->MapEntry)(a:∀x,(f x).born=x.born):∀(l:List MapEntry) (j:Nat),(l.modify j f).map (·.born)=l.map (·.born)
 | [],j=>by cases j<;>simp
 |x::l,0=>by simp[a]
 |x::l,j+1=>by simp[zK f a l j]
structure VM(w:World)(B:Nat)(l:List (Int×PV)):Prop where
 obj:∃(es:Array MapEntry) (clk:Nat),w.heap[B]?=Y (.map es clk)/\es.toList.map (λe=>(e.key,e.val))=l.map (λx=>(gV x.1,iG x.2))/\pB (es.toList.map (·.born)) clk
def iV(e:Int):List (Int×PV)->Nat->Option (Nat×Value)
 | [],_=>none
 |x::l,i=>if e=x.1 then some (i,iG x.2) else iV e l (i+1)
def dH(l:List (Int×PV))(e:Int):PV:=((l.find? (λx=>e==x.1)).map (·.2)).getD ⟨0,0,0,0⟩
def gA:List (Int×PV)->Int->PV->List (Int×PV)
 | [],e,x=>[(e,x)]
 |y::l,e,x=>if e=y.1 then(e,x)::l else y::gA l e x
def gM:List (Int×PV)->Int->List (Int×PV)
 | [],_=>[]
 |y::l,e=>if e=y.1 then l else y::gM l e
def vmGet_put(l:List (Int×PV))(e a:Int)(x:PV):dH (gA l e x) a=if a=e then x else dH l a:=by
 induction l with
 |nil=>unfold gA dH;by_cases h:a=e<;>simp[h]
 |cons y l ih=>
  unfold gA;by_cases h:e=y.1
  ·rw[if_pos h];by_cases h':a=e;·simp[dH,h']
   ·simp[dH,h',show¬a=y.1 by omega]
  ·rw[if_neg h];by_cases h':a=y.1;·simp[dH,h',show¬y.1=e by omega]
   ·have:∀b,dH (y::b) a=dH b a:=by intro b;simp[dH,h']
    rw[this,this,ih]
def vmGet_del(l:List (Int×PV))(e a:Int)(c:a≠e):dH (gM l e) a=dH l a:=by
 induction l with
 |nil=>rfl
 |cons y l ih=>
  unfold gM;by_cases h:e=y.1;·rw[if_pos h];simp[dH,show¬a=y.1 by omega]
  ·rw[if_neg h];by_cases h':a=y.1;·simp[dH,h']
   ·have:∀b,dH (y::b) a=dH b a:=by intro b;simp[dH,h']
    rw[this,this,ih]
def AK(l:List (Int×PV))(e:Int)(x:PV):(gA l e x).length<=l.length+1:=by
 induction l with
 |nil=>simp[gA]
 |cons y l ih=>unfold gA;split<;>simp<;>omega
def I5(l:List (Int×PV))(e:Int):(gM l e).length<=l.length:=by
 induction l with
 |nil=>simp[gM]
 |cons y l ih=>unfold gM;split<;>simp<;>omega
def L9(e:Int)(w:World):∀(es:List MapEntry) (l:List (Int×PV)) (i:Nat),es.map (λe=>(e.key,e.val))=l.map (λx=>(gV x.1,iG x.2))->(Instr.findAsking 321 (gV e) es i).run pG w=.ok (iV e l i) w:=by
 intro es
 induction es with
 | nil=>intro l i h;cases l with
  |nil=>simp[Instr.findAsking,iV]
  |cons y l=>simp at h
 |cons a es ih=>
  intro l i h
  cases l with
  |nil=>simp at h
  |cons y l=>
   simp only[List.map_cons,List.cons.injEq,Prod.mk.injEq]at h;simp only[Instr.findAsking,iV,Sem.run_bind,h.1.1,h.1.2];rw[show(Op.equal 321 (gV e) (gV y.1)).run pG w=.ok (e==y.1) w from NC e y.1 w];simp only[Result.andThen_ok]
   by_cases b:e=y.1
   ·simp[b]
   ·simp[b];exact ih l (i+1) h.2
def wH(e:Int)(w:World)(es:List MapEntry)(l:List (Int×PV))(h:es.map (λe=>(e.key,e.val))=l.map (λx=>(gV x.1,iG x.2))):(Instr.findKey 321 (gV e) es).run pG w=.ok (iV e l 0) w:=by
 unfold Instr.findKey;simp only[Sem.run_bind,run_underlying wQ,Result.andThen_ok]
 cases es with
 | nil=>cases l with
  |nil=>simp[Instr.findNow,iV]
  |cons y l=>simp at h
 |cons a es=>
  have b:Instr.findNow (.struct (Tryz.prog.fieldsOf 321)) (gV e) (a::es) 0=none:=by simp[Instr.findNow,Instr.sameNow]
  rw[b];exact L9 e w (a::es) l 0 h
def KM(e:Int):∀(l:List (Int×PV)) (i:Nat),(iV e l i).map (·.2)=(l.find? (λx=>e==x.1)).map (λx=>iG x.2):=by
 intro l;induction l with
 |nil=>intro i;rfl
 |cons y l ih=>
  intro i;unfold iV;by_cases h:e=y.1;·simp[h]
  ·simp[h,ih]
def MA:(Tryz.prog.info? 284).map (λi=>(i.zero,i.size,i.bytes))=Y (Y (.agg #[I 0,I 0,I 0,I 0]),4,32):=kG
def MB(w:World):(zeroValue 284).run pG w=.ok (iG ⟨0,0,0,0⟩) w:=by obtain⟨e,b,a,d,c⟩:=info_parts MA;simp[zeroValue,run_typeInfo w b,a,iG]
def nW{w:World}{r:Nat}{es:Array MapEntry}{a:Nat}(b:w.heap[r]?=Y (.map es a)):(getObj r).run pG w=.ok (.map es a) w:=by simp[getObj,Sem.run,b]
def sM{w:World}{r:Nat}{es:Array MapEntry}{a:Nat}(o:Obj)(b:w.heap[r]?=Y (.map es a)):(setObj r o).run pG w=.ok () {w with heap:=w.heap.setIfInBounds r o}:=by simp[setObj,Sem.run,b]
section
variable {w w':World} {B:Nat} {l:List (Int×PV)}
def VM.lt(h:VM w B l):B<w.heap.size:=by obtain⟨es,b,a,_⟩:=h.obj;exact(Array.getElem?_eq_some_iff.1 a).1
def VM.same(h:VM w B l)(d:w'.heap[B]?=w.heap[B]?):VM w' B l:=by obtain⟨es,a,b,e,c⟩:=h.obj;exact⟨es,a,d.trans b,e,c⟩
def VM.later(h:VM w B l)(a:Below w.heap.size w w'):VM w' B l:=h.same (a.block B h.lt)
def VM.ne(h:VM w B l){C:Nat}{cs:Array Value}{t:TypeId}(h':dC w C cs t):B≠C:=by intro a;subst a;obtain⟨es,b,c,_⟩:=h.obj;have:=c.symm.trans h'.blk;simp at this
def VM.look(h:VM w B l)(e:Int):(Instr.lookup 193 (.map (Y B)) (.agg #[I e]) false).run pG w=.ok (iG (dH l e)) w:=by
 obtain⟨es,d,f,c,g⟩:=h.obj;have b:=wH e w es.toList l c;have a:=KM e l 0;unfold gV at b;unfold Instr.lookup;simp only[Sem.run_bind,run_underlying underlying193,Result.andThen_ok,nW f,Sem.run_pure,sL,b];unfold dH;cases hx:iV e l 0 with
 |none=>
  rw[hx]at a;simp only[Option.map_none]at a;have:l.find? (λx=>e==x.1)=none:=by
   cases hq:l.find? (λx=>e==x.1) with
   |none=>rfl
   |some y=>rw[hq]at a;simp at a
  simp[this,MB];rfl
 |some y=>
  rw[hx]at a;cases hq:l.find? (λx=>e==x.1) with
  |none=>rw[hq]at a;simp at a
  |some z=>rw[hq]at a;simp at a;simp[a]
def VM.size(h:VM w B l):∃(es:Array MapEntry) (a:Nat),w.heap[B]?=Y (.map es a)/\es.size=l.length:=by obtain⟨es,a,c,b,d⟩:=h.obj;refine⟨es,a,c,?_⟩;have:=congrArg List.length b;simpa using this
def nD(w:World)(B:Nat)(o:Obj)(a:B<w.heap.size):({w with heap:=w.heap.setIfInBounds B o}:World).heap[B]?=Y o/\dI B w {w with heap:=w.heap.setIfInBounds B o}:=by refine⟨by simp[a],⟨rfl,rfl,rfl,sG,λk b=>?_⟩⟩;simp[Array.getElem?_setIfInBounds,Ne.symm b]
def KN(e:Int)(x:PV):∀(es:List MapEntry) (l:List (Int×PV)) (i:Nat),es.map (λe=>(e.key,e.val))=l.map (λx=>(gV x.1,iG x.2))->
  (∀j u,iV e l i=Y (j,u)->i<=j/\j - i<es.length/\(es[j - i]?).map (·.key)=Y (gV e)/\(es.modify (j - i) (λa=>{a with key:=gV e,val:=iG x})).map (λe=>(e.key,e.val))=(gA l e x).map (λx=>(gV x.1,iG x.2)))/\
  (iV e l i=none->∀b,(es++[(⟨gV e,iG x,b⟩:MapEntry)]).map (λe=>(e.key,e.val))=(gA l e x).map (λx=>(gV x.1,iG x.2))):=by
 intro es
 induction es with
 | nil=>intro l i h;cases l with
  |nil=>exact⟨λj u d=>by simp[iV]at d,λ_ b=>by simp[gA]⟩
  |cons y l=>simp at h
 |cons a es ih=>
  intro l i h
  cases l with
  |nil=>simp at h
  |cons y l=>
   have o:=h;simp only[List.map_cons,List.cons.injEq,Prod.mk.injEq]at h;obtain⟨m,k⟩:=ih l (i+1) h.2
   by_cases c:e=y.1
   ·refine⟨λj u d=>?_,λf=>by simp[iV,c]at f⟩;simp[iV,c]at d;obtain⟨rfl,_⟩:=d;refine⟨oG,sG,by simp[h.1.1,c],?_⟩;simp[gA,c,h.2]
   ·refine⟨λj u d=>?_,λf b=>?_⟩
    ·simp[iV,c]at d;obtain⟨p,q,n,g⟩:=m j u d;have hs:j - i=(j - (i+1))+1:=oG
     refine⟨oG,by simp;omega,by rw[hs];simpa using n,?_⟩;rw[hs];simp only[List.modify_succ_cons,List.map_cons,gA,if_neg c,g,h.1.1,h.1.2]
    ·simp[iV,c]at f;have:=k f b;simp only[List.cons_append,List.map_cons,gA,if_neg c,this,h.1.1,h.1.2]
def GH(e:Int):Instr.sameBits 10000 (gV e) (gV e)=true:=by unfold gV;rw[show(10000:Nat)=9999+1 from rfl];simp[Instr.sameBits]
def VM.put(h:VM w B l)(e:Int)(x:PV):∃w',(Instr.mapUpdate 193 (.map (Y B)) (.agg #[I e]) (iG x)).run pG w=.ok () w'/\VM w' B (gA l e x)/\dI B w w':=by
 obtain⟨es,b,d,i,k⟩:=h.obj;have c:=wH e w es.toList l i;obtain⟨o,n⟩:=KN e x es.toList l 0 i;have f:=h.lt;unfold gV at c;unfold Instr.mapUpdate;cases hx:iV e l 0 with
 |none=>
  rw[hx]at c;refine⟨{w with heap:=w.heap.setIfInBounds B (.map (es.push ⟨gV e,iG x,b⟩) (b+1))},?_,⟨_,_,(nD w B _ f).1,?_,?_⟩,(nD w B _ f).2⟩;·simp only[Sem.run_bind,run_underlying underlying193,Result.andThen_ok,nW d,sL,c];exact sM _ d
  ·rw[Array.toList_push];exact n hx b
  ·rw[Array.toList_push,List.map_append];exact k.snoc
 |some y=>
  obtain⟨j,u⟩:=y;obtain⟨r,p,m,g⟩:=o j u hx;rw[hx]at c;simp only[Nat.sub_zero]at p m g;have q:(es[j]?).map (·.key)=Y (gV e):=by simpa using m
  refine⟨{w with heap:=w.heap.setIfInBounds B (.map (es.modify j (λa=>{a with key:=gV e,val:=iG x})) b)},?_,⟨_,_,(nD w B _ f).1,?_,?_⟩,(nD w B _ f).2⟩;·simp only[Sem.run_bind,run_underlying underlying193,Result.andThen_ok,nW d,sL,c,q,Option.getD_some];have hs:=GH e;unfold gV at hs⊢;simp only[Instr.keyThatStays,hs,if_true,Sem.run_pure,Result.andThen_ok];exact sM _ d
  ·rw[Array.toList_modify];exact g
  ·rw[Array.toList_modify,zK (λa=>{a with key:=gV e,val:=iG x}) (λ_=>rfl)];exact k
def KO(e:Int):∀(es:List MapEntry) (l:List (Int×PV)) (i:Nat),es.map (λe=>(e.key,e.val))=l.map (λx=>(gV x.1,iG x.2))->
  (∀j u,iV e l i=Y (j,u)->i<=j/\(es.eraseIdx (j - i)).map (λe=>(e.key,e.val))=(gM l e).map (λx=>(gV x.1,iG x.2)))/\(iV e l i=none->gM l e=l):=by
 intro es
 induction es with
 | nil=>intro l i h;cases l with
  |nil=>exact⟨λj u b=>by simp[iV]at b,λ_=>rfl⟩
  |cons y l=>simp at h
 |cons a es ih=>
  intro l i h
  cases l with
  |nil=>simp at h
  |cons y l=>
   simp only[List.map_cons,List.cons.injEq,Prod.mk.injEq]at h;obtain⟨g,f⟩:=ih l (i+1) h.2
   by_cases c:e=y.1
   ·refine⟨λj u b=>?_,λd=>by simp[iV,c]at d⟩;simp[iV,c]at b;obtain⟨rfl,_⟩:=b;exact⟨oG,by simp[gM,c,h.2]⟩
   ·refine⟨λj u b=>?_,λd=>?_⟩
    ·simp[iV,c]at b;obtain⟨m,k⟩:=g j u b;have hs:j - i=(j - (i+1))+1:=oG
     refine⟨oG,?_⟩;rw[hs];simp only[List.eraseIdx_cons_succ,List.map_cons,gM,if_neg c,k,h.1.1,h.1.2]
    ·simp[iV,c]at d;rw[gM,if_neg c,f d]
def VM.del(h:VM w B l)(e:Int)(ty:TypeId):∃w',(Builtin.delete_ #[193,321] ty #[.map (Y B),.agg #[I e]]).run pG w=.ok (.tuple #[]) w'/\VM w' B (gM l e)/\dI B w w':=by
 obtain⟨es,a,c,f,g⟩:=h.obj;have b:=wH e w es.toList l f;obtain⟨k,m⟩:=KO e es.toList l 0 f;have d:=h.lt;unfold gV at b;unfold Builtin.delete_;cases hx:iV e l 0 with
 |none=>rw[hx]at b;refine⟨{w with heap:=w.heap.setIfInBounds B (.map es a)},?_,⟨es,a,(nD w B _ d).1,by rw[m hx];exact f,g⟩,(nD w B _ d).2⟩;simp only[List.getElem?_toArray,List.getElem?_cons_zero,List.getElem?_cons_succ,Sem.run_bind,run_underlying underlying193,Result.andThen_ok,nW c,sL,b,sM _ c,Sem.run_pure]
 |some y=>
  obtain⟨j,u⟩:=y;obtain⟨n,i⟩:=k j u hx;rw[hx]at b;simp only[Nat.sub_zero]at i;refine⟨{w with heap:=w.heap.setIfInBounds B (.map (es.eraseIdxIfInBounds j) a)},?_,⟨_,_,(nD w B _ d).1,?_,?_⟩,(nD w B _ d).2⟩;·simp only[List.getElem?_toArray,List.getElem?_cons_zero,List.getElem?_cons_succ,Sem.run_bind,run_underlying underlying193,Result.andThen_ok,nW c,sL,b,sM _ c,Sem.run_pure]
  ·rw[Array.toList_eraseIdxIfInBounds];exact i
  ·rw[Array.toList_eraseIdxIfInBounds];exact g.sub ((List.eraseIdx_sublist _ _).map _)
end
structure SD where
 id:Int
 recs:List eH
 dw:List (Int×PV)
 b0:Int
 b1:Int
 b2:Int
 b3:Int
 seen:Int
 last:Int
 lines:Int
 wh:Bool
structure eE(w:World)(low St:Nat)(d:SD)(vr:Value)(Mp D:Nat):Prop where
 blk:dC w St #[I d.id,vr,Value.map (Y Mp),I d.b0,I d.b1,I d.b2,I d.b3,I d.seen,I d.last,P0 (Y ⟨D,0,Z⟩),I d.lines,bool d.wh] 200
 rcs:w.ownsRow low 66 3 vr d.recs.length (d.recs.flatMap eH.cells)
 jb:VM w Mp d.dw
structure rD(w:World)(Nd:Nat)(id nodes nb:Int)(St:Nat)(act:Bool):Prop where
 blk:dC w Nd #[I id,I nodes,I nb,P0 (Y ⟨St,0,Z⟩),bool false,bool act,I 0,I 0,I 0,I 0,I 0,I 0,I 0,I 0,I 0,I 0,I 0,I 0,I 0,I 0,I 0,I 0,I 0,J Z 0 0,Value.map none,I 0,I 0,I 0,I 0,I 0,I 0,I 0,I 0,I 0,I 0,I 0,J Z 0 0,Value.map none,I 0,J Z 0 0] 192
section
variable {w w':World} {low St Mp D Nd:Nat} {d:SD} {vr:Value} {id nodes nb:Int} {act:Bool}
def eE.later(h:eE w low St d vr Mp D)(a:Below w.heap.size w w'):eE w' low St d vr Mp D:=⟨h.blk.later a,dQ h.rcs (λg b=>a.block g (h.rcs.lt g b).2),h.jb.later a⟩
def rD.later(h:rD w Nd id nodes nb St act)(a:Below w.heap.size w w'):rD w' Nd id nodes nb St act:=⟨h.blk.later a⟩
def eE.drew(h:eE w low St d vr Mp D):eE w.drew low St d vr Mp D:=⟨h.blk.drew,h.rcs.drew,⟨h.jb.obj⟩⟩
def rD.drew(h:rD w Nd id nodes nb St act):rD w.drew Nd id nodes nb St act:=⟨h.blk.drew⟩
end
def SD.dh(d:SD):eH:=d.recs.getD (d.recs.length - 1) ⟨0,0,0⟩
def oO(low St:Nat)(d:SD)(vr:Value)(Mp D:Nat)(w:World)(h:eE w low St d vr Mp D)(e:0<d.recs.length)(b:d.recs.length<=100000000):Calls pG 179 #[P0 (Y ⟨St,0,Z⟩)] w λr w'=>r=.returned (I ((d.recs.length:Int) - 1))/\w'=w:=by obtain⟨a,c,f⟩:=dZ h.rcs;subst f;have g:=h.blk.cell 1;simp at g;go_enter func179,ntmps179;go_wp2;go_ret;exact⟨rfl,rfl⟩
def zV(low St:Nat)(d:SD)(vr:Value)(Mp D:Nat)(i:Nat)(w:World)(h:eE w low St d vr Mp D)(hi:i<d.recs.length)(b:d.recs.length<=100000000):Calls pG 181 #[P0 (Y ⟨St,0,Z⟩),I (i:Int)] w λr w'=>r=.returned (.agg #[I (d.recs.getD i ⟨0,0,0⟩).E,I (d.recs.getD i ⟨0,0,0⟩).P,I (d.recs.getD i ⟨0,0,0⟩).S])/\Below w.heap.size w w':=by
 have o:=h.blk.cell 1;simp at o;obtain⟨g,m,f,p,a⟩:=(eL.gy h.rcs).at oG;subst f;have j:=a _ _ (kE eH.cells 3 tF d.recs i hi 0 oG);have c:=a _ _ (kE eH.cells 3 tF d.recs i hi 1 oG);have n:=a _ _ (kE eH.cells 3 tF d.recs i hi 2 oG);have e:d.recs.getD i ⟨0,0,0⟩=d.recs[i]:=by rw[List.getD_eq_getElem?_getD,List.getElem?_eq_getElem hi];rfl
 rw[e];simp[eH.cells]at j c n;have k:(i:Int)<(d.recs.length:Int):=oG;have l:=h.blk.lt;clear e a h;generalize d.recs[i]=r at*;go_enter func181,ntmps181;go_wp2;exact bodyPost_ret (v:=.agg #[I r.E,I r.P,I r.S]) (by simp[results,results181,go_sem]) rfl ⟨rfl,a_ w _⟩
def vX(low St:Nat)(d:SD)(vr:Value)(Mp D:Nat)(e:Int)(w:World)(h:eE w low St d vr Mp D):Calls pG 186 #[P0 (Y ⟨St,0,Z⟩),I e] w λr w'=>r=.returned (iG (dH d.dw e))/\Below w.heap.size w w':=by have f:=h.blk.cell 2;simp at f;have a:∀w',Below w.heap.size w w'->(Instr.lookup 193 (.map (Y Mp)) (.agg #[I e]) false).run pG w'=.ok (iG (dH d.dw e)) w':=λw' i=>(h.jb.later i).look e;have b:=a_ w (G #[I 0,I 0,I 0,I 0] 284);have c:=a _ b;have g:=h.blk.lt;unfold iG at c⊢;clear a h;generalize dH d.dw e=x at*;go_enter func186,ntmps186;go_wp2;exact bodyPost_ret (v:=.agg #[I x.pr,I x.ac,I x.pm,I x.st]) (by simp[results,results186,go_sem]) rfl ⟨rfl,a_ w _⟩
def oR(low St:Nat)(d:SD)(vr:Value)(Mp D:Nat)(w:World)(h:eE w low St d vr Mp D):Calls pG 189 #[P0 (Y ⟨St,0,Z⟩)] w λr w'=>r=.returned (.agg #[I d.seen,I d.last])/\Below w.heap.size w w':=by have b:=h.blk.cell 7;have c:=h.blk.cell 8;simp at b c;have a:=h.blk.lt;clear h;go_enter func189,ntmps189;go_wp2;exact bodyPost_ret (v:=.agg #[I d.seen,I d.last]) (by simp[results,results189,go_sem]) rfl ⟨rfl,a_ w _⟩
def SD.takes(d:SD)(E P:Int):Bool:=decide (P=d.id+1)&&decide (d.seen<E)
def AL(low St:Nat)(d:SD)(vr:Value)(Mp D:Nat)(E P S:Int)(w:World)(h:eE w low St d vr Mp D)(n:0<=d.id/\d.id<5):Calls pG 246 #[P0 (Y ⟨St,0,Z⟩),.agg #[I E,I P,I S]] w λr w'=>r=.returned (.bool (d.takes E P))/\Below w.heap.size w w':=by
 have a:=a_ w (G #[I E,I P,I S] 66);have c:=dA (dC.new w #[I E,I P,I S] 66);have e:=dA (h.later a);have g:=dA a;clear h a;go_enter func246,ntmps246;go_wp2_with fail;generalize (w.alloc (G #[I E,I P,I S] 66))=p at*;have o:=e.blk.cell 0;have m:=e.blk.cell 7;simp at o m;have j:=c.cell 0;have m1:=c.cell 1;have i:=c.cell 2;simp at j m1 i;have l:=e.blk.lt;have q:=c.lt;by_cases b:P=d.id+1
 ·have k:(P==d.id+1)=true:=by simpa using b
  have f:Hid (d.takes E P=decide (d.seen<E)):=by unfold Hid SD.takes;simp[b]
  clear b;go_quiet (fail);go_wp2;go_ret;exact⟨by rw[f.out];rfl,below_drewN g _⟩
 ·have k:(P==d.id+1)=false:=by simpa using b
  have f:Hid (d.takes E P=false):=by unfold Hid SD.takes;simp[b]
  clear b;go_quiet (fail);go_wp2;go_ret;exact⟨by rw[f.out];rfl,below_drewN g _⟩
def SD.learn(d:SD)(E P S:Int):SD:={d with recs:=d.recs++[⟨E,P,S⟩],seen:=if d.takes E P=true then E else d.seen,last:=if d.takes E P=true then 0 else d.last,dw:=gM d.dw (E - 1)}
def H6(low St:Nat)(d:SD)(vr:Value)(Mp D:Nat)(E P S:Int)(w:World)(h:eE w low St d vr Mp D)(aU:0<=d.id/\d.id<5)(aZ:low<=w.heap.size)(b4:d.recs.length<=100000000)(hE:1<=E/\E<=1000000000001):Calls pG 252 #[P0 (Y ⟨St,0,Z⟩),.agg #[I E,I P,I S]] w λr w'=>r=.returned (.tuple #[])/\∃aM,eE w' low St (d.learn E P S) aM Mp D/\dM (λg=>g=St∨g=Mp∨vr.ownBlock=Y g) w w'/\(∀g,aM.ownBlock=Y g->vr.ownBlock=Y g∨w.heap.size<=g):=by
 obtain⟨i0,aP,aL,aQ,aO⟩:=info_parts xL;obtain⟨H,cr,aR⟩:=dZ h.rcs;subst aR;have aA:=a_ w (G #[I E,I P,I S] 66);have HR:=dA (dC.new w #[I E,I P,I S] 66);have HS:=dA (h.later aA);have HB:=dA aA;have ap:=dA h;clear h aA;go_enter func252,ntmps252;go_wp2_with fail;generalize (w.alloc (G #[I E,I P,I S] 66))=W0 at*;refine(AL low St d (J H d.recs.length cr) Mp D E P S W0 HS aU).mono ?_;rintro r w1 ⟨rfl,aq⟩;have c:=dA (HS.later aq);have a5:=dA (HR.later aq);have a9:=dA (HB.trans (aq.mono HB.size));have aW:=ap.blk.lt;have a0:St≠w.heap.size:=oG;clear aq HR HS HB;have c0:=c.blk.cell 0;have O:=c.blk.cell 1;have c2:=c.blk.cell 2;have c3:=c.blk.cell 3;have c4:=c.blk.cell 4;have c5:=c.blk.cell 5;have c6:=c.blk.cell 6;have c7:=c.blk.cell 7;have c8:=c.blk.cell 8;have c9:=c.blk.cell 9;have p:=c.blk.cell 10;have c11:=c.blk.cell 11;simp at c0 O c2 c3 c4 c5 c6 c7 c8 c9 p c11;have ab:=c.blk.free 0;have N:=c.blk.free 1;have a7:=c.blk.free 2;have a3:=c.blk.free 3;have a6:=c.blk.free 4;have a4:=c.blk.free 5;have aa:=c.blk.free 6;have a8:=c.blk.free 7;have a2:=c.blk.free 8;have a1:=c.blk.free 9;have z:=c.blk.free 10;have y:=c.blk.free 11;have m0:=a5.cell 0;have m1:=a5.cell 1;have m2:=a5.cell 2;simp at m0 m1 m2;have aV:=c.blk.lt;have b5:=a5.lt;have aY:=c.jb.lt;have s:=c.jb.ne c.blk;have aX:=ap.jb.lt;cases htk:d.takes E P
 ·have aw:Hid (d.takes E P=false):=htk;clear htk;go_upto_region 3 with fail;have n:=dA ((dI.kz St w1));have b:Hid (dC w1 St #[I d.id,J H d.recs.length cr,Value.map (Y Mp),I d.b0,I d.b1,I d.b2,I d.b3,I d.seen,I d.last,P0 (Y ⟨D,0,Z⟩),I d.lines,bool d.wh] 200):=by have M:=c.blk;unfold Hid;simpa using M
  have C:=dA (dQ c.rcs (λg o=>n.block g (λe=>jM c.rcs c.blk.blk dG (e ▸ o))));have ah:=dA (c.jb.same (n.block Mp s));have x:=dA (a5.same (n.block _ (Ne.symm a0)));have aN:=n.size;clear c0 O c2 c3 c4 c5 c6 c7 c8 c9 p c11 ab N a7 a3 a6 a4 aa a8 a2 a1 z y m0 m1 m2;have c0:=b.cell 0;have O:=b.cell 1;have c2:=b.cell 2;have c3:=b.cell 3;have c4:=b.cell 4;have c5:=b.cell 5;have c6:=b.cell 6;have c7:=b.cell 7;have c8:=b.cell 8;have c9:=b.cell 9;have p:=b.cell 10;have c11:=b.cell 11;simp at c0 O c2 c3 c4 c5 c6 c7 c8 c9 p c11;have ab:=b.free 0;have N:=b.free 1;have a7:=b.free 2;have a3:=b.free 3;have a6:=b.free 4;have a4:=b.free 5;have aa:=b.free 6;have a8:=b.free 7;have a2:=b.free 8;have a1:=b.free 9;have z:=b.free 10;have y:=b.free 11;have m0:=x.cell 0;have m1:=x.cell 1;have m2:=x.cell 2;simp at m0 m1 m2;have ad:=b.lt;have aS:=x.lt;have aG:=jM C b.blk dG;have aT:=λg o=>World.ownsRow.lt C g o;have aJ:low<=w1.heap.size:=by have:=a9.size;omega
  have aC:Hid (w.heap.size<=w1.heap.size):=by have:=a9.size;unfold Hid;omega
  go_cut [20] (λsx wx=>∃t l,sx=J t (d.recs.length+1) l/\dC wx St #[I d.id,J t (d.recs.length+1) l,Value.map (Y Mp),I d.b0,I d.b1,I d.b2,I d.b3,I d.seen,I d.last,P0 (Y ⟨D,0,Z⟩),I d.lines,bool d.wh] 200/\wx.ownsRow low 66 3 (J t (d.recs.length+1) l) (d.recs.length+1) (d.recs.flatMap eH.cells++[I E,I P,I S])/\VM wx Mp d.dw/\dC wx w.heap.size #[I E,I P,I S] 66/\dM (λg=>g=St∨Value.ownBlock (J H d.recs.length cr)=Y g) w1 wx/\(∀g,Value.ownBlock (J t (d.recs.length+1) l)=Y g->Value.ownBlock (J H d.recs.length cr)=Y g∨w1.heap.size<=g));case first=>
   go_region_law (refine iX rfl (.tmp 17) (.tmp 19) 23 rfl low 66 i0 (.agg #[I 0,I 0,I 0]) 3 24 underlying23 aP aL aQ aO rfl dG (J H d.recs.length cr) d.recs.length (d.recs.flatMap eH.cells) eG (by exact(C.alloc _).drew) ⟨w1.heap.size,0,Z⟩ 1 1 [I E,I P,I S] oG eG rfl (by intro j u hu;rw[Go.WideShapes.add_plain];refine(World.cell?_alloc_at _ _ _ _ sG).trans ?_;simpa using hu) (by intro u hu;simp at hu;rcases hu with rfl|rfl|rfl<;>rfl) xG oG (by show _<=(World.alloc _ _).heap.size;simp;omega) ?_;intro v' w2 Q q ag;obtain⟨t,l,rfl⟩:=dZ Q;have F:w2.heap[St]?=w1.heap[St]?:=(q.block St (by show _<(World.alloc _ _).heap.size;simp;omega) (Ne.symm aG)).trans (heap_alloc_old _ _ ad);have k4:w2.cell? ⟨St,1,Z⟩=Y (J H d.recs.length cr):=(World.cell?_of_block (w:=w1) (a:=⟨St,1,Z⟩) F).trans O;have kf:w2.frozen? ⟨St,1,Z⟩=false:=(World.frozen?_of_block (w:=w1) (a:=⟨St,1,Z⟩) F).trans N);all_goals
    have X:∀g,g<w1.heap.size->Value.ownBlock (J H d.recs.length cr)≠some g->w2.heap[g]?=w1.heap[g]?:=λg o au=>(q.block g (by show _<(World.alloc _ _).heap.size;simp;omega) (Ne.symm au)).trans (heap_alloc_old _ _ o)
    have ao:∀g,Value.ownBlock (J t (d.recs.length+1) l)=Y g->Value.ownBlock (J H d.recs.length cr)=Y g∨w1.heap.size<=g:=by
      intro g o;obtain⟨g',h1,h2⟩:=ag;rw[h1]at o;cases o;exact h2.imp id (λh=>Nat.le_trans (by show _<=(World.alloc _ _).heap.size;simp) h.1)
    have ay:w1.heap.size<=w2.heap.size:=Nat.le_trans (by show _<=(World.alloc _ _).heap.size;simp) q.size;have R:w2.os=w1.os/\w2.tape=w1.tape/\w2.output=w1.output:=⟨q.os,q.tape,q.output⟩;have aI:=jM Q (F.trans b.blk) dG
    have W:Value.ownBlock (J H d.recs.length cr)≠some Mp:=λe=>by
      rcases C.2 with⟨h0,_⟩|⟨g9,aj,ae,h8,_,K,_⟩
      · rw[h0]at e;simp[Value.ownBlock]at e
      · rw[h8]at e
        simp[Value.ownBlock]at e;subst e;obtain⟨es,ax,h7,_⟩:=ah.obj;rw[h7]at K;simp at K
    have ac:Value.ownBlock (J H d.recs.length cr)≠some w.heap.size:=λe=>by have h8:=(ap.rcs.lt _ e).2;omega
   all_goals go_wp2_with fail
   all_goals go_meet
   all_goals
    have i:=dI.setCell w2 ⟨St,1,Z⟩ (J t (d.recs.length+1) l);refine⟨t,l,rfl,?_,?_,?_,?_,?_,ao⟩
    · have M:=(dC.same b F).set 1 (J t (d.recs.length+1) l)
      simpa using M
    · exact dQ Q (λg o=>i.block g (λe=>aI (by have h8:g=St:=e;rw[←h8];exact o)))
    · exact ah.same ((i.block Mp s).trans (X Mp oG W))
    · exact x.same ((i.block _ (Ne.symm a0)).trans (X _ oG ac))
    · exact⟨i.os.trans R.1,i.tape.trans R.2.1,i.output.trans R.2.2,by rw[i.size];exact ay,λk hk hA=>(i.block k (λe=>hA (.inl e))).trans (X k hk (λe=>hA (.inr e)))⟩
  case rest=>
  obtain⟨t,l,rfl,al,an,V,ak,am,ai⟩:=hcut;have aE:=dA ai;clear ai;have av:=dA V;obtain⟨w4,aK,af,L⟩:=(VM.same (w':=wc.drew) V rfl).del (E - 1) 0;have f:=dA al;have aH:=dA an;have U:=dA ak;have aD:=dA am;have aB:=dA af;have m:=dA L;clear al an V ak am af L c0 O c2 c3 c4 c5 c6 c7 c8 c9 p c11 ab N a7 a3 a6 a4 aa a8 a2 a1 z y m0 m1 m2;have c0:=f.cell 0;have O:=f.cell 1;have c2:=f.cell 2;have c3:=f.cell 3;have c4:=f.cell 4;have c5:=f.cell 5;have c6:=f.cell 6;have c7:=f.cell 7;have c8:=f.cell 8;have c9:=f.cell 9;have p:=f.cell 10;have c11:=f.cell 11;simp at c0 O c2 c3 c4 c5 c6 c7 c8 c9 p c11;have m0:=U.cell 0;have m1:=U.cell 1;have m2:=U.cell 2;simp at m0 m1 m2;have HL:Hid (d.learn E P S={d with recs:=d.recs++[⟨E,P,S⟩],seen:=d.seen,last:=d.last,dw:=gM d.dw (E - 1)}):=by unfold Hid SD.learn;rw[aw.out];rfl
  go_wp2_with fail;go_region;all_goals
   refine bodyPost_end (v:=.tuple #[]) (by simp[results,results252,go_sem]) rfl ⟨rfl,J t (d.recs.length+1) l,?_,?_,λg o=>(aE.out g o).imp id (λM=>Nat.le_trans aC M)⟩
   · rw[HL.out]
     refine⟨f.same (m.block St (Ne.symm s)),?_,aB⟩
     have M:wc.ownsRow low 66 3 (J t (d.recs.length+1) l) (d.recs++[(⟨E,P,S⟩:eH)]).length ((d.recs++[(⟨E,P,S⟩:eH)]).flatMap eH.cells):=by
       simp only[List.length_append,List.flatMap_append,List.length_cons,List.length_nil,List.flatMap_cons,List.flatMap_nil,List.append_nil];exact aH
     refine dQ M (λg o=>m.block g (λe=>?_));rcases M.2 with⟨h0,_⟩|⟨g9,aj,ae,h8,_,K,_⟩
     · rw[h0]at o;simp[Value.ownBlock]at o
     · rw[h8]at o
       simp[Value.ownBlock]at o;subst o;obtain⟨es,ax,h7,_⟩:=av.obj;rw[←e,K]at h7;cases h7
   · have aF:dM (λg=>g=St) w w1:=(dM.of_below (A:=λ_=>False) a9).trans (B:=λg=>g=St) ⟨n.os,n.tape,n.output,by rw[n.size];exact Nat.le_refl _,λk _ hk=>n.block k hk⟩ (λ_ e=>e.elim) (λ_ _ e=>e)
     have az:=aF.trans aD (λ_ e=>.inl e) (λ_ _ e=>e);exact az.trans (B:=λg=>g=Mp) ⟨m.os,m.tape,m.output,by rw[m.size];exact Nat.le_refl _,λk _ hk=>m.block k hk⟩ (λ_ e=>e.elim .inl (λh=>.inr (.inr h))) (λ_ _ e=>.inr (.inl e))
 ·have aw:Hid (d.takes E P=true):=htk;clear htk;go_upto_region 3 with fail;have n:=dA ((((dI.kz St w1).set2 7 (I E)).set2 8 (I 0)));have b:Hid (dC ((w1.setCell ⟨St,7,Z⟩ (I E)).setCell ⟨St,8,Z⟩ (I 0)) St #[I d.id,J H d.recs.length cr,Value.map (Y Mp),I d.b0,I d.b1,I d.b2,I d.b3,I E,I 0,P0 (Y ⟨D,0,Z⟩),I d.lines,bool d.wh] 200):=by have M:=((c.blk.set 7 (I E)).set 8 (I 0));unfold Hid;simpa using M
  generalize ((w1.setCell ⟨St,7,Z⟩ (I E)).setCell ⟨St,8,Z⟩ (I 0))=W1 at*;have C:=dA (dQ c.rcs (λg o=>n.block g (λe=>jM c.rcs c.blk.blk dG (e ▸ o))));have ah:=dA (c.jb.same (n.block Mp s));have x:=dA (a5.same (n.block _ (Ne.symm a0)));have aN:=n.size;clear c0 O c2 c3 c4 c5 c6 c7 c8 c9 p c11 ab N a7 a3 a6 a4 aa a8 a2 a1 z y m0 m1 m2;have c0:=b.cell 0;have O:=b.cell 1;have c2:=b.cell 2;have c3:=b.cell 3;have c4:=b.cell 4;have c5:=b.cell 5;have c6:=b.cell 6;have c7:=b.cell 7;have c8:=b.cell 8;have c9:=b.cell 9;have p:=b.cell 10;have c11:=b.cell 11;simp at c0 O c2 c3 c4 c5 c6 c7 c8 c9 p c11;have ab:=b.free 0;have N:=b.free 1;have a7:=b.free 2;have a3:=b.free 3;have a6:=b.free 4;have a4:=b.free 5;have aa:=b.free 6;have a8:=b.free 7;have a2:=b.free 8;have a1:=b.free 9;have z:=b.free 10;have y:=b.free 11;have m0:=x.cell 0;have m1:=x.cell 1;have m2:=x.cell 2;simp at m0 m1 m2;have ad:=b.lt;have aS:=x.lt;have aG:=jM C b.blk dG;have aT:=λg o=>World.ownsRow.lt C g o;have aJ:low<=W1.heap.size:=by have:=a9.size;omega
  have aC:Hid (w.heap.size<=W1.heap.size):=by have:=a9.size;unfold Hid;omega
  go_cut [20] (λsx wx=>∃t l,sx=J t (d.recs.length+1) l/\dC wx St #[I d.id,J t (d.recs.length+1) l,Value.map (Y Mp),I d.b0,I d.b1,I d.b2,I d.b3,I E,I 0,P0 (Y ⟨D,0,Z⟩),I d.lines,bool d.wh] 200/\wx.ownsRow low 66 3 (J t (d.recs.length+1) l) (d.recs.length+1) (d.recs.flatMap eH.cells++[I E,I P,I S])/\VM wx Mp d.dw/\dC wx w.heap.size #[I E,I P,I S] 66/\dM (λg=>g=St∨Value.ownBlock (J H d.recs.length cr)=Y g) W1 wx/\(∀g,Value.ownBlock (J t (d.recs.length+1) l)=Y g->Value.ownBlock (J H d.recs.length cr)=Y g∨W1.heap.size<=g));case first=>
   go_region_law (refine iX rfl (.tmp 17) (.tmp 19) 23 rfl low 66 i0 (.agg #[I 0,I 0,I 0]) 3 24 underlying23 aP aL aQ aO rfl dG (J H d.recs.length cr) d.recs.length (d.recs.flatMap eH.cells) eG (by exact(C.alloc _).drew) ⟨W1.heap.size,0,Z⟩ 1 1 [I E,I P,I S] oG eG rfl (by intro j u hu;rw[Go.WideShapes.add_plain];refine(World.cell?_alloc_at _ _ _ _ sG).trans ?_;simpa using hu) (by intro u hu;simp at hu;rcases hu with rfl|rfl|rfl<;>rfl) xG oG (by show _<=(World.alloc _ _).heap.size;simp;omega) ?_;intro v' w2 Q q ag;obtain⟨t,l,rfl⟩:=dZ Q;have F:w2.heap[St]?=W1.heap[St]?:=(q.block St (by show _<(World.alloc _ _).heap.size;simp;omega) (Ne.symm aG)).trans (heap_alloc_old _ _ ad);have k4:w2.cell? ⟨St,1,Z⟩=Y (J H d.recs.length cr):=(World.cell?_of_block (w:=W1) (a:=⟨St,1,Z⟩) F).trans O;have kf:w2.frozen? ⟨St,1,Z⟩=false:=(World.frozen?_of_block (w:=W1) (a:=⟨St,1,Z⟩) F).trans N);all_goals
    have X:∀g,g<W1.heap.size->Value.ownBlock (J H d.recs.length cr)≠some g->w2.heap[g]?=W1.heap[g]?:=λg o au=>(q.block g (by show _<(World.alloc _ _).heap.size;simp;omega) (Ne.symm au)).trans (heap_alloc_old _ _ o)
    have ao:∀g,Value.ownBlock (J t (d.recs.length+1) l)=Y g->Value.ownBlock (J H d.recs.length cr)=Y g∨W1.heap.size<=g:=by
      intro g o;obtain⟨g',h1,h2⟩:=ag;rw[h1]at o;cases o;exact h2.imp id (λh=>Nat.le_trans (by show _<=(World.alloc _ _).heap.size;simp) h.1)
    have ay:W1.heap.size<=w2.heap.size:=Nat.le_trans (by show _<=(World.alloc _ _).heap.size;simp) q.size;have R:w2.os=W1.os/\w2.tape=W1.tape/\w2.output=W1.output:=⟨q.os,q.tape,q.output⟩;have aI:=jM Q (F.trans b.blk) dG
    have W:Value.ownBlock (J H d.recs.length cr)≠some Mp:=λe=>by
      rcases C.2 with⟨h0,_⟩|⟨g9,aj,ae,h8,_,K,_⟩
      · rw[h0]at e;simp[Value.ownBlock]at e
      · rw[h8]at e
        simp[Value.ownBlock]at e;subst e;obtain⟨es,ax,h7,_⟩:=ah.obj;rw[h7]at K;simp at K
    have ac:Value.ownBlock (J H d.recs.length cr)≠some w.heap.size:=λe=>by have h8:=(ap.rcs.lt _ e).2;omega
   all_goals go_wp2_with fail
   all_goals go_meet
   all_goals
    have i:=dI.setCell w2 ⟨St,1,Z⟩ (J t (d.recs.length+1) l);refine⟨t,l,rfl,?_,?_,?_,?_,?_,ao⟩
    · have M:=(dC.same b F).set 1 (J t (d.recs.length+1) l)
      simpa using M
    · exact dQ Q (λg o=>i.block g (λe=>aI (by have h8:g=St:=e;rw[←h8];exact o)))
    · exact ah.same ((i.block Mp s).trans (X Mp oG W))
    · exact x.same ((i.block _ (Ne.symm a0)).trans (X _ oG ac))
    · exact⟨i.os.trans R.1,i.tape.trans R.2.1,i.output.trans R.2.2,by rw[i.size];exact ay,λk hk hA=>(i.block k (λe=>hA (.inl e))).trans (X k hk (λe=>hA (.inr e)))⟩
  case rest=>
  obtain⟨t,l,rfl,al,an,V,ak,am,ai⟩:=hcut;have aE:=dA ai;clear ai;have av:=dA V;obtain⟨w4,aK,af,L⟩:=(VM.same (w':=wc.drew) V rfl).del (E - 1) 0;have f:=dA al;have aH:=dA an;have U:=dA ak;have aD:=dA am;have aB:=dA af;have m:=dA L;clear al an V ak am af L c0 O c2 c3 c4 c5 c6 c7 c8 c9 p c11 ab N a7 a3 a6 a4 aa a8 a2 a1 z y m0 m1 m2;have c0:=f.cell 0;have O:=f.cell 1;have c2:=f.cell 2;have c3:=f.cell 3;have c4:=f.cell 4;have c5:=f.cell 5;have c6:=f.cell 6;have c7:=f.cell 7;have c8:=f.cell 8;have c9:=f.cell 9;have p:=f.cell 10;have c11:=f.cell 11;simp at c0 O c2 c3 c4 c5 c6 c7 c8 c9 p c11;have m0:=U.cell 0;have m1:=U.cell 1;have m2:=U.cell 2;simp at m0 m1 m2;have HL:Hid (d.learn E P S={d with recs:=d.recs++[⟨E,P,S⟩],seen:=E,last:=0,dw:=gM d.dw (E - 1)}):=by unfold Hid SD.learn;rw[aw.out];rfl
  go_wp2_with fail;go_region;all_goals
   refine bodyPost_end (v:=.tuple #[]) (by simp[results,results252,go_sem]) rfl ⟨rfl,J t (d.recs.length+1) l,?_,?_,λg o=>(aE.out g o).imp id (λM=>Nat.le_trans aC M)⟩
   · rw[HL.out]
     refine⟨f.same (m.block St (Ne.symm s)),?_,aB⟩
     have M:wc.ownsRow low 66 3 (J t (d.recs.length+1) l) (d.recs++[(⟨E,P,S⟩:eH)]).length ((d.recs++[(⟨E,P,S⟩:eH)]).flatMap eH.cells):=by
       simp only[List.length_append,List.flatMap_append,List.length_cons,List.length_nil,List.flatMap_cons,List.flatMap_nil,List.append_nil];exact aH
     refine dQ M (λg o=>m.block g (λe=>?_));rcases M.2 with⟨h0,_⟩|⟨g9,aj,ae,h8,_,K,_⟩
     · rw[h0]at o;simp[Value.ownBlock]at o
     · rw[h8]at o
       simp[Value.ownBlock]at o;subst o;obtain⟨es,ax,h7,_⟩:=av.obj;rw[←e,K]at h7;cases h7
   · have aF:dM (λg=>g=St) w W1:=(dM.of_below (A:=λ_=>False) a9).trans (B:=λg=>g=St) ⟨n.os,n.tape,n.output,by rw[n.size];exact Nat.le_refl _,λk _ hk=>n.block k hk⟩ (λ_ e=>e.elim) (λ_ _ e=>e)
     have az:=aF.trans aD (λ_ e=>.inl e) (λ_ _ e=>e);exact az.trans (B:=λg=>g=Mp) ⟨m.os,m.tape,m.output,by rw[m.size];exact Nat.le_refl _,λk _ hk=>m.block k hk⟩ (λ_ e=>e.elim .inl (λh=>.inr (.inr h))) (λ_ _ e=>.inr (.inl e))
def zL(k f e b wa p s q bl v:Int)(ms:Value)(w:World)(d:0<=e)(c:e<=1000000000000):Calls pG 245 #[.agg (mA k f e b wa p s q bl v ms)] w λr w'=>r=.returned (.agg #[I (e+1),I p,I s])/\Below w.heap.size w w':=by have a:=(a_ w (G (mA k f e b wa p s q bl v ms) 136)).alloc sG (G #[I (e+1),I p,I s] 66);go_enter func245,ntmps245;go_wp2;exact bodyPost_ret (v:=.agg #[I (e+1),I p,I s]) (by simp[results,results245,go_sem]) rfl ⟨rfl,a⟩
def GJ(k f e b wa p s q bl v:Int)(ms:Value)(w:World):Calls pG 249 #[.agg (mA k f e b wa p s q bl v ms)] w λr w'=>r=.returned (I (if k=9 then 10 else 8))/\Below w.heap.size w w':=by
 have a:=a_ w (G (mA k f e b wa p s q bl v ms) 136);by_cases c:k=9;·subst c;go_enter func249,ntmps249;go_wp2;go_ret;exact⟨rfl,a⟩
 ·have d:(k==9)=false:=by simpa using c
  rw[if_neg c];clear c;go_enter func249,ntmps249;go_wp2;go_ret;exact⟨rfl,a⟩
def tP(x:PV)(k f e b wa p s q bl v:Int)(ms:Value)(w:World):Calls pG 239 #[.agg #[I x.pr,I x.ac,I x.pm,I x.st],.agg (mA k f e b wa p s q bl v ms)] w λr w'=>r=.returned (.agg #[I (x.after k b p s).pr,I (x.after k b p s).ac,I (x.after k b p s).pm,I (x.after k b p s).st])/\Below w.heap.size w w':=by
 by_cases a:k=3;·subst a;have c:x.after 3 b p s=⟨b,b,p,s⟩:=rfl;rw[c];go_enter func239,ntmps239;go_wp2;refine bodyPost_ret (v:=.agg #[I b,I b,I p,I s]) (by simp[results,results239,go_sem]) rfl ⟨rfl,?_⟩;exact((a_ w _).alloc sG _).alloc (by simp;omega) _
 ·have c:x.after k b p s=⟨b,x.ac,x.pm,x.st⟩:=by unfold PV.after;rw[if_neg a]
  have d:(k==3)=false:=by simpa using a
  rw[c];clear a c;go_enter func239,ntmps239;go_wp2;refine bodyPost_ret (v:=.agg #[I b,I x.ac,I x.pm,I x.st]) (by simp[results,results239,go_sem]) rfl ⟨rfl,?_⟩;exact((a_ w _).alloc sG _).alloc (by simp;omega) _
def DU{w:World}{base:Nat}{e:TypeId}{size n Mp:Nat}{v:Value}{xs:List Value}{l:List (Int×PV)}(h:w.ownsRow base e size v n xs)(i:VM w Mp l):v.ownBlock≠some Mp:=by
 intro a;rcases h.2 with⟨g,_⟩|⟨m,c,d,f,_,b,_⟩;·rw[g]at a;simp[Value.ownBlock]at a
 ·rw[f]at a;simp[Value.ownBlock]at a;subst a;obtain⟨es,j,k,_⟩:=i.obj;rw[k]at b;simp at b
def VM.qc{w:World}{B:Nat}{l:List (Int×PV)}(h:VM w B l)(e:Int):∀w',w'.heap[B]?=w.heap[B]?->(Instr.lookup 193 (.map (Y B)) (.agg #[I e]) false).run pG w'=.ok (.agg #[I (dH l e).pr,I (dH l e).ac,I (dH l e).pm,I (dH l e).st]) w':=λw' a=>(h.same a).look e
def H7(low St:Nat)(d:SD)(vr:Value)(Mp D:Nat)(f e b wa p s q bl v:Int)(ms:Value)(w:World)(h:eE w low St d vr Mp D):Calls pG 220 #[P0 (Y ⟨St,0,Z⟩),.agg (mA 1 f e b wa p s q bl v ms)] w λr w'=>r=.returned (.tuple #[])/\eE w' low St {d with dw:=gA d.dw e ((dH d.dw e).after 1 b p s)} vr Mp D/\dM (λg=>g=Mp) w w':=by have t:=a_ w (G (mA 1 f e b wa p s q bl v ms) 136);have C:=dA (dC.new w (mA 1 f e b wa p s q bl v ms) 136);have n:=dA (h.later t);have U:=dA t;clear h t;go_enter func220,ntmps220;go_upto_region 1 with fail;generalize (w.alloc (G (mA 1 f e b wa p s q bl v ms) 136))=V at*;have Q:=n.blk.cell 2;simp at Q;obtain⟨m0,m1,m2,W,m4,m5,m6,m7,m8,m9,H⟩:=C.c11;have M:=n.blk.lt;have l:=C.lt;have N:=n.jb.lt;have F:=n.jb.qc e;have R:=n.jb.qc e V.drew rfl;clear F;go_wp2_with fail;have m:=n.jb.ne n.blk;have c:=n.jb.ne C;refine eY (S:=(λw'=>w'.cell? ⟨St,2,Z⟩=Y (Value.map (Y Mp))/\w'.cell? ⟨w.heap.size,0,Z⟩=Y (I 1)/\w'.cell? ⟨w.heap.size,1,Z⟩=Y (I f)/\w'.cell? ⟨w.heap.size,2,Z⟩=Y (I e)/\w'.cell? ⟨w.heap.size,3,Z⟩=Y (I b)/\w'.cell? ⟨w.heap.size,4,Z⟩=Y (I wa)/\w'.cell? ⟨w.heap.size,5,Z⟩=Y (I p)/\w'.cell? ⟨w.heap.size,6,Z⟩=Y (I s)/\w'.cell? ⟨w.heap.size,7,Z⟩=Y (I q)/\w'.cell? ⟨w.heap.size,8,Z⟩=Y (I bl)/\w'.cell? ⟨w.heap.size,9,Z⟩=Y (I v)/\w'.cell? ⟨w.heap.size,10,Z⟩=Y (ms))) λ_=>?_;refine tk 0 ?_;refine tk 1 ?_;refine tk 2 ?_;refine tk 3 ?_;refine tk 4 ?_;refine tk 5 ?_;refine tk 6 ?_;refine tk 7 ?_;refine tk 8 ?_;refine tk 9 ?_;refine tk 10 ?_;refine tk 11 ?_;refine tk 12 ?_;refine tk 13 ?_;refine tk 15 ?_;refine dF 14 λK o=>?_;(try go_simp);refine k1 o λ_=>?_;clear o K;refine dF 16 λK o=>?_;(try go_simp);go_at_call 239;refine(tP (dH d.dw e) 1 f e b wa p s q bl v ms _).mono ?_;rintro r w3 ⟨rfl,i⟩;have z0:=(i.cell (p:=⟨St,2,Z⟩) M).trans Q;have z1:=(i.cell (p:=⟨w.heap.size,0,Z⟩) l).trans m0;have z2:=(i.cell (p:=⟨w.heap.size,1,Z⟩) l).trans m1;have z3:=(i.cell (p:=⟨w.heap.size,2,Z⟩) l).trans m2;have z4:=(i.cell (p:=⟨w.heap.size,3,Z⟩) l).trans W;have z5:=(i.cell (p:=⟨w.heap.size,4,Z⟩) l).trans m4;have z6:=(i.cell (p:=⟨w.heap.size,5,Z⟩) l).trans m5;have z7:=(i.cell (p:=⟨w.heap.size,6,Z⟩) l).trans m6;have z8:=(i.cell (p:=⟨w.heap.size,7,Z⟩) l).trans m7;have z9:=(i.cell (p:=⟨w.heap.size,8,Z⟩) l).trans m8;have z:=(i.cell (p:=⟨w.heap.size,9,Z⟩) l).trans m9;have O:=(i.cell (p:=⟨w.heap.size,10,Z⟩) l).trans H;obtain⟨w4,y,u,a⟩:=((n.jb.same (w':=w3) (i.block Mp N))).put e ((dH d.dw e).after 1 b p s);unfold iG at y;have E:=dA u;have j:=dA a;have y0:=(a.cell (p:=⟨St,2,Z⟩) (Ne.symm m)).trans z0;have y1:=(a.cell (p:=⟨w.heap.size,0,Z⟩) (Ne.symm c)).trans z1;have y2:=(a.cell (p:=⟨w.heap.size,1,Z⟩) (Ne.symm c)).trans z2;have y3:=(a.cell (p:=⟨w.heap.size,2,Z⟩) (Ne.symm c)).trans z3;have y4:=(a.cell (p:=⟨w.heap.size,3,Z⟩) (Ne.symm c)).trans z4;have y5:=(a.cell (p:=⟨w.heap.size,4,Z⟩) (Ne.symm c)).trans z5;have y6:=(a.cell (p:=⟨w.heap.size,5,Z⟩) (Ne.symm c)).trans z6;have y7:=(a.cell (p:=⟨w.heap.size,6,Z⟩) (Ne.symm c)).trans z7;have y8:=(a.cell (p:=⟨w.heap.size,7,Z⟩) (Ne.symm c)).trans z8;have y9:=(a.cell (p:=⟨w.heap.size,8,Z⟩) (Ne.symm c)).trans z9;have X:=(a.cell (p:=⟨w.heap.size,9,Z⟩) (Ne.symm c)).trans z;have a0:=(a.cell (p:=⟨w.heap.size,10,Z⟩) (Ne.symm c)).trans O;clear u a;refine k1 o λ_=>?_;clear o K;refine dF 17 λK o=>?_;(try go_simp);refine k1 o λ_=>?_;clear o K;refine dn ?_;go_wp2;have gG:=n.drew.later i;have L:=DU gG.rcs gG.jb;refine bodyPost_end (v:=.tuple #[]) (by simp[results,results220,go_sem]) rfl ⟨rfl,⟨gG.blk.same (j.block St (Ne.symm m)),dQ gG.rcs (λg hg=>j.block g (λx=>L (by rw[←x];exact hg))),E⟩,?_⟩;exact(dM.of_below (A:=λ_=>False) (U.drew.trans (i.mono U.size))).trans (B:=λg=>g=Mp) ⟨j.os,j.tape,j.output,by rw[j.size];exact Nat.le_refl _,λk _ hk=>j.block k hk⟩ (λ_ x=>x.elim) (λ_ _ x=>x)
def H8(low St:Nat)(d:SD)(vr:Value)(Mp D:Nat)(f e b wa p s q bl v:Int)(ms:Value)(w:World)(h:eE w low St d vr Mp D):Calls pG 220 #[P0 (Y ⟨St,0,Z⟩),.agg (mA 3 f e b wa p s q bl v ms)] w λr w'=>r=.returned (.tuple #[])/\eE w' low St {d with dw:=gA d.dw e ((dH d.dw e).after 3 b p s)} vr Mp D/\dM (λg=>g=Mp) w w':=by have t:=a_ w (G (mA 3 f e b wa p s q bl v ms) 136);have C:=dA (dC.new w (mA 3 f e b wa p s q bl v ms) 136);have n:=dA (h.later t);have U:=dA t;clear h t;go_enter func220,ntmps220;go_upto_region 1 with fail;generalize (w.alloc (G (mA 3 f e b wa p s q bl v ms) 136))=V at*;have Q:=n.blk.cell 2;simp at Q;obtain⟨m0,m1,m2,W,m4,m5,m6,m7,m8,m9,H⟩:=C.c11;have M:=n.blk.lt;have l:=C.lt;have N:=n.jb.lt;have F:=n.jb.qc e;have R:=n.jb.qc e V.drew rfl;clear F;go_wp2_with fail;have m:=n.jb.ne n.blk;have c:=n.jb.ne C;refine eY (S:=(λw'=>w'.cell? ⟨St,2,Z⟩=Y (Value.map (Y Mp))/\w'.cell? ⟨w.heap.size,0,Z⟩=Y (I 3)/\w'.cell? ⟨w.heap.size,1,Z⟩=Y (I f)/\w'.cell? ⟨w.heap.size,2,Z⟩=Y (I e)/\w'.cell? ⟨w.heap.size,3,Z⟩=Y (I b)/\w'.cell? ⟨w.heap.size,4,Z⟩=Y (I wa)/\w'.cell? ⟨w.heap.size,5,Z⟩=Y (I p)/\w'.cell? ⟨w.heap.size,6,Z⟩=Y (I s)/\w'.cell? ⟨w.heap.size,7,Z⟩=Y (I q)/\w'.cell? ⟨w.heap.size,8,Z⟩=Y (I bl)/\w'.cell? ⟨w.heap.size,9,Z⟩=Y (I v)/\w'.cell? ⟨w.heap.size,10,Z⟩=Y (ms))) λ_=>?_;refine tk 0 ?_;refine tk 1 ?_;refine tk 2 ?_;refine tk 3 ?_;refine tk 4 ?_;refine tk 5 ?_;refine tk 6 ?_;refine tk 7 ?_;refine tk 8 ?_;refine tk 9 ?_;refine tk 10 ?_;refine tk 11 ?_;refine tk 12 ?_;refine tk 13 ?_;refine tk 15 ?_;refine dF 14 λK o=>?_;(try go_simp);refine k1 o λ_=>?_;clear o K;refine dF 16 λK o=>?_;(try go_simp);go_at_call 239;refine(tP (dH d.dw e) 3 f e b wa p s q bl v ms _).mono ?_;rintro r w3 ⟨rfl,i⟩;have z0:=(i.cell (p:=⟨St,2,Z⟩) M).trans Q;have z1:=(i.cell (p:=⟨w.heap.size,0,Z⟩) l).trans m0;have z2:=(i.cell (p:=⟨w.heap.size,1,Z⟩) l).trans m1;have z3:=(i.cell (p:=⟨w.heap.size,2,Z⟩) l).trans m2;have z4:=(i.cell (p:=⟨w.heap.size,3,Z⟩) l).trans W;have z5:=(i.cell (p:=⟨w.heap.size,4,Z⟩) l).trans m4;have z6:=(i.cell (p:=⟨w.heap.size,5,Z⟩) l).trans m5;have z7:=(i.cell (p:=⟨w.heap.size,6,Z⟩) l).trans m6;have z8:=(i.cell (p:=⟨w.heap.size,7,Z⟩) l).trans m7;have z9:=(i.cell (p:=⟨w.heap.size,8,Z⟩) l).trans m8;have z:=(i.cell (p:=⟨w.heap.size,9,Z⟩) l).trans m9;have O:=(i.cell (p:=⟨w.heap.size,10,Z⟩) l).trans H;obtain⟨w4,y,u,a⟩:=((n.jb.same (w':=w3) (i.block Mp N))).put e ((dH d.dw e).after 3 b p s);unfold iG at y;have E:=dA u;have j:=dA a;have y0:=(a.cell (p:=⟨St,2,Z⟩) (Ne.symm m)).trans z0;have y1:=(a.cell (p:=⟨w.heap.size,0,Z⟩) (Ne.symm c)).trans z1;have y2:=(a.cell (p:=⟨w.heap.size,1,Z⟩) (Ne.symm c)).trans z2;have y3:=(a.cell (p:=⟨w.heap.size,2,Z⟩) (Ne.symm c)).trans z3;have y4:=(a.cell (p:=⟨w.heap.size,3,Z⟩) (Ne.symm c)).trans z4;have y5:=(a.cell (p:=⟨w.heap.size,4,Z⟩) (Ne.symm c)).trans z5;have y6:=(a.cell (p:=⟨w.heap.size,5,Z⟩) (Ne.symm c)).trans z6;have y7:=(a.cell (p:=⟨w.heap.size,6,Z⟩) (Ne.symm c)).trans z7;have y8:=(a.cell (p:=⟨w.heap.size,7,Z⟩) (Ne.symm c)).trans z8;have y9:=(a.cell (p:=⟨w.heap.size,8,Z⟩) (Ne.symm c)).trans z9;have X:=(a.cell (p:=⟨w.heap.size,9,Z⟩) (Ne.symm c)).trans z;have a0:=(a.cell (p:=⟨w.heap.size,10,Z⟩) (Ne.symm c)).trans O;clear u a;refine k1 o λ_=>?_;clear o K;refine dF 17 λK o=>?_;(try go_simp);refine k1 o λ_=>?_;clear o K;refine dn ?_;go_wp2;have gG:=n.drew.later i;have L:=DU gG.rcs gG.jb;refine bodyPost_end (v:=.tuple #[]) (by simp[results,results220,go_sem]) rfl ⟨rfl,⟨gG.blk.same (j.block St (Ne.symm m)),dQ gG.rcs (λg hg=>j.block g (λx=>L (by rw[←x];exact hg))),E⟩,?_⟩;exact(dM.of_below (A:=λ_=>False) (U.drew.trans (i.mono U.size))).trans (B:=λg=>g=Mp) ⟨j.os,j.tape,j.output,by rw[j.size];exact Nat.le_refl _,λk _ hk=>j.block k hk⟩ (λ_ x=>x.elim) (λ_ _ x=>x)
end Go.Proofs.YtdcainmlcpafbaaGreatDoor
