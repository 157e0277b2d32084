import Derived.Test.YtdcainmlcpafbaaGreatDoorJ05
import Derived.ChangeKeysEq
import Derived.Laws.StructEq
import Derived.MapKept
import Derived.Deep.DeepCutAuto
set_option linter.all false
set_option maxHeartbeats 8000000
set_option maxRecDepth 20000
namespace Go.Proofs.YtdcainmlcpafbaaGreatDoor
open Go.RowKit
open Value renaming int->I,slice->J,pointer->P0
open Tryz
open Tryz renaming prog->pG
open IntKind renaming i64->T
open Option renaming none->Z,some->Y
open Obj renaming cells->G
open Value (bool)
theorem BB:∃f:Field,(Tryz.prog.fieldsOf 321).toList=[f]/\f.name = "epoch" /\f.type=3/\f.offset=0:=by
 have h:(Tryz.prog.fieldsOf 321).toList.map (fun f=>(f.name,f.type,f.offset))=[("epoch",3,0)]:=by kernel_rfl
 cases hl:(Tryz.prog.fieldsOf 321).toList with
 |nil=>rw[hl]at h;simp at h
 |cons f fs=>rw[hl]at h;simp only[List.map_cons,List.cons.injEq,Prod.mk.injEq,List.map_eq_nil_iff]at h;exact⟨f,by rw[h.2],h.1.1,h.1.2.1,h.1.2.2⟩
theorem vJ:Tryz.prog.underlying 321=Y (.struct (Tryz.prog.fieldsOf 321)):=by kernel_rfl
theorem K7:Tryz.prog.stoodInHeld 321=false:=by kernel_rfl
theorem DD(a:Int)(w:World):(part 3 #[I T a] 0).run pG w=.ok (I T a) w:=by have h:=i6 (w:=w) #[Value.int .i64 a] 0 (I T a);exact h rfl
theorem MC(a b:Int)(w:World):(Op.equal 321 (.agg #[I T a]) (.agg #[I T b])).run pG w=.ok (a==b) w:=by obtain⟨f,e,d,c,g⟩:=BB;show(Op.equalIn 10000 321 _ _).run _ _=_;rw[run_equalIn_struct w 9999 321 _ _ vJ K7,e];simp only[Op.eqFields,d,c,g,Sem.run_bind,Sem.run_ite,DD,Result.andThen_ok,run_equalIn_int w 9998 3 .i64 .i64 _ _ underlying3];by_cases h:a=b<;>simp[h]
theorem rJ(d:Bool)(a:Int)(w:World):(Instr.checkKey d 10000 321 (.agg #[I T a])).run pG w=.ok () w:=by obtain⟨f,e,c,b,g⟩:=BB;rw[show(10000:Nat)=9998+1+1 from rfl];unfold Instr.checkKey;simp only[Sem.run_bind,run_underlying vJ,Result.andThen_ok];rw[←Array.forIn_toList,e];simp only[List.forIn_cons,List.forIn_nil,c,b,g,Sem.run_bind,Sem.run_ite,DD,Result.andThen_ok];unfold Instr.checkKey;simp[run_underlying underlying3]
structure PV where
 pr:Int
 ac:Int
 pm:Int
 st:Int
def PV.after(x:PV)(k b p s:Int):PV:=if k=3 then⟨b,b,p,s⟩ else{x with pr:=b}
def hQ(x:PV):Value:=.agg #[I T x.pr,I T x.ac,I T x.pm,I T x.st]
def gN(e:Int):Value:=.agg #[I T e]
def oF(bs:List Nat)(clk:Nat):Prop:=(∀b∈bs,b<clk)/\bs.Nodup
theorem oF.snoc{f:List Nat}{c:Nat}(h:oF f c):oF (f++[c]) (c+1):=by
 refine⟨fun b d=>?_,?_⟩
 ·rcases List.mem_append.1 d with e|e;·have:=h.1 b e;omega
  ·simp at e;omega
 ·rw[List.nodup_append];refine⟨h.2,by simp,fun a g b d=>?_⟩;simp at d;have:=h.1 a g;omega
theorem oF.sub{c cs:List Nat}{a:Nat}(h:oF c a)(hs:cs.Sublist c):oF cs a:=⟨fun b d=>h.1 b (hs.subset d),hs.nodup h.2⟩
theorem yB(f:MapEntry->MapEntry)(a:∀x,(f x).born=x.born):∀(l:List MapEntry) (j:Nat),(l.modify j f).map (·.born)=l.map (·.born)
 | [],j=>by cases j<;>simp
 |x::l,0=>by simp[a]
 |x::l,j+1=>by simp[yB f a l j]
structure VM(w:World)(B:Nat)(l:List (Int×PV)):Prop where
 obj:∃(es:Array MapEntry) (clk:Nat),w.heap[B]?=Y (.map es clk)/\es.toList.map (fun e=>(e.key,e.val))=l.map (fun x=>(gN x.1,hQ x.2))/\oF (es.toList.map (·.born)) clk
def iO(e:Int):List (Int×PV)->Nat->Option (Nat×Value)
 | [],_=>none
 |x::l,i=>if e=x.1 then some (i,hQ x.2) else iO e l (i+1)
def dG(l:List (Int×PV))(e:Int):PV:=((l.find? (fun x=>e==x.1)).map (·.2)).getD ⟨0,0,0,0⟩
def fX:List (Int×PV)->Int->PV->List (Int×PV)
 | [],e,x=>[(e,x)]
 |y::l,e,x=>if e=y.1 then(e,x)::l else y::fX l e x
def gH:List (Int×PV)->Int->List (Int×PV)
 | [],_=>[]
 |y::l,e=>if e=y.1 then l else y::gH l e
theorem vmGet_put(l:List (Int×PV))(e a:Int)(x:PV):dG (fX l e x) a=if a=e then x else dG l a:=by
 induction l with
 |nil=>unfold fX dG;by_cases h:a=e<;>simp[h]
 |cons y l ih=>
  unfold fX;by_cases h:e=y.1
  ·rw[if_pos h];by_cases h':a=e;·simp[dG,h']
   ·simp[dG,h',show¬a=y.1 by omega]
  ·rw[if_neg h];by_cases h':a=y.1;·simp[dG,h',show¬y.1=e by omega]
   ·have:∀b,dG (y::b) a=dG b a:=by intro b;simp[dG,h']
    rw[this,this,ih]
theorem vmGet_del(l:List (Int×PV))(e a:Int)(c:a≠e):dG (gH l e) a=dG l a:=by
 induction l with
 |nil=>rfl
 |cons y l ih=>
  unfold gH;by_cases h:e=y.1;·rw[if_pos h];simp[dG,show¬a=y.1 by omega]
  ·rw[if_neg h];by_cases h':a=y.1;·simp[dG,h']
   ·have:∀b,dG (y::b) a=dG b a:=by intro b;simp[dG,h']
    rw[this,this,ih]
theorem zA(l:List (Int×PV))(e:Int)(x:PV):(fX l e x).length<=l.length+1:=by
 induction l with
 |nil=>simp[fX]
 |cons y l ih=>unfold fX;split<;>simp<;>omega
theorem G7(l:List (Int×PV))(e:Int):(gH l e).length<=l.length:=by
 induction l with
 |nil=>simp[gH]
 |cons y l ih=>unfold gH;split<;>simp<;>omega
theorem K8(e:Int)(w:World):∀(es:List MapEntry) (l:List (Int×PV)) (i:Nat),es.map (fun e=>(e.key,e.val))=l.map (fun x=>(gN x.1,hQ x.2))->(Instr.findAsking 321 (gN e) es i).run pG w=.ok (iO e l i) w:=by
 intro es;induction es with
 |nil=>intro l i h;cases l with
  |nil=>simp[Instr.findAsking,iO]
  |cons y l=>simp at h
 |cons a es ih=>
  intro l i h;cases l with
  |nil=>simp at h
  |cons y l=>
   simp only[List.map_cons,List.cons.injEq,Prod.mk.injEq]at h;simp only[Instr.findAsking,iO,Sem.run_bind,h.1.1,h.1.2];rw[show(Op.equal 321 (gN e) (gN y.1)).run pG w=.ok (e==y.1) w from MC e y.1 w];simp only[Result.andThen_ok];by_cases b:e=y.1;·simp[b]
   ·simp[b];exact ih l (i+1) h.2
theorem vC(e:Int)(w:World)(es:List MapEntry)(l:List (Int×PV))(h:es.map (fun e=>(e.key,e.val))=l.map (fun x=>(gN x.1,hQ x.2))):(Instr.findKey 321 (gN e) es).run pG w=.ok (iO e l 0) w:=by
 unfold Instr.findKey;simp only[Sem.run_bind,run_underlying vJ,Result.andThen_ok];cases es with
 |nil=>cases l with
  |nil=>simp[Instr.findNow,iO]
  |cons y l=>simp at h
 |cons a es=>
  have b:Instr.findNow (.struct (Tryz.prog.fieldsOf 321)) (gN e) (a::es) 0=none:=by simp[Instr.findNow,Instr.sameNow]
  rw[b];exact K8 e w (a::es) l 0 h
theorem JL(e:Int):∀(l:List (Int×PV)) (i:Nat),(iO e l i).map (·.2)=(l.find? (fun x=>e==x.1)).map (fun x=>hQ x.2):=by
 intro l;induction l with
 |nil=>intro i;rfl
 |cons y l ih=>
  intro i;unfold iO;by_cases h:e=y.1;·simp[h]
  ·simp[h,ih]
theorem K9:(Tryz.prog.info? 284).map (fun i=>(i.zero,i.size,i.bytes))=Y (Y (.agg #[I T 0,I T 0,I T 0,I T 0]),4,32):=by kernel_rfl
theorem LA(w:World):(zeroValue 284).run pG w=.ok (hQ ⟨0,0,0,0⟩) w:=by obtain⟨e,b,a,d,c⟩:=info_parts K9;simp[zeroValue,run_typeInfo w b,a,hQ]
theorem nB{w:World}{r:Nat}{es:Array MapEntry}{a:Nat}(b:w.heap[r]?=Y (.map es a)):(getObj r).run pG w=.ok (.map es a) w:=by simp[getObj,Sem.run,b]
theorem rK{w:World}{r:Nat}{es:Array MapEntry}{a:Nat}(o:Obj)(b:w.heap[r]?=Y (.map es a)):(setObj r o).run pG w=.ok () {w with heap:=w.heap.setIfInBounds r o}:=by simp[setObj,Sem.run,b]
section
variable {w w':World} {B:Nat} {l:List (Int×PV)}
theorem VM.lt(h:VM w B l):B<w.heap.size:=by obtain⟨es,b,a,_⟩:=h.obj;exact(Array.getElem?_eq_some_iff.1 a).1
theorem VM.same(h:VM w B l)(d:w'.heap[B]?=w.heap[B]?):VM w' B l:=by obtain⟨es,a,c,b,e⟩:=h.obj;exact⟨es,a,d.trans c,b,e⟩
theorem VM.later(h:VM w B l)(a:Below w.heap.size w w'):VM w' B l:=h.same (a.block B h.lt)
theorem VM.ne(h:VM w B l){C:Nat}{cs:Array Value}{t:TypeId}(h':dC w C cs t):B≠C:=by intro a;subst a;obtain⟨es,c,b,_⟩:=h.obj;have:=b.symm.trans h'.blk;simp at this
theorem VM.look(h:VM w B l)(e:Int):(Instr.lookup 193 (.map (Y B)) (.agg #[I T e]) false).run pG w=.ok (hQ (dG l e)) w:=by
 obtain⟨es,f,d,c,g⟩:=h.obj;have b:=vC e w es.toList l c;have a:=JL e l 0;unfold gN at b;unfold Instr.lookup;simp only[Sem.run_bind,run_underlying underlying193,Result.andThen_ok,nB d,Sem.run_pure,rJ,b];unfold dG;cases hx:iO e l 0 with
 |none=>
  rw[hx]at a;simp only[Option.map_none]at a;have:l.find? (fun x=>e==x.1)=none:=by
   cases hq:l.find? (fun x=>e==x.1) with
   |none=>rfl
   |some y=>rw[hq]at a;simp at a
  simp[this,LA];rfl
 |some y=>
  rw[hx]at a;cases hq:l.find? (fun x=>e==x.1) with
  |none=>rw[hq]at a;simp at a
  |some z=>rw[hq]at a;simp at a;simp[a]
theorem VM.size(h:VM w B l):∃(es:Array MapEntry) (a:Nat),w.heap[B]?=Y (.map es a)/\es.size=l.length:=by obtain⟨es,a,c,b,d⟩:=h.obj;refine⟨es,a,c,?_⟩;have:=congrArg List.length b;simpa using this
theorem mL(w:World)(B:Nat)(o:Obj)(a:B<w.heap.size):({w with heap:=w.heap.setIfInBounds B o}:World).heap[B]?=Y o/\dH B w {w with heap:=w.heap.setIfInBounds B o}:=by refine⟨by simp[a],⟨rfl,rfl,rfl,by simp,fun k b=>?_⟩⟩;simp[Array.getElem?_setIfInBounds,Ne.symm b]
theorem JM(e:Int)(x:PV):∀(es:List MapEntry) (l:List (Int×PV)) (i:Nat),es.map (fun e=>(e.key,e.val))=l.map (fun x=>(gN x.1,hQ x.2))->(∀j u,iO e l i=Y (j,u)->i<=j/\j - i<es.length/\(es[j - i]?).map (·.key)=Y (gN e)/\(es.modify (j - i) (fun a=>{a with key:=gN e,val:=hQ x})).map (fun e=>(e.key,e.val))=(fX l e x).map (fun x=>(gN x.1,hQ x.2)))/\(iO e l i=none->∀b,(es++[(⟨gN e,hQ x,b⟩:MapEntry)]).map (fun e=>(e.key,e.val))=(fX l e x).map (fun x=>(gN x.1,hQ x.2))):=by
 intro es;induction es with
 |nil=>intro l i h;cases l with
  |nil=>exact⟨fun j u d=>by simp[iO]at d,fun _ b=>by simp[fX]⟩
  |cons y l=>simp at h
 |cons a es ih=>
  intro l i h;cases l with
  |nil=>simp at h
  |cons y l=>
   have q:=h;simp only[List.map_cons,List.cons.injEq,Prod.mk.injEq]at h;obtain⟨g,n⟩:=ih l (i+1) h.2;by_cases c:e=y.1;·refine⟨fun j u d=>?_,fun f=>by simp[iO,c]at f⟩;simp[iO,c]at d;obtain⟨rfl,_⟩:=d;refine⟨by omega,by simp,by simp[h.1.1,c],?_⟩;simp[fX,c,h.2]
   ·refine⟨fun j u d=>?_,fun f b=>?_⟩
    ·simp[iO,c]at d;obtain⟨p,o,m,k⟩:=g j u d;have hs:j - i=(j - (i+1))+1:=by omega
     refine⟨by omega,by simp;omega,by rw[hs];simpa using m,?_⟩;rw[hs];simp only[List.modify_succ_cons,List.map_cons,fX,if_neg c,k,h.1.1,h.1.2]
    ·simp[iO,c]at f;have:=n f b;simp only[List.cons_append,List.map_cons,fX,if_neg c,this,h.1.1,h.1.2]
theorem FB(e:Int):Instr.sameBits 10000 (gN e) (gN e)=true:=by unfold gN;rw[show(10000:Nat)=9999+1 from rfl];simp[Instr.sameBits]
theorem VM.put(h:VM w B l)(e:Int)(x:PV):∃w',(Instr.mapUpdate 193 (.map (Y B)) (.agg #[I T e]) (hQ x)).run pG w=.ok () w'/\VM w' B (fX l e x)/\dH B w w':=by
 obtain⟨es,b,f,g,m⟩:=h.obj;have c:=vC e w es.toList l g;obtain⟨n,p⟩:=JM e x es.toList l 0 g;have d:=h.lt;unfold gN at c;unfold Instr.mapUpdate;cases hx:iO e l 0 with
 |none=>
  rw[hx]at c;refine⟨{w with heap:=w.heap.setIfInBounds B (.map (es.push ⟨gN e,hQ x,b⟩) (b+1))},?_,⟨_,_,(mL w B _ d).1,?_,?_⟩,(mL w B _ d).2⟩;·simp only[Sem.run_bind,run_underlying underlying193,Result.andThen_ok,nB f,rJ,c];exact rK _ f
  ·rw[Array.toList_push];exact p hx b
  ·rw[Array.toList_push,List.map_append];exact m.snoc
 |some y=>
  obtain⟨j,u⟩:=y;obtain⟨r,o,k,i⟩:=n j u hx;rw[hx]at c;simp only[Nat.sub_zero]at o k i;have q:(es[j]?).map (·.key)=Y (gN e):=by simpa using k
  refine⟨{w with heap:=w.heap.setIfInBounds B (.map (es.modify j (fun a=>{a with key:=gN e,val:=hQ x})) b)},?_,⟨_,_,(mL w B _ d).1,?_,?_⟩,(mL w B _ d).2⟩;·simp only[Sem.run_bind,run_underlying underlying193,Result.andThen_ok,nB f,rJ,c,q,Option.getD_some];have hs:=FB e;unfold gN at hs⊢;simp only[Instr.keyThatStays,hs,if_true,Sem.run_pure,Result.andThen_ok];exact rK _ f
  ·rw[Array.toList_modify];exact i
  ·rw[Array.toList_modify,yB (fun a=>{a with key:=gN e,val:=hQ x}) (fun _=>rfl)];exact m
theorem JN(e:Int):∀(es:List MapEntry) (l:List (Int×PV)) (i:Nat),es.map (fun e=>(e.key,e.val))=l.map (fun x=>(gN x.1,hQ x.2))->(∀j u,iO e l i=Y (j,u)->i<=j/\(es.eraseIdx (j - i)).map (fun e=>(e.key,e.val))=(gH l e).map (fun x=>(gN x.1,hQ x.2)))/\(iO e l i=none->gH l e=l):=by
 intro es;induction es with
 |nil=>intro l i h;cases l with
  |nil=>exact⟨fun j u c=>by simp[iO]at c,fun _=>rfl⟩
  |cons y l=>simp at h
 |cons a es ih=>
  intro l i h;cases l with
  |nil=>simp at h
  |cons y l=>
   simp only[List.map_cons,List.cons.injEq,Prod.mk.injEq]at h;obtain⟨f,k⟩:=ih l (i+1) h.2;by_cases b:e=y.1;·refine⟨fun j u c=>?_,fun d=>by simp[iO,b]at d⟩;simp[iO,b]at c;obtain⟨rfl,_⟩:=c;exact⟨by omega,by simp[gH,b,h.2]⟩
   ·refine⟨fun j u c=>?_,fun d=>?_⟩
    ·simp[iO,b]at c;obtain⟨m,g⟩:=f j u c;have hs:j - i=(j - (i+1))+1:=by omega
     refine⟨by omega,?_⟩;rw[hs];simp only[List.eraseIdx_cons_succ,List.map_cons,gH,if_neg b,g,h.1.1,h.1.2]
    ·simp[iO,b]at d;rw[gH,if_neg b,k d]
theorem VM.del(h:VM w B l)(e:Int)(ty:TypeId):∃w',(Builtin.delete_ #[193,321] ty #[.map (Y B),.agg #[I T e]]).run pG w=.ok (.tuple #[]) w'/\VM w' B (gH l e)/\dH B w w':=by
 obtain⟨es,a,c,f,g⟩:=h.obj;have b:=vC e w es.toList l f;obtain⟨k,m⟩:=JN e es.toList l 0 f;have d:=h.lt;unfold gN at b;unfold Builtin.delete_;cases hx:iO e l 0 with
 |none=>rw[hx]at b;refine⟨{w with heap:=w.heap.setIfInBounds B (.map es a)},?_,⟨es,a,(mL w B _ d).1,by rw[m hx];exact f,g⟩,(mL w B _ d).2⟩;simp only[List.getElem?_toArray,List.getElem?_cons_zero,List.getElem?_cons_succ,Sem.run_bind,run_underlying underlying193,Result.andThen_ok,nB c,rJ,b,rK _ c,Sem.run_pure]
 |some y=>
  obtain⟨j,u⟩:=y;obtain⟨n,i⟩:=k j u hx;rw[hx]at b;simp only[Nat.sub_zero]at i;refine⟨{w with heap:=w.heap.setIfInBounds B (.map (es.eraseIdxIfInBounds j) a)},?_,⟨_,_,(mL w B _ d).1,?_,?_⟩,(mL w B _ d).2⟩;·simp only[List.getElem?_toArray,List.getElem?_cons_zero,List.getElem?_cons_succ,Sem.run_bind,run_underlying underlying193,Result.andThen_ok,nB c,rJ,b,rK _ c,Sem.run_pure]
  ·rw[Array.toList_eraseIdxIfInBounds];exact i
  ·rw[Array.toList_eraseIdxIfInBounds];exact g.sub ((List.eraseIdx_sublist _ _).map _)
end
structure SD where
 id:Int
 recs:List eE
 di:List (Int×PV)
 b0:Int
 b1:Int
 b2:Int
 b3:Int
 seen:Int
 last:Int
 lines:Int
 wh:Bool
structure dZ(w:World)(low St:Nat)(d:SD)(vr:Value)(Mp D:Nat):Prop where
 blk:dC w St #[I T d.id,vr,Value.map (Y Mp),I T d.b0,I T d.b1,I T d.b2,I T d.b3,I T d.seen,I T d.last,P0 (Y ⟨D,0,Z⟩),I T d.lines,bool d.wh] 200
 ja:w.ownsRow low 66 3 vr d.recs.length (d.recs.flatMap eE.cells)
 iy:VM w Mp d.di
structure qH(w:World)(Nd:Nat)(id nodes nb:Int)(St:Nat)(act:Bool):Prop where
 blk:dC w Nd #[I T id,I T nodes,I T nb,P0 (Y ⟨St,0,Z⟩),bool false,bool act,I T 0,I T 0,I T 0,I T 0,I T 0,I T 0,I T 0,I T 0,I T 0,I T 0,I T 0,I T 0,I T 0,I T 0,I T 0,I T 0,I T 0,J Z 0 0,Value.map none,I T 0,I T 0,I T 0,I T 0,I T 0,I T 0,I T 0,I T 0,I T 0,I T 0,I T 0,J Z 0 0,Value.map none,I T 0,J Z 0 0] 192
section
variable {w w':World} {low St Mp D Nd:Nat} {d:SD} {vr:Value} {id nodes nb:Int} {act:Bool}
theorem dZ.later(h:dZ w low St d vr Mp D)(a:Below w.heap.size w w'):dZ w' low St d vr Mp D:=⟨h.blk.later a,dO h.ja (fun g b=>a.block g (h.ja.lt g b).2),h.iy.later a⟩
theorem qH.later(h:qH w Nd id nodes nb St act)(a:Below w.heap.size w w'):qH w' Nd id nodes nb St act:=⟨h.blk.later a⟩
theorem dZ.drew(h:dZ w low St d vr Mp D):dZ w.drew low St d vr Mp D:=⟨h.blk.drew,h.ja.drew,⟨h.iy.obj⟩⟩
theorem qH.drew(h:qH w Nd id nodes nb St act):qH w.drew Nd id nodes nb St act:=⟨h.blk.drew⟩
end
def SD.dh(d:SD):eE:=d.recs.getD (d.recs.length - 1) ⟨0,0,0⟩
theorem nU(low St:Nat)(d:SD)(vr:Value)(Mp D:Nat)(w:World)(h:dZ w low St d vr Mp D)(b:0<d.recs.length)(g:d.recs.length<=100000000):Calls pG 179 #[P0 (Y ⟨St,0,Z⟩)] w fun r w'=>r=.returned (I T ((d.recs.length:Int) - 1))/\w'=w:=by obtain⟨a,c,e⟩:=eB h.ja;subst e;have f:=h.blk.cell 1;simp at f;go_enter func179,ntmps179;go_wp2;go_ret;exact⟨rfl,rfl⟩
theorem yM(low St:Nat)(d:SD)(vr:Value)(Mp D:Nat)(i:Nat)(w:World)(h:dZ w low St d vr Mp D)(hi:i<d.recs.length)(o:d.recs.length<=100000000):Calls pG 181 #[P0 (Y ⟨St,0,Z⟩),I T (i:Int)] w fun r w'=>r=.returned (.agg #[I T (d.recs.getD i ⟨0,0,0⟩).E,I T (d.recs.getD i ⟨0,0,0⟩).P,I T (d.recs.getD i ⟨0,0,0⟩).S])/\Below w.heap.size w w':=by
 have k:=h.blk.cell 1;simp at k;obtain⟨g,c,b,p,a⟩:=(eY.gq h.ja).at (by omega);subst b;have m:=a _ _ (kO eE.cells 3 sH d.recs i hi 0 (by omega));have n:=a _ _ (kO eE.cells 3 sH d.recs i hi 1 (by omega));have l:=a _ _ (kO eE.cells 3 sH d.recs i hi 2 (by omega));have e:d.recs.getD i ⟨0,0,0⟩=d.recs[i]:=by rw[List.getD_eq_getElem?_getD,List.getElem?_eq_getElem hi];rfl
 rw[e];simp[eE.cells]at m n l;have j:(i:Int)<(d.recs.length:Int):=by omega
 have f:=h.blk.lt;clear e a h;generalize d.recs[i]=r at*;go_enter func181,ntmps181;go_wp2;exact bodyPost_ret (v:=.agg #[I T r.E,I T r.P,I T r.S]) (by simp[results,results181,go_sem]) rfl ⟨rfl,a_ w _⟩
theorem uU(low St:Nat)(d:SD)(vr:Value)(Mp D:Nat)(e:Int)(w:World)(h:dZ w low St d vr Mp D):Calls pG 186 #[P0 (Y ⟨St,0,Z⟩),I T e] w fun r w'=>r=.returned (hQ (dG d.di e))/\Below w.heap.size w w':=by have g:=h.blk.cell 2;simp at g;have a:∀w',Below w.heap.size w w'->(Instr.lookup 193 (.map (Y Mp)) (.agg #[I T e]) false).run pG w'=.ok (hQ (dG d.di e)) w':=fun w' i=>(h.iy.later i).look e;have c:=a_ w (G #[I T 0,I T 0,I T 0,I T 0] 284);have b:=a _ c;have f:=h.blk.lt;unfold hQ at b⊢;clear a h;generalize dG d.di e=x at*;go_enter func186,ntmps186;go_wp2;exact bodyPost_ret (v:=.agg #[I T x.pr,I T x.ac,I T x.pm,I T x.st]) (by simp[results,results186,go_sem]) rfl ⟨rfl,a_ w _⟩
theorem lS(low St:Nat)(d:SD)(vr:Value)(Mp D:Nat)(w:World)(h:dZ w low St d vr Mp D):Calls pG 189 #[P0 (Y ⟨St,0,Z⟩)] w fun r w'=>r=.returned (.agg #[I T d.seen,I T d.last])/\Below w.heap.size w w':=by have b:=h.blk.cell 7;have c:=h.blk.cell 8;simp at b c;have a:=h.blk.lt;clear h;go_enter func189,ntmps189;go_wp2;exact bodyPost_ret (v:=.agg #[I T d.seen,I T d.last]) (by simp[results,results189,go_sem]) rfl ⟨rfl,a_ w _⟩
def SD.takes(d:SD)(E P:Int):Bool:=decide (P=d.id+1)&&decide (d.seen<E)
theorem zB(low St:Nat)(d:SD)(vr:Value)(Mp D:Nat)(E P S:Int)(w:World)(h:dZ w low St d vr Mp D)(j:0<=d.id/\d.id<5):Calls pG 246 #[P0 (Y ⟨St,0,Z⟩),.agg #[I T E,I T P,I T S]] w fun r w'=>r=.returned (.bool (d.takes E P))/\Below w.heap.size w w':=by
 have a:=a_ w (G #[I T E,I T P,I T S] 66);have c:=dA (dC.new w #[I T E,I T P,I T S] 66);have e:=dA (h.later a);have g:=dA a;clear h a;go_enter func246,ntmps246;go_wp2_with fail;generalize (w.alloc (G #[I T E,I T P,I T S] 66))=q at*;have l:=e.out.blk.cell 0;have k:=e.out.blk.cell 7;simp at l k;have o:=c.out.cell 0;have m1:=c.out.cell 1;have n:=c.out.cell 2;simp at o m1 n;have m:=e.out.blk.lt;have p:=c.out.lt;by_cases b:P=d.id+1
 ·have i:(P==d.id+1)=true:=by simpa using b
  have f:Hid (d.takes E P=decide (d.seen<E)):=by unfold Hid SD.takes;simp[b]
  clear b;go_quiet (fail);go_wp2;go_ret;exact⟨by rw[f.out];rfl,below_drewN g _⟩
 ·have i:(P==d.id+1)=false:=by simpa using b
  have f:Hid (d.takes E P=false):=by unfold Hid SD.takes;simp[b]
  clear b;go_quiet (fail);go_wp2;go_ret;exact⟨by rw[f.out];rfl,below_drewN g _⟩
def SD.learn(d:SD)(E P S:Int):SD:={d with recs:=d.recs++[⟨E,P,S⟩],seen:=if d.takes E P=true then E else d.seen,last:=if d.takes E P=true then 0 else d.last,di:=gH d.di (E - 1)}
theorem F7(low St:Nat)(d:SD)(vr:Value)(Mp D:Nat)(E P S:Int)(w:World)(h:dZ w low St d vr Mp D)(aR:0<=d.id/\d.id<5)(b4:low<=w.heap.size)(b5:d.recs.length<=100000000)(hE:1<=E/\E<=1000000000001):Calls pG 252 #[P0 (Y ⟨St,0,Z⟩),.agg #[I T E,I T P,I T S]] w fun r w'=>r=.returned (.tuple #[])/\∃aQ,dZ w' low St (d.learn E P S) aQ Mp D/\dK (fun g=>g=St∨g=Mp∨vr.ownBlock=Y g) w w'/\(∀g,aQ.ownBlock=Y g->vr.ownBlock=Y g∨w.heap.size<=g):=by
 obtain⟨i0,aO,aK,aP,aN⟩:=info_parts wD;obtain⟨C,cr,aS⟩:=eB h.ja;subst aS;have aA:=a_ w (G #[I T E,I T P,I T S] 66);have HR:=dA (dC.new w #[I T E,I T P,I T S] 66);have HS:=dA (h.later aA);have HB:=dA aA;have ap:=dA h;clear h aA;go_enter func252,ntmps252;go_wp2_with fail;generalize (w.alloc (G #[I T E,I T P,I T S] 66))=W0 at*;refine(zB low St d (J C d.recs.length cr) Mp D E P S W0 HS aR).mono ?_;rintro r w1 ⟨rfl,aq⟩;have c:=dA (HS.out.later aq);have a5:=dA (HR.out.later aq);have a6:=dA (HB.out.trans (aq.mono HB.out.size));have aY:=ap.out.blk.lt;have a0:St≠w.heap.size:=by omega
 clear aq HR HS HB;have c0:=c.out.blk.cell 0;have Q:=c.out.blk.cell 1;have c2:=c.out.blk.cell 2;have c3:=c.out.blk.cell 3;have c4:=c.out.blk.cell 4;have c5:=c.out.blk.cell 5;have c6:=c.out.blk.cell 6;have c7:=c.out.blk.cell 7;have c8:=c.out.blk.cell 8;have c9:=c.out.blk.cell 9;have q:=c.out.blk.cell 10;have c11:=c.out.blk.cell 11;simp at c0 Q c2 c3 c4 c5 c6 c7 c8 c9 q c11;have a3:=c.out.blk.free 0;have M:=c.out.blk.free 1;have a8:=c.out.blk.free 2;have a9:=c.out.blk.free 3;have a4:=c.out.blk.free 4;have a1:=c.out.blk.free 5;have a7:=c.out.blk.free 6;have ab:=c.out.blk.free 7;have a2:=c.out.blk.free 8;have aa:=c.out.blk.free 9;have y:=c.out.blk.free 10;have z:=c.out.blk.free 11;have m0:=a5.out.cell 0;have m1:=a5.out.cell 1;have m2:=a5.out.cell 2;simp at m0 m1 m2;have aW:=c.out.blk.lt;have aZ:=a5.out.lt;have aX:=c.out.iy.lt;have s:=c.out.iy.ne c.out.blk;have aV:=ap.out.iy.lt;cases htk:d.takes E P
 ·have aI:Hid (d.takes E P=false):=htk;clear htk;go_upto_region 3 with fail;have n:=dA ((dH.jq St w1));have b:Hid (dC w1 St #[I T d.id,J C d.recs.length cr,Value.map (Y Mp),I T d.b0,I T d.b1,I T d.b2,I T d.b3,I T d.seen,I T d.last,P0 (Y ⟨D,0,Z⟩),I T d.lines,bool d.wh] 200):=by have L:=c.out.blk;unfold Hid;simpa using L
  have H:=dA (dO c.out.ja (fun g o=>n.out.block g (fun e=>iS c.out.ja c.out.blk.blk (by decide) (e ▸ o))));have ad:=dA (c.out.iy.same (n.out.block Mp s));have x:=dA (a5.out.same (n.out.block _ (Ne.symm a0)));have aL:=n.out.size;clear c0 Q c2 c3 c4 c5 c6 c7 c8 c9 q c11 a3 M a8 a9 a4 a1 a7 ab a2 aa y z m0 m1 m2;have c0:=b.out.cell 0;have Q:=b.out.cell 1;have c2:=b.out.cell 2;have c3:=b.out.cell 3;have c4:=b.out.cell 4;have c5:=b.out.cell 5;have c6:=b.out.cell 6;have c7:=b.out.cell 7;have c8:=b.out.cell 8;have c9:=b.out.cell 9;have q:=b.out.cell 10;have c11:=b.out.cell 11;simp at c0 Q c2 c3 c4 c5 c6 c7 c8 c9 q c11;have a3:=b.out.free 0;have M:=b.out.free 1;have a8:=b.out.free 2;have a9:=b.out.free 3;have a4:=b.out.free 4;have a1:=b.out.free 5;have a7:=b.out.free 6;have ab:=b.out.free 7;have a2:=b.out.free 8;have aa:=b.out.free 9;have y:=b.out.free 10;have z:=b.out.free 11;have m0:=x.out.cell 0;have m1:=x.out.cell 1;have m2:=x.out.cell 2;simp at m0 m1 m2;have ac:=b.out.lt;have aU:=x.out.lt;have av:=iS H b.out.blk (by decide);have aT:=fun g o=>World.ownsRow.lt H g o;have au:low<=w1.heap.size:=by have:=a6.out.size;omega
  have aH:Hid (w.heap.size<=w1.heap.size):=by have:=a6.out.size;unfold Hid;omega
  go_cut [20] (fun sx wx=>∃t l,sx=J t (d.recs.length+1) l/\dC wx St #[I T d.id,J t (d.recs.length+1) l,Value.map (Y Mp),I T d.b0,I T d.b1,I T d.b2,I T d.b3,I T d.seen,I T d.last,P0 (Y ⟨D,0,Z⟩),I T d.lines,bool d.wh] 200/\wx.ownsRow low 66 3 (J t (d.recs.length+1) l) (d.recs.length+1) (d.recs.flatMap eE.cells++[I T E,I T P,I T S])/\VM wx Mp d.di/\dC wx w.heap.size #[I T E,I T P,I T S] 66/\dK (fun g=>g=St∨Value.ownBlock (J C d.recs.length cr)=Y g) w1 wx/\(∀g,Value.ownBlock (J t (d.recs.length+1) l)=Y g->Value.ownBlock (J C d.recs.length cr)=Y g∨w1.heap.size<=g));case first=>
   go_region_law (refine iQ rfl (.tmp 17) (.tmp 19) 23 rfl low 66 i0 (.agg #[I T 0,I T 0,I T 0]) 3 24 underlying23 aO aK aP aN rfl (by decide) (J C d.recs.length cr) d.recs.length (d.recs.flatMap eE.cells) (by simp[Act.eval]) (by exact(H.out.alloc _).drew) ⟨w1.heap.size,0,Z⟩ 1 1 [I T E,I T P,I T S] (by omega) (by simp[Act.eval]) rfl (by intro j u hu;rw[Go.WideShapes.add_plain];refine(World.cell?_alloc_at _ _ _ _ (by simp)).trans ?_;simpa using hu) (by intro u hu;simp at hu;rcases hu with rfl|rfl|rfl<;>rfl) (by unfold maxLen;omega) (by omega) (by show _<=(World.alloc _ _).heap.size;simp;omega) ?_;intro v' w2 O p an;obtain⟨t,l,rfl⟩:=eB O;have K:w2.heap[St]?=w1.heap[St]?:=(p.block St (by show _<(World.alloc _ _).heap.size;simp;omega) (Ne.symm av)).trans (heap_alloc_old _ _ ac);have k4:w2.cell? ⟨St,1,Z⟩=Y (J C d.recs.length cr):=(World.cell?_of_block (w:=w1) (a:=⟨St,1,Z⟩) K).trans Q;have kf:w2.frozen? ⟨St,1,Z⟩=false:=(World.frozen?_of_block (w:=w1) (a:=⟨St,1,Z⟩) K).trans M);all_goals
    have V:∀g,g<w1.heap.size->Value.ownBlock (J C d.recs.length cr)≠some g->w2.heap[g]?=w1.heap[g]?:=fun g o aF=>(p.block g (by show _<(World.alloc _ _).heap.size;simp;omega) (Ne.symm aF)).trans (heap_alloc_old _ _ o)
    have ao:∀g,Value.ownBlock (J t (d.recs.length+1) l)=Y g->Value.ownBlock (J C d.recs.length cr)=Y g∨w1.heap.size<=g:=by
      intro g o;obtain⟨g',h1,h2⟩:=an;rw[h1]at o;cases o;exact h2.imp id (fun h=>Nat.le_trans (by show _<=(World.alloc _ _).heap.size;simp) h.1)
    have az:w1.heap.size<=w2.heap.size:=Nat.le_trans (by show _<=(World.alloc _ _).heap.size;simp) p.size;have X:w2.os=w1.os/\w2.tape=w1.tape/\w2.output=w1.output:=⟨p.os,p.tape,p.output⟩;have aE:=iS O (K.trans b.out.blk) (by decide)
    have W:Value.ownBlock (J C d.recs.length cr)≠some Mp:=fun e=>by
      rcases H.out.2 with⟨h0,_⟩|⟨g9,ai,ak,h8,_,F,_⟩
      · rw[h0]at e;simp[Value.ownBlock]at e
      · rw[h8]at e
        simp[Value.ownBlock]at e;subst e;obtain⟨es,ax,h7,_⟩:=ad.out.obj;rw[h7]at F;simp at F
    have ag:Value.ownBlock (J C d.recs.length cr)≠some w.heap.size:=fun e=>by have h8:=(ap.out.ja.lt _ e).2;omega
   all_goals go_wp2_with fail
   all_goals go_meet
   all_goals
    have i:=dH.setCell w2 ⟨St,1,Z⟩ (J t (d.recs.length+1) l);refine⟨t,l,rfl,?_,?_,?_,?_,?_,ao⟩
    · have L:=(dC.same b K).set 1 (J t (d.recs.length+1) l)
      simpa using L
    · exact dO O (fun g o=>i.block g (fun e=>aE (by have h8:g=St:=e;rw[←h8];exact o)))
    · exact ad.out.same ((i.block Mp s).trans (V Mp (by omega) W))
    · exact x.out.same ((i.block _ (Ne.symm a0)).trans (V _ (by omega) ag))
    · exact⟨i.os.trans X.1,i.tape.trans X.2.1,i.output.trans X.2.2,by rw[i.size];exact az,fun k hk hA=>(i.block k (fun e=>hA (.inl e))).trans (V k hk (fun e=>hA (.inr e)))⟩
  case rest=>
  obtain⟨t,l,rfl,af,aj,U,ah,al,am⟩:=hcut;have aC:=dA am;clear am;have aB:=dA U;obtain⟨w4,aM,ae,N⟩:=(VM.same (w':=wc.drew) U rfl).del (E - 1) 0;have f:=dA af;have aJ:=dA aj;have R:=dA ah;have aG:=dA al;have aw:=dA ae;have m:=dA N;clear af aj U ah al ae N c0 Q c2 c3 c4 c5 c6 c7 c8 c9 q c11 a3 M a8 a9 a4 a1 a7 ab a2 aa y z m0 m1 m2;have c0:=f.out.cell 0;have Q:=f.out.cell 1;have c2:=f.out.cell 2;have c3:=f.out.cell 3;have c4:=f.out.cell 4;have c5:=f.out.cell 5;have c6:=f.out.cell 6;have c7:=f.out.cell 7;have c8:=f.out.cell 8;have c9:=f.out.cell 9;have q:=f.out.cell 10;have c11:=f.out.cell 11;simp at c0 Q c2 c3 c4 c5 c6 c7 c8 c9 q c11;have m0:=R.out.cell 0;have m1:=R.out.cell 1;have m2:=R.out.cell 2;simp at m0 m1 m2;have HL:Hid (d.learn E P S={d with recs:=d.recs++[⟨E,P,S⟩],seen:=d.seen,last:=d.last,di:=gH d.di (E - 1)}):=by unfold Hid SD.learn;rw[aI.out];rfl
  go_wp2_with fail;go_region;all_goals
   refine bodyPost_end (v:=.tuple #[]) (by simp[results,results252,go_sem]) rfl ⟨rfl,J t (d.recs.length+1) l,?_,?_,fun g o=>(aC.out g o).imp id (fun L=>Nat.le_trans aH L)⟩
   · rw[HL.out]
     refine⟨f.out.same (m.out.block St (Ne.symm s)),?_,aw⟩
     have L:wc.ownsRow low 66 3 (J t (d.recs.length+1) l) (d.recs++[(⟨E,P,S⟩:eE)]).length ((d.recs++[(⟨E,P,S⟩:eE)]).flatMap eE.cells):=by
       simp only[List.length_append,List.flatMap_append,List.length_cons,List.length_nil,List.flatMap_cons,List.flatMap_nil,List.append_nil];exact aJ
     refine dO L (fun g o=>m.out.block g (fun e=>?_));rcases L.2 with⟨h0,_⟩|⟨g9,ai,ak,h8,_,F,_⟩
     · rw[h0]at o;simp[Value.ownBlock]at o
     · rw[h8]at o
       simp[Value.ownBlock]at o;subst o;obtain⟨es,ax,h7,_⟩:=aB.out.obj;rw[←e,F]at h7;cases h7
   · have aD:dK (fun g=>g=St) w w1:=(dK.of_below (A:=fun _=>False) a6).trans (B:=fun g=>g=St) ⟨n.out.os,n.out.tape,n.out.output,by rw[n.out.size];exact Nat.le_refl _,fun k _ hk=>n.out.block k hk⟩ (fun _ e=>e.elim) (fun _ _ e=>e)
     have ay:=aD.trans aG (fun _ e=>.inl e) (fun _ _ e=>e);exact ay.trans (B:=fun g=>g=Mp) ⟨m.out.os,m.out.tape,m.out.output,by rw[m.out.size];exact Nat.le_refl _,fun k _ hk=>m.out.block k hk⟩ (fun _ e=>e.elim .inl (fun h=>.inr (.inr h))) (fun _ _ e=>.inr (.inl e))
 ·have aI:Hid (d.takes E P=true):=htk;clear htk;go_upto_region 3 with fail;have n:=dA ((((dH.jq St w1).set2 7 (I T E)).set2 8 (I T 0)));have b:Hid (dC ((w1.setCell ⟨St,7,Z⟩ (I T E)).setCell ⟨St,8,Z⟩ (I T 0)) St #[I T d.id,J C d.recs.length cr,Value.map (Y Mp),I T d.b0,I T d.b1,I T d.b2,I T d.b3,I T E,I T 0,P0 (Y ⟨D,0,Z⟩),I T d.lines,bool d.wh] 200):=by have L:=((c.out.blk.set 7 (I T E)).set 8 (I T 0));unfold Hid;simpa using L
  generalize ((w1.setCell ⟨St,7,Z⟩ (I T E)).setCell ⟨St,8,Z⟩ (I T 0))=W1 at*;have H:=dA (dO c.out.ja (fun g o=>n.out.block g (fun e=>iS c.out.ja c.out.blk.blk (by decide) (e ▸ o))));have ad:=dA (c.out.iy.same (n.out.block Mp s));have x:=dA (a5.out.same (n.out.block _ (Ne.symm a0)));have aL:=n.out.size;clear c0 Q c2 c3 c4 c5 c6 c7 c8 c9 q c11 a3 M a8 a9 a4 a1 a7 ab a2 aa y z m0 m1 m2;have c0:=b.out.cell 0;have Q:=b.out.cell 1;have c2:=b.out.cell 2;have c3:=b.out.cell 3;have c4:=b.out.cell 4;have c5:=b.out.cell 5;have c6:=b.out.cell 6;have c7:=b.out.cell 7;have c8:=b.out.cell 8;have c9:=b.out.cell 9;have q:=b.out.cell 10;have c11:=b.out.cell 11;simp at c0 Q c2 c3 c4 c5 c6 c7 c8 c9 q c11;have a3:=b.out.free 0;have M:=b.out.free 1;have a8:=b.out.free 2;have a9:=b.out.free 3;have a4:=b.out.free 4;have a1:=b.out.free 5;have a7:=b.out.free 6;have ab:=b.out.free 7;have a2:=b.out.free 8;have aa:=b.out.free 9;have y:=b.out.free 10;have z:=b.out.free 11;have m0:=x.out.cell 0;have m1:=x.out.cell 1;have m2:=x.out.cell 2;simp at m0 m1 m2;have ac:=b.out.lt;have aU:=x.out.lt;have av:=iS H b.out.blk (by decide);have aT:=fun g o=>World.ownsRow.lt H g o;have au:low<=W1.heap.size:=by have:=a6.out.size;omega
  have aH:Hid (w.heap.size<=W1.heap.size):=by have:=a6.out.size;unfold Hid;omega
  go_cut [20] (fun sx wx=>∃t l,sx=J t (d.recs.length+1) l/\dC wx St #[I T d.id,J t (d.recs.length+1) l,Value.map (Y Mp),I T d.b0,I T d.b1,I T d.b2,I T d.b3,I T E,I T 0,P0 (Y ⟨D,0,Z⟩),I T d.lines,bool d.wh] 200/\wx.ownsRow low 66 3 (J t (d.recs.length+1) l) (d.recs.length+1) (d.recs.flatMap eE.cells++[I T E,I T P,I T S])/\VM wx Mp d.di/\dC wx w.heap.size #[I T E,I T P,I T S] 66/\dK (fun g=>g=St∨Value.ownBlock (J C d.recs.length cr)=Y g) W1 wx/\(∀g,Value.ownBlock (J t (d.recs.length+1) l)=Y g->Value.ownBlock (J C d.recs.length cr)=Y g∨W1.heap.size<=g));case first=>
   go_region_law (refine iQ rfl (.tmp 17) (.tmp 19) 23 rfl low 66 i0 (.agg #[I T 0,I T 0,I T 0]) 3 24 underlying23 aO aK aP aN rfl (by decide) (J C d.recs.length cr) d.recs.length (d.recs.flatMap eE.cells) (by simp[Act.eval]) (by exact(H.out.alloc _).drew) ⟨W1.heap.size,0,Z⟩ 1 1 [I T E,I T P,I T S] (by omega) (by simp[Act.eval]) rfl (by intro j u hu;rw[Go.WideShapes.add_plain];refine(World.cell?_alloc_at _ _ _ _ (by simp)).trans ?_;simpa using hu) (by intro u hu;simp at hu;rcases hu with rfl|rfl|rfl<;>rfl) (by unfold maxLen;omega) (by omega) (by show _<=(World.alloc _ _).heap.size;simp;omega) ?_;intro v' w2 O p an;obtain⟨t,l,rfl⟩:=eB O;have K:w2.heap[St]?=W1.heap[St]?:=(p.block St (by show _<(World.alloc _ _).heap.size;simp;omega) (Ne.symm av)).trans (heap_alloc_old _ _ ac);have k4:w2.cell? ⟨St,1,Z⟩=Y (J C d.recs.length cr):=(World.cell?_of_block (w:=W1) (a:=⟨St,1,Z⟩) K).trans Q;have kf:w2.frozen? ⟨St,1,Z⟩=false:=(World.frozen?_of_block (w:=W1) (a:=⟨St,1,Z⟩) K).trans M);all_goals
    have V:∀g,g<W1.heap.size->Value.ownBlock (J C d.recs.length cr)≠some g->w2.heap[g]?=W1.heap[g]?:=fun g o aF=>(p.block g (by show _<(World.alloc _ _).heap.size;simp;omega) (Ne.symm aF)).trans (heap_alloc_old _ _ o)
    have ao:∀g,Value.ownBlock (J t (d.recs.length+1) l)=Y g->Value.ownBlock (J C d.recs.length cr)=Y g∨W1.heap.size<=g:=by
      intro g o;obtain⟨g',h1,h2⟩:=an;rw[h1]at o;cases o;exact h2.imp id (fun h=>Nat.le_trans (by show _<=(World.alloc _ _).heap.size;simp) h.1)
    have az:W1.heap.size<=w2.heap.size:=Nat.le_trans (by show _<=(World.alloc _ _).heap.size;simp) p.size;have X:w2.os=W1.os/\w2.tape=W1.tape/\w2.output=W1.output:=⟨p.os,p.tape,p.output⟩;have aE:=iS O (K.trans b.out.blk) (by decide)
    have W:Value.ownBlock (J C d.recs.length cr)≠some Mp:=fun e=>by
      rcases H.out.2 with⟨h0,_⟩|⟨g9,ai,ak,h8,_,F,_⟩
      · rw[h0]at e;simp[Value.ownBlock]at e
      · rw[h8]at e
        simp[Value.ownBlock]at e;subst e;obtain⟨es,ax,h7,_⟩:=ad.out.obj;rw[h7]at F;simp at F
    have ag:Value.ownBlock (J C d.recs.length cr)≠some w.heap.size:=fun e=>by have h8:=(ap.out.ja.lt _ e).2;omega
   all_goals go_wp2_with fail
   all_goals go_meet
   all_goals
    have i:=dH.setCell w2 ⟨St,1,Z⟩ (J t (d.recs.length+1) l);refine⟨t,l,rfl,?_,?_,?_,?_,?_,ao⟩
    · have L:=(dC.same b K).set 1 (J t (d.recs.length+1) l)
      simpa using L
    · exact dO O (fun g o=>i.block g (fun e=>aE (by have h8:g=St:=e;rw[←h8];exact o)))
    · exact ad.out.same ((i.block Mp s).trans (V Mp (by omega) W))
    · exact x.out.same ((i.block _ (Ne.symm a0)).trans (V _ (by omega) ag))
    · exact⟨i.os.trans X.1,i.tape.trans X.2.1,i.output.trans X.2.2,by rw[i.size];exact az,fun k hk hA=>(i.block k (fun e=>hA (.inl e))).trans (V k hk (fun e=>hA (.inr e)))⟩
  case rest=>
  obtain⟨t,l,rfl,af,aj,U,ah,al,am⟩:=hcut;have aC:=dA am;clear am;have aB:=dA U;obtain⟨w4,aM,ae,N⟩:=(VM.same (w':=wc.drew) U rfl).del (E - 1) 0;have f:=dA af;have aJ:=dA aj;have R:=dA ah;have aG:=dA al;have aw:=dA ae;have m:=dA N;clear af aj U ah al ae N c0 Q c2 c3 c4 c5 c6 c7 c8 c9 q c11 a3 M a8 a9 a4 a1 a7 ab a2 aa y z m0 m1 m2;have c0:=f.out.cell 0;have Q:=f.out.cell 1;have c2:=f.out.cell 2;have c3:=f.out.cell 3;have c4:=f.out.cell 4;have c5:=f.out.cell 5;have c6:=f.out.cell 6;have c7:=f.out.cell 7;have c8:=f.out.cell 8;have c9:=f.out.cell 9;have q:=f.out.cell 10;have c11:=f.out.cell 11;simp at c0 Q c2 c3 c4 c5 c6 c7 c8 c9 q c11;have m0:=R.out.cell 0;have m1:=R.out.cell 1;have m2:=R.out.cell 2;simp at m0 m1 m2;have HL:Hid (d.learn E P S={d with recs:=d.recs++[⟨E,P,S⟩],seen:=E,last:=0,di:=gH d.di (E - 1)}):=by unfold Hid SD.learn;rw[aI.out];rfl
  go_wp2_with fail;go_region;all_goals
   refine bodyPost_end (v:=.tuple #[]) (by simp[results,results252,go_sem]) rfl ⟨rfl,J t (d.recs.length+1) l,?_,?_,fun g o=>(aC.out g o).imp id (fun L=>Nat.le_trans aH L)⟩
   · rw[HL.out]
     refine⟨f.out.same (m.out.block St (Ne.symm s)),?_,aw⟩
     have L:wc.ownsRow low 66 3 (J t (d.recs.length+1) l) (d.recs++[(⟨E,P,S⟩:eE)]).length ((d.recs++[(⟨E,P,S⟩:eE)]).flatMap eE.cells):=by
       simp only[List.length_append,List.flatMap_append,List.length_cons,List.length_nil,List.flatMap_cons,List.flatMap_nil,List.append_nil];exact aJ
     refine dO L (fun g o=>m.out.block g (fun e=>?_));rcases L.2 with⟨h0,_⟩|⟨g9,ai,ak,h8,_,F,_⟩
     · rw[h0]at o;simp[Value.ownBlock]at o
     · rw[h8]at o
       simp[Value.ownBlock]at o;subst o;obtain⟨es,ax,h7,_⟩:=aB.out.obj;rw[←e,F]at h7;cases h7
   · have aD:dK (fun g=>g=St) w W1:=(dK.of_below (A:=fun _=>False) a6).trans (B:=fun g=>g=St) ⟨n.out.os,n.out.tape,n.out.output,by rw[n.out.size];exact Nat.le_refl _,fun k _ hk=>n.out.block k hk⟩ (fun _ e=>e.elim) (fun _ _ e=>e)
     have ay:=aD.trans aG (fun _ e=>.inl e) (fun _ _ e=>e);exact ay.trans (B:=fun g=>g=Mp) ⟨m.out.os,m.out.tape,m.out.output,by rw[m.out.size];exact Nat.le_refl _,fun k _ hk=>m.out.block k hk⟩ (fun _ e=>e.elim .inl (fun h=>.inr (.inr h))) (fun _ _ e=>.inr (.inl e))
theorem yC(k f e b wa p s q bl v:Int)(ms:Value)(w:World)(d:0<=e)(c:e<=1000000000000):Calls pG 245 #[.agg #[I T k,I T f,I T e,I T b,I T wa,I T p,I T s,I T q,I T bl,I T v,ms]] w fun r w'=>r=.returned (.agg #[I T (e+1),I T p,I T s])/\Below w.heap.size w w':=by have a:=(a_ w (G #[I T k,I T f,I T e,I T b,I T wa,I T p,I T s,I T q,I T bl,I T v,ms] 136)).alloc (by simp) (G #[I T (e+1),I T p,I T s] 66);go_enter func245,ntmps245;go_wp2;exact bodyPost_ret (v:=.agg #[I T (e+1),I T p,I T s]) (by simp[results,results245,go_sem]) rfl ⟨rfl,a⟩
theorem FC(k f e b wa p s q bl v:Int)(ms:Value)(w:World):Calls pG 249 #[.agg #[I T k,I T f,I T e,I T b,I T wa,I T p,I T s,I T q,I T bl,I T v,ms]] w fun r w'=>r=.returned (I T (if k=9 then 10 else 8))/\Below w.heap.size w w':=by
 have a:=a_ w (G #[I T k,I T f,I T e,I T b,I T wa,I T p,I T s,I T q,I T bl,I T v,ms] 136);by_cases c:k=9;·subst c;go_enter func249,ntmps249;go_wp2;go_ret;exact⟨rfl,a⟩
 ·have d:(k==9)=false:=by simpa using c
  rw[if_neg c];clear c;go_enter func249,ntmps249;go_wp2;go_ret;exact⟨rfl,a⟩
theorem sR(x:PV)(k f e b wa p s q bl v:Int)(ms:Value)(w:World):Calls pG 239 #[.agg #[I T x.pr,I T x.ac,I T x.pm,I T x.st],.agg #[I T k,I T f,I T e,I T b,I T wa,I T p,I T s,I T q,I T bl,I T v,ms]] w fun r w'=>r=.returned (.agg #[I T (x.after k b p s).pr,I T (x.after k b p s).ac,I T (x.after k b p s).pm,I T (x.after k b p s).st])/\Below w.heap.size w w':=by
 by_cases c:k=3;·subst c;have a:x.after 3 b p s=⟨b,b,p,s⟩:=rfl;rw[a];go_enter func239,ntmps239;go_wp2;refine bodyPost_ret (v:=.agg #[I T b,I T b,I T p,I T s]) (by simp[results,results239,go_sem]) rfl ⟨rfl,?_⟩;exact((a_ w _).alloc (by simp) _).alloc (by simp;omega) _
 ·have a:x.after k b p s=⟨b,x.ac,x.pm,x.st⟩:=by unfold PV.after;rw[if_neg c]
  have d:(k==3)=false:=by simpa using c
  rw[a];clear c a;go_enter func239,ntmps239;go_wp2;refine bodyPost_ret (v:=.agg #[I T b,I T x.ac,I T x.pm,I T x.st]) (by simp[results,results239,go_sem]) rfl ⟨rfl,?_⟩;exact((a_ w _).alloc (by simp) _).alloc (by simp;omega) _
theorem CK{w:World}{base:Nat}{e:TypeId}{size n Mp:Nat}{v:Value}{xs:List Value}{l:List (Int×PV)}(h:w.ownsRow base e size v n xs)(f:VM w Mp l):v.ownBlock≠some Mp:=by
 intro b;rcases h.2 with⟨j,_⟩|⟨m,d,c,i,_,a,_⟩;·rw[j]at b;simp[Value.ownBlock]at b
 ·rw[i]at b;simp[Value.ownBlock]at b;subst b;obtain⟨es,g,k,_⟩:=f.obj;rw[k]at a;simp at a
theorem VM.pq{w:World}{B:Nat}{l:List (Int×PV)}(h:VM w B l)(e:Int):∀w',w'.heap[B]?=w.heap[B]?->(Instr.lookup 193 (.map (Y B)) (.agg #[I T e]) false).run pG w'=.ok (.agg #[I T (dG l e).pr,I T (dG l e).ac,I T (dG l e).pm,I T (dG l e).st]) w':=fun w' a=>(h.same a).look e
theorem F8(low St:Nat)(d:SD)(vr:Value)(Mp D:Nat)(f e b wa p s q bl v:Int)(ms:Value)(w:World)(h:dZ w low St d vr Mp D):Calls pG 220 #[P0 (Y ⟨St,0,Z⟩),.agg #[I T 1,I T f,I T e,I T b,I T wa,I T p,I T s,I T q,I T bl,I T v,ms]] w fun r w'=>r=.returned (.tuple #[])/\dZ w' low St {d with di:=fX d.di e ((dG d.di e).after 1 b p s)} vr Mp D/\dK (fun g=>g=Mp) w w':=by have t:=a_ w (G #[I T 1,I T f,I T e,I T b,I T wa,I T p,I T s,I T q,I T bl,I T v,ms] 136);have E:=dA (dC.new w #[I T 1,I T f,I T e,I T b,I T wa,I T p,I T s,I T q,I T bl,I T v,ms] 136);have n:=dA (h.later t);have R:=dA t;clear h t;go_enter func220,ntmps220;go_upto_region 1 with fail;generalize (w.alloc (G #[I T 1,I T f,I T e,I T b,I T wa,I T p,I T s,I T q,I T bl,I T v,ms] 136))=W0 at*;have Q:=n.out.blk.cell 2;simp at Q;obtain⟨m0,m1,m2,m3,m4,m5,m6,m7,m8,W,F⟩:=E.out.c11;have L:=n.out.blk.lt;have l:=E.out.lt;have C:=n.out.iy.lt;have N:=n.out.iy.pq e;have U:=n.out.iy.pq e W0.drew rfl;clear N;go_wp2_with fail;have m:=n.out.iy.ne n.out.blk;have c:=n.out.iy.ne E;refine eR (S:=(fun w'=>w'.cell? ⟨St,2,Z⟩=Y (Value.map (Y Mp))/\w'.cell? ⟨w.heap.size,0,Z⟩=Y (I T 1)/\w'.cell? ⟨w.heap.size,1,Z⟩=Y (I T f)/\w'.cell? ⟨w.heap.size,2,Z⟩=Y (I T e)/\w'.cell? ⟨w.heap.size,3,Z⟩=Y (I T b)/\w'.cell? ⟨w.heap.size,4,Z⟩=Y (I T wa)/\w'.cell? ⟨w.heap.size,5,Z⟩=Y (I T p)/\w'.cell? ⟨w.heap.size,6,Z⟩=Y (I T s)/\w'.cell? ⟨w.heap.size,7,Z⟩=Y (I T q)/\w'.cell? ⟨w.heap.size,8,Z⟩=Y (I T bl)/\w'.cell? ⟨w.heap.size,9,Z⟩=Y (I T v)/\w'.cell? ⟨w.heap.size,10,Z⟩=Y (ms))) fun _=>?_;refine tk 0 ?_;refine tk 1 ?_;refine tk 2 ?_;refine tk 3 ?_;refine tk 4 ?_;refine tk 5 ?_;refine tk 6 ?_;refine tk 7 ?_;refine tk 8 ?_;refine tk 9 ?_;refine tk 10 ?_;refine tk 11 ?_;refine tk 12 ?_;refine tk 13 ?_;refine tk 15 ?_;refine dE 14 fun K o=>?_;(try go_simp);refine k1 o fun _=>?_;clear o K;refine dE 16 fun K o=>?_;(try go_simp);go_at_call 239;refine(sR (dG d.di e) 1 f e b wa p s q bl v ms _).mono ?_;rintro r w3 ⟨rfl,i⟩;have z0:=(i.cell (p:=⟨St,2,Z⟩) L).trans Q;have z1:=(i.cell (p:=⟨w.heap.size,0,Z⟩) l).trans m0;have z2:=(i.cell (p:=⟨w.heap.size,1,Z⟩) l).trans m1;have z3:=(i.cell (p:=⟨w.heap.size,2,Z⟩) l).trans m2;have X:=(i.cell (p:=⟨w.heap.size,3,Z⟩) l).trans m3;have z5:=(i.cell (p:=⟨w.heap.size,4,Z⟩) l).trans m4;have z6:=(i.cell (p:=⟨w.heap.size,5,Z⟩) l).trans m5;have z7:=(i.cell (p:=⟨w.heap.size,6,Z⟩) l).trans m6;have z8:=(i.cell (p:=⟨w.heap.size,7,Z⟩) l).trans m7;have z9:=(i.cell (p:=⟨w.heap.size,8,Z⟩) l).trans m8;have M:=(i.cell (p:=⟨w.heap.size,9,Z⟩) l).trans W;have O:=(i.cell (p:=⟨w.heap.size,10,Z⟩) l).trans F;obtain⟨w4,x,u,a⟩:=((n.out.iy.same (w':=w3) (i.block Mp C))).put e ((dG d.di e).after 1 b p s);unfold hQ at x;have H:=dA u;have j:=dA a;have y0:=(a.cell (p:=⟨St,2,Z⟩) (Ne.symm m)).trans z0;have y1:=(a.cell (p:=⟨w.heap.size,0,Z⟩) (Ne.symm c)).trans z1;have y2:=(a.cell (p:=⟨w.heap.size,1,Z⟩) (Ne.symm c)).trans z2;have y3:=(a.cell (p:=⟨w.heap.size,2,Z⟩) (Ne.symm c)).trans z3;have y4:=(a.cell (p:=⟨w.heap.size,3,Z⟩) (Ne.symm c)).trans X;have y5:=(a.cell (p:=⟨w.heap.size,4,Z⟩) (Ne.symm c)).trans z5;have y6:=(a.cell (p:=⟨w.heap.size,5,Z⟩) (Ne.symm c)).trans z6;have y7:=(a.cell (p:=⟨w.heap.size,6,Z⟩) (Ne.symm c)).trans z7;have y8:=(a.cell (p:=⟨w.heap.size,7,Z⟩) (Ne.symm c)).trans z8;have y9:=(a.cell (p:=⟨w.heap.size,8,Z⟩) (Ne.symm c)).trans z9;have a0:=(a.cell (p:=⟨w.heap.size,9,Z⟩) (Ne.symm c)).trans M;have a1:=(a.cell (p:=⟨w.heap.size,10,Z⟩) (Ne.symm c)).trans O;clear u a;refine k1 o fun _=>?_;clear o K;refine dE 17 fun K o=>?_;(try go_simp);refine k1 o fun _=>?_;clear o K;refine dn ?_;go_wp2;have gB:=n.out.drew.later i;have z:=CK gB.ja gB.iy;refine bodyPost_end (v:=.tuple #[]) (by simp[results,results220,go_sem]) rfl ⟨rfl,⟨gB.blk.same (j.out.block St (Ne.symm m)),dO gB.ja (fun g hg=>j.out.block g (fun y=>z (by rw[←y];exact hg))),H⟩,?_⟩;exact(dK.of_below (A:=fun _=>False) (R.out.drew.trans (i.mono R.out.size))).trans (B:=fun g=>g=Mp) ⟨j.out.os,j.out.tape,j.out.output,by rw[j.out.size];exact Nat.le_refl _,fun k _ V=>j.out.block k V⟩ (fun _ y=>y.elim) (fun _ _ y=>y)
theorem F9(low St:Nat)(d:SD)(vr:Value)(Mp D:Nat)(f e b wa p s q bl v:Int)(ms:Value)(w:World)(h:dZ w low St d vr Mp D):Calls pG 220 #[P0 (Y ⟨St,0,Z⟩),.agg #[I T 3,I T f,I T e,I T b,I T wa,I T p,I T s,I T q,I T bl,I T v,ms]] w fun r w'=>r=.returned (.tuple #[])/\dZ w' low St {d with di:=fX d.di e ((dG d.di e).after 3 b p s)} vr Mp D/\dK (fun g=>g=Mp) w w':=by have t:=a_ w (G #[I T 3,I T f,I T e,I T b,I T wa,I T p,I T s,I T q,I T bl,I T v,ms] 136);have E:=dA (dC.new w #[I T 3,I T f,I T e,I T b,I T wa,I T p,I T s,I T q,I T bl,I T v,ms] 136);have n:=dA (h.later t);have R:=dA t;clear h t;go_enter func220,ntmps220;go_upto_region 1 with fail;generalize (w.alloc (G #[I T 3,I T f,I T e,I T b,I T wa,I T p,I T s,I T q,I T bl,I T v,ms] 136))=W0 at*;have Q:=n.out.blk.cell 2;simp at Q;obtain⟨m0,m1,m2,m3,m4,m5,m6,m7,m8,W,F⟩:=E.out.c11;have L:=n.out.blk.lt;have l:=E.out.lt;have C:=n.out.iy.lt;have N:=n.out.iy.pq e;have U:=n.out.iy.pq e W0.drew rfl;clear N;go_wp2_with fail;have m:=n.out.iy.ne n.out.blk;have c:=n.out.iy.ne E;refine eR (S:=(fun w'=>w'.cell? ⟨St,2,Z⟩=Y (Value.map (Y Mp))/\w'.cell? ⟨w.heap.size,0,Z⟩=Y (I T 3)/\w'.cell? ⟨w.heap.size,1,Z⟩=Y (I T f)/\w'.cell? ⟨w.heap.size,2,Z⟩=Y (I T e)/\w'.cell? ⟨w.heap.size,3,Z⟩=Y (I T b)/\w'.cell? ⟨w.heap.size,4,Z⟩=Y (I T wa)/\w'.cell? ⟨w.heap.size,5,Z⟩=Y (I T p)/\w'.cell? ⟨w.heap.size,6,Z⟩=Y (I T s)/\w'.cell? ⟨w.heap.size,7,Z⟩=Y (I T q)/\w'.cell? ⟨w.heap.size,8,Z⟩=Y (I T bl)/\w'.cell? ⟨w.heap.size,9,Z⟩=Y (I T v)/\w'.cell? ⟨w.heap.size,10,Z⟩=Y (ms))) fun _=>?_;refine tk 0 ?_;refine tk 1 ?_;refine tk 2 ?_;refine tk 3 ?_;refine tk 4 ?_;refine tk 5 ?_;refine tk 6 ?_;refine tk 7 ?_;refine tk 8 ?_;refine tk 9 ?_;refine tk 10 ?_;refine tk 11 ?_;refine tk 12 ?_;refine tk 13 ?_;refine tk 15 ?_;refine dE 14 fun K o=>?_;(try go_simp);refine k1 o fun _=>?_;clear o K;refine dE 16 fun K o=>?_;(try go_simp);go_at_call 239;refine(sR (dG d.di e) 3 f e b wa p s q bl v ms _).mono ?_;rintro r w3 ⟨rfl,i⟩;have z0:=(i.cell (p:=⟨St,2,Z⟩) L).trans Q;have z1:=(i.cell (p:=⟨w.heap.size,0,Z⟩) l).trans m0;have z2:=(i.cell (p:=⟨w.heap.size,1,Z⟩) l).trans m1;have z3:=(i.cell (p:=⟨w.heap.size,2,Z⟩) l).trans m2;have X:=(i.cell (p:=⟨w.heap.size,3,Z⟩) l).trans m3;have z5:=(i.cell (p:=⟨w.heap.size,4,Z⟩) l).trans m4;have z6:=(i.cell (p:=⟨w.heap.size,5,Z⟩) l).trans m5;have z7:=(i.cell (p:=⟨w.heap.size,6,Z⟩) l).trans m6;have z8:=(i.cell (p:=⟨w.heap.size,7,Z⟩) l).trans m7;have z9:=(i.cell (p:=⟨w.heap.size,8,Z⟩) l).trans m8;have M:=(i.cell (p:=⟨w.heap.size,9,Z⟩) l).trans W;have O:=(i.cell (p:=⟨w.heap.size,10,Z⟩) l).trans F;obtain⟨w4,x,u,a⟩:=((n.out.iy.same (w':=w3) (i.block Mp C))).put e ((dG d.di e).after 3 b p s);unfold hQ at x;have H:=dA u;have j:=dA a;have y0:=(a.cell (p:=⟨St,2,Z⟩) (Ne.symm m)).trans z0;have y1:=(a.cell (p:=⟨w.heap.size,0,Z⟩) (Ne.symm c)).trans z1;have y2:=(a.cell (p:=⟨w.heap.size,1,Z⟩) (Ne.symm c)).trans z2;have y3:=(a.cell (p:=⟨w.heap.size,2,Z⟩) (Ne.symm c)).trans z3;have y4:=(a.cell (p:=⟨w.heap.size,3,Z⟩) (Ne.symm c)).trans X;have y5:=(a.cell (p:=⟨w.heap.size,4,Z⟩) (Ne.symm c)).trans z5;have y6:=(a.cell (p:=⟨w.heap.size,5,Z⟩) (Ne.symm c)).trans z6;have y7:=(a.cell (p:=⟨w.heap.size,6,Z⟩) (Ne.symm c)).trans z7;have y8:=(a.cell (p:=⟨w.heap.size,7,Z⟩) (Ne.symm c)).trans z8;have y9:=(a.cell (p:=⟨w.heap.size,8,Z⟩) (Ne.symm c)).trans z9;have a0:=(a.cell (p:=⟨w.heap.size,9,Z⟩) (Ne.symm c)).trans M;have a1:=(a.cell (p:=⟨w.heap.size,10,Z⟩) (Ne.symm c)).trans O;clear u a;refine k1 o fun _=>?_;clear o K;refine dE 17 fun K o=>?_;(try go_simp);refine k1 o fun _=>?_;clear o K;refine dn ?_;go_wp2;have gB:=n.out.drew.later i;have z:=CK gB.ja gB.iy;refine bodyPost_end (v:=.tuple #[]) (by simp[results,results220,go_sem]) rfl ⟨rfl,⟨gB.blk.same (j.out.block St (Ne.symm m)),dO gB.ja (fun g hg=>j.out.block g (fun y=>z (by rw[←y];exact hg))),H⟩,?_⟩;exact(dK.of_below (A:=fun _=>False) (R.out.drew.trans (i.mono R.out.size))).trans (B:=fun g=>g=Mp) ⟨j.out.os,j.out.tape,j.out.output,by rw[j.out.size];exact Nat.le_refl _,fun k _ V=>j.out.block k V⟩ (fun _ y=>y.elim) (fun _ _ y=>y)
end Go.Proofs.YtdcainmlcpafbaaGreatDoor
