import Derived.Test.YtdcainmlcpafbaaGreatDoorJ05
import Derived.ChangeKeysEq
import Derived.Laws.StructEq
import Derived.MapKept
import Derived.Deep.DeepCutAuto
set_option linter.all false
set_option maxHeartbeats 8000000
set_option maxRecDepth 20000
namespace Go.Proofs.YtdcainmlcpafbaaGreatDoor
open Go.RowKit
open Value renaming slice->J,pointer->P0
open Tryz
open Tryz renaming prog->pG
open IntKind renaming i64->T
open Option renaming none->Z,some->Y
open Obj renaming cells->G
open Value (bool)
def DM:∃f:Field,(Tryz.prog.fieldsOf 321).toList=[f]/\f.name = "epoch" /\f.type=3/\f.offset=0:=by
 have h:(Tryz.prog.fieldsOf 321).toList.map (λf=>(f.name,f.type,f.offset))=[("epoch",3,0)]:=kG;cases hl:(Tryz.prog.fieldsOf 321).toList with
 |nil=>rw[hl]at h;simp at h
 |cons f fs=>rw[hl]at h;simp only[List.map_cons,List.cons.injEq,Prod.mk.injEq,List.map_eq_nil_iff]at h;exact⟨f,by rw[h.2],h.1.1,h.1.2.1,h.1.2.2⟩
def xN:Tryz.prog.underlying 321=Y (.struct (Tryz.prog.fieldsOf 321)):=kG
def NU:Tryz.prog.stoodInHeld 321=false:=kG
def FO(a:Int)(w:World):(part 3 #[I a] 0).run pG w=.ok (I a) w:=by have h:=jL (w:=w) #[Value.int .i64 a] 0 (I a);exact h rfl
def O9(a b:Int)(w:World):(Op.equal 321 (.agg #[I a]) (.agg #[I b])).run pG w=.ok (a==b) w:=by obtain⟨f,c,e,d,g⟩:=DM;show(Op.equalIn 10000 321 _ _).run _ _=_;rw[run_equalIn_struct w 9999 321 _ _ xN NU,c];simp only[Op.eqFields,e,d,g,Sem.run_bind,Sem.run_ite,FO,Result.andThen_ok,run_equalIn_int w 9998 3 .i64 .i64 _ _ underlying3];by_cases h:a=b<;>simp[h]
def tE(b:Bool)(a:Int)(w:World):(Instr.checkKey b 10000 321 (.agg #[I a])).run pG w=.ok () w:=by obtain⟨f,c,e,d,g⟩:=DM;rw[show(10000:Nat)=9998+1+1 from rfl];unfold Instr.checkKey;simp only[Sem.run_bind,run_underlying xN,Result.andThen_ok];rw[←Array.forIn_toList,c];simp only[List.forIn_cons,List.forIn_nil,e,d,g,Sem.run_bind,Sem.run_ite,FO,Result.andThen_ok];unfold Instr.checkKey;simp[run_underlying underlying3]
structure PV where
 pr:Int
 ac:Int
 pm:Int
 st:Int
def PV.after(x:PV)(k b p s:Int):PV:=if k=3 then⟨b,b,p,s⟩ else{x with pr:=b}
def iN(x:PV):Value:=.agg #[I x.pr,I x.ac,I x.pm,I x.st]
def gY(e:Int):Value:=.agg #[I e]
def pP(bs:List Nat)(clk:Nat):Prop:=(∀b∈bs,b<clk)/\bs.Nodup
def pP.snoc{f:List Nat}{c:Nat}(h:pP f c):pP (f++[c]) (c+1):=by
 refine⟨λb e=>?_,?_⟩
 ·rcases List.mem_append.1 e with d|d;·have:=h.1 b d;omega
  ·simp at d;omega
 ·rw[List.nodup_append];refine⟨h.2,sG,λa g b e=>?_⟩;simp at e;have:=h.1 a g;omega
def pP.sub{c cs:List Nat}{a:Nat}(h:pP c a)(hs:cs.Sublist c):pP cs a:=⟨λb d=>h.1 b (hs.subset d),hs.nodup h.2⟩
def AK(f:MapEntry->MapEntry)(a:∀x,(f x).born=x.born):∀(l:List MapEntry) (j:Nat),(l.modify j f).map (·.born)=l.map (·.born)
 | [],j=>by cases j<;>simp
 |x::l,0=>by simp[a]
 |x::l,j+1=>by simp[AK f a l j]
structure VM(w:World)(B:Nat)(l:List (Int×PV)):Prop where
 obj:∃(es:Array MapEntry) (clk:Nat),w.1[B]?=Y (.map es clk)/\es.toList.map (λe=>(e.key,e.val))=l.map (λx=>(gY x.1,iN x.2))/\pP (es.toList.map (·.born)) clk
def iY(e:Int):List (Int×PV)->Nat->Option (Nat×Value)
 | [],_=>none
 |x::l,i=>if e=x.1 then some (i,iN x.2) else iY e l (i+1)
def dJ(l:List (Int×PV))(e:Int):PV:=((l.find? (λx=>e==x.1)).map (·.2)).getD ⟨0,0,0,0⟩
def f8:List (Int×PV)->Int->PV->List (Int×PV)
 | [],e,x=>[(e,x)]
 |y::l,e,x=>if e=y.1 then(e,x)::l else y::f8 l e x
def fT:List (Int×PV)->Int->List (Int×PV)
 | [],_=>[]
 |y::l,e=>if e=y.1 then l else y::fT l e
def vmGet_put(l:List (Int×PV))(e a:Int)(x:PV):dJ (f8 l e x) a=if a=e then x else dJ l a:=by
 induction l with
 |nil=>unfold f8 dJ;by_cases h:a=e<;>simp[h]
 |cons y l ih=>
  unfold f8;by_cases h:e=y.1
  ·rw[if_pos h];by_cases h':a=e;·simp[dJ,h']
   ·simp[dJ,h',show¬a=y.1 by omega]
  ·rw[if_neg h];by_cases h':a=y.1;·simp[dJ,h',show¬y.1=e by omega]
   ·have:∀b,dJ (y::b) a=dJ b a:=by intro b;simp[dJ,h']
    rw[this,this,ih]
def vmGet_del(l:List (Int×PV))(e a:Int)(c:a≠e):dJ (fT l e) a=dJ l a:=by
 induction l with
 |nil=>rfl
 |cons y l ih=>
  unfold fT;by_cases h:e=y.1;·rw[if_pos h];simp[dJ,show¬a=y.1 by omega]
  ·rw[if_neg h];by_cases h':a=y.1;·simp[dJ,h']
   ·have:∀b,dJ (y::b) a=dJ b a:=by intro b;simp[dJ,h']
    rw[this,this,ih]
def BP(l:List (Int×PV))(e:Int)(x:PV):(f8 l e x).length<=l.length+1:=by
 induction l with
 |nil=>simp[f8]
 |cons y l ih=>unfold f8;split<;>simp<;>omega
def KA(l:List (Int×PV))(e:Int):(fT l e).length<=l.length:=by
 induction l with
 |nil=>simp[fT]
 |cons y l ih=>unfold fT;split<;>simp<;>omega
def NV(e:Int)(w:World):∀(es:List MapEntry) (l:List (Int×PV)) (i:Nat),es.map (λe=>(e.key,e.val))=l.map (λx=>(gY x.1,iN x.2))->(Instr.findAsking 321 (gY e) es i).run pG w=.ok (iY e l i) w:=by
 intro es
 induction es with
 | nil=>intro l i h;cases l with
  |nil=>simp[Instr.findAsking,iY]
  |cons y l=>simp at h
 |cons a es ih=>
  intro l i h
  cases l with
  |nil=>simp at h
  |cons y l=>
   simp only[List.map_cons,List.cons.injEq,Prod.mk.injEq]at h;simp only[Instr.findAsking,iY,Sem.run_bind,h.1.1,h.1.2];rw[show(Op.equal 321 (gY e) (gY y.1)).run pG w=.ok (e==y.1) w from O9 e y.1 w];simp only[Result.andThen_ok]
   by_cases b:e=y.1
   ·simp[b]
   ·simp[b];exact ih l (i+1) h.2
def xC(e:Int)(w:World)(es:List MapEntry)(l:List (Int×PV))(h:es.map (λe=>(e.key,e.val))=l.map (λx=>(gY x.1,iN x.2))):(Instr.findKey 321 (gY e) es).run pG w=.ok (iY e l 0) w:=by
 unfold Instr.findKey;simp only[Sem.run_bind,run_underlying xN,Result.andThen_ok]
 cases es with
 | nil=>cases l with
  |nil=>simp[Instr.findNow,iY]
  |cons y l=>simp at h
 |cons a es=>
  have b:Instr.findNow (.struct (Tryz.prog.fieldsOf 321)) (gY e) (a::es) 0=none:=by simp[Instr.findNow,Instr.sameNow]
  rw[b];exact NV e w (a::es) l 0 h
def L0(e:Int):∀(l:List (Int×PV)) (i:Nat),(iY e l i).map (·.2)=(l.find? (λx=>e==x.1)).map (λx=>iN x.2):=by
 intro l;induction l with
 |nil=>intro i;rfl
 |cons y l ih=>
  intro i;unfold iY;by_cases h:e=y.1;·simp[h]
  ·simp[h,ih]
def NW:(Tryz.prog.info? 284).map (λi=>(i.zero,i.size,i.bytes))=Y (Y (.agg #[I 0,I 0,I 0,I 0]),4,32):=kG
def NX(w:World):(zeroValue 284).run pG w=.ok (iN ⟨0,0,0,0⟩) w:=by obtain⟨e,b,a,d,c⟩:=info_parts NW;simp[zeroValue,run_typeInfo w b,a,iN]
def oI{w:World}{r:Nat}{es:Array MapEntry}{a:Nat}(b:w.1[r]?=Y (.map es a)):(getObj r).run pG w=.ok (.map es a) w:=by simp[getObj,Sem.run,b]
def tF{w:World}{r:Nat}{es:Array MapEntry}{a:Nat}(o:Obj)(b:w.1[r]?=Y (.map es a)):(setObj r o).run pG w=.ok () {w with heap:=w.1.setIfInBounds r o}:=by simp[setObj,Sem.run,b]
section
variable {w w':World} {B:Nat} {l:List (Int×PV)}
def VM.lt(h:VM w B l):B<w.1.size:=by obtain⟨es,b,a,_⟩:=h.1;exact(Array.getElem?_eq_some_iff.1 a).1
def VM.same(h:VM w B l)(d:w'.1[B]?=w.1[B]?):VM w' B l:=by obtain⟨es,a,b,e,c⟩:=h.1;exact⟨es,a,d.trans b,e,c⟩
def VM.later(h:VM w B l)(a:Bw w w'):VM w' B l:=h.same (a.block B h.lt)
def VM.ne(h:VM w B l){C:Nat}{cs:Array Value}{t:TypeId}(h':dI w C cs t):B≠C:=by intro a;subst a;obtain⟨es,b,c,_⟩:=h.1;have:=c.symm.trans h'.blk;simp at this
def VM.look(h:VM w B l)(e:Int):(Instr.lookup 193 (.map (Y B)) (.agg #[I e]) false).run pG w=.ok (iN (dJ l e)) w:=by
 obtain⟨es,d,f,c,g⟩:=h.1;have b:=xC e w es.toList l c;have a:=L0 e l 0;unfold gY at b;unfold Instr.lookup;simp only[Sem.run_bind,run_underlying underlying193,Result.andThen_ok,oI f,Sem.run_pure,tE,b];unfold dJ;cases hx:iY e l 0 with
 |none=>
  rw[hx]at a;simp only[Option.map_none]at a;have:l.find? (λx=>e==x.1)=none:=by
   cases hq:l.find? (λx=>e==x.1) with
   |none=>rfl
   |some y=>rw[hq]at a;simp at a
  simp[this,NX];rfl
 |some y=>
  rw[hx]at a;cases hq:l.find? (λx=>e==x.1) with
  |none=>rw[hq]at a;simp at a
  |some z=>rw[hq]at a;simp at a;simp[a]
def VM.size(h:VM w B l):∃(es:Array MapEntry) (a:Nat),w.1[B]?=Y (.map es a)/\es.size=l.length:=by obtain⟨es,a,c,b,d⟩:=h.1;refine⟨es,a,c,?_⟩;have:=congrArg List.length b;simpa using this
def nT(w:World)(B:Nat)(o:Obj)(a:B<w.1.size):({w with heap:=w.1.setIfInBounds B o}:World).1[B]?=Y o/\dM B w {w with heap:=w.1.setIfInBounds B o}:=by refine⟨by simp[a],⟨rfl,rfl,rfl,sG,λk b=>?_⟩⟩;simp[Array.getElem?_setIfInBounds,Ne.symm b]
def L1(e:Int)(x:PV):∀(es:List MapEntry) (l:List (Int×PV)) (i:Nat),es.map (λe=>(e.key,e.val))=l.map (λx=>(gY x.1,iN x.2))->
  (∀j u,iY e l i=Y (j,u)->i<=j/\j - i<es.length/\(es[j - i]?).map (·.key)=Y (gY e)/\(es.modify (j - i) (λa=>{a with key:=gY e,val:=iN x})).map (λe=>(e.key,e.val))=(f8 l e x).map (λx=>(gY x.1,iN x.2)))/\
  (iY e l i=none->∀b,(es++[(⟨gY e,iN x,b⟩:MapEntry)]).map (λe=>(e.key,e.val))=(f8 l e x).map (λx=>(gY x.1,iN x.2))):=by
 intro es
 induction es with
 | nil=>intro l i h;cases l with
  |nil=>exact⟨λj u d=>by simp[iY]at d,λ_ b=>by simp[f8]⟩
  |cons y l=>simp at h
 |cons a es ih=>
  intro l i h
  cases l with
  |nil=>simp at h
  |cons y l=>
   have o:=h;simp only[List.map_cons,List.cons.injEq,Prod.mk.injEq]at h;obtain⟨m,k⟩:=ih l (i+1) h.2
   by_cases c:e=y.1
   ·refine⟨λj u d=>?_,λf=>by simp[iY,c]at f⟩;simp[iY,c]at d;obtain⟨rfl,_⟩:=d;refine⟨oG,sG,by simp[h.1.1,c],?_⟩;simp[f8,c,h.2]
   ·refine⟨λj u d=>?_,λf b=>?_⟩
    ·simp[iY,c]at d;obtain⟨p,q,n,g⟩:=m j u d;have hs:j - i=(j - (i+1))+1:=oG
     refine⟨oG,nG,by rw[hs];simpa using n,?_⟩;rw[hs];simp only[List.modify_succ_cons,List.map_cons,f8,if_neg c,g,h.1.1,h.1.2]
    ·simp[iY,c]at f;have:=k f b;simp only[List.cons_append,List.map_cons,f8,if_neg c,this,h.1.1,h.1.2]
def IL(e:Int):Instr.sameBits 10000 (gY e) (gY e)=true:=by unfold gY;rw[show(10000:Nat)=9999+1 from rfl];simp[Instr.sameBits]
def VM.put(h:VM w B l)(e:Int)(x:PV):∃w',(Instr.mapUpdate 193 (.map (Y B)) (.agg #[I e]) (iN x)).run pG w=.ok () w'/\VM w' B (f8 l e x)/\dM B w w':=by
 obtain⟨es,b,d,i,k⟩:=h.1;have c:=xC e w es.toList l i;obtain⟨o,n⟩:=L1 e x es.toList l 0 i;have f:=h.lt;unfold gY at c;unfold Instr.mapUpdate;cases hx:iY e l 0 with
 |none=>
  rw[hx]at c;refine⟨{w with heap:=w.1.setIfInBounds B (.map (es.push ⟨gY e,iN x,b⟩) (b+1))},?_,⟨_,_,(nT w B _ f).1,?_,?_⟩,(nT w B _ f).2⟩;·simp only[Sem.run_bind,run_underlying underlying193,Result.andThen_ok,oI d,tE,c];exact tF _ d
  ·rw[Array.toList_push];exact n hx b
  ·rw[Array.toList_push,List.map_append];exact k.snoc
 |some y=>
  obtain⟨j,u⟩:=y;obtain⟨r,p,m,g⟩:=o j u hx;rw[hx]at c;simp only[Nat.sub_zero]at p m g;have q:(es[j]?).map (·.key)=Y (gY e):=by simpa using m
  refine⟨{w with heap:=w.1.setIfInBounds B (.map (es.modify j (λa=>{a with key:=gY e,val:=iN x})) b)},?_,⟨_,_,(nT w B _ f).1,?_,?_⟩,(nT w B _ f).2⟩;·simp only[Sem.run_bind,run_underlying underlying193,Result.andThen_ok,oI d,tE,c,q,Option.getD_some];have hs:=IL e;unfold gY at hs⊢;simp only[Instr.keyThatStays,hs,if_true,Sem.run_pure,Result.andThen_ok];exact tF _ d
  ·rw[Array.toList_modify];exact g
  ·rw[Array.toList_modify,AK (λa=>{a with key:=gY e,val:=iN x}) (λ_=>rfl)];exact k
def L2(e:Int):∀(es:List MapEntry) (l:List (Int×PV)) (i:Nat),es.map (λe=>(e.key,e.val))=l.map (λx=>(gY x.1,iN x.2))->
  (∀j u,iY e l i=Y (j,u)->i<=j/\(es.eraseIdx (j - i)).map (λe=>(e.key,e.val))=(fT l e).map (λx=>(gY x.1,iN x.2)))/\(iY e l i=none->fT l e=l):=by
 intro es
 induction es with
 | nil=>intro l i h;cases l with
  |nil=>exact⟨λj u b=>by simp[iY]at b,λ_=>rfl⟩
  |cons y l=>simp at h
 |cons a es ih=>
  intro l i h
  cases l with
  |nil=>simp at h
  |cons y l=>
   simp only[List.map_cons,List.cons.injEq,Prod.mk.injEq]at h;obtain⟨g,f⟩:=ih l (i+1) h.2
   by_cases c:e=y.1
   ·refine⟨λj u b=>?_,λd=>by simp[iY,c]at d⟩;simp[iY,c]at b;obtain⟨rfl,_⟩:=b;exact⟨oG,by simp[fT,c,h.2]⟩
   ·refine⟨λj u b=>?_,λd=>?_⟩
    ·simp[iY,c]at b;obtain⟨m,k⟩:=g j u b;have hs:j - i=(j - (i+1))+1:=oG
     refine⟨oG,?_⟩;rw[hs];simp only[List.eraseIdx_cons_succ,List.map_cons,fT,if_neg c,k,h.1.1,h.1.2]
    ·simp[iY,c]at d;rw[fT,if_neg c,f d]
def VM.del(h:VM w B l)(e:Int)(ty:TypeId):∃w',(Builtin.delete_ #[193,321] ty #[.map (Y B),.agg #[I e]]).run pG w=.ok (.tuple #[]) w'/\VM w' B (fT l e)/\dM B w w':=by
 obtain⟨es,a,c,f,g⟩:=h.1;have b:=xC e w es.toList l f;obtain⟨k,m⟩:=L2 e es.toList l 0 f;have d:=h.lt;unfold gY at b;unfold Builtin.delete_;cases hx:iY e l 0 with
 |none=>rw[hx]at b;refine⟨{w with heap:=w.1.setIfInBounds B (.map es a)},?_,⟨es,a,(nT w B _ d).1,by rw[m hx];exact f,g⟩,(nT w B _ d).2⟩;simp only[List.getElem?_toArray,List.getElem?_cons_zero,List.getElem?_cons_succ,Sem.run_bind,run_underlying underlying193,Result.andThen_ok,oI c,tE,b,tF _ c,Sem.run_pure]
 |some y=>
  obtain⟨j,u⟩:=y;obtain⟨n,i⟩:=k j u hx;rw[hx]at b;simp only[Nat.sub_zero]at i;refine⟨{w with heap:=w.1.setIfInBounds B (.map (es.eraseIdxIfInBounds j) a)},?_,⟨_,_,(nT w B _ d).1,?_,?_⟩,(nT w B _ d).2⟩;·simp only[List.getElem?_toArray,List.getElem?_cons_zero,List.getElem?_cons_succ,Sem.run_bind,run_underlying underlying193,Result.andThen_ok,oI c,tE,b,tF _ c,Sem.run_pure]
  ·rw[Array.toList_eraseIdxIfInBounds];exact i
  ·rw[Array.toList_eraseIdxIfInBounds];exact g.sub ((List.eraseIdx_sublist _ _).map _)
end
structure SD where
 id:Int
 recs:List eM
 kv:List (Int×PV)
 b0:Int
 b1:Int
 b2:Int
 b3:Int
 seen:Int
 last:Int
 lines:Int
 wh:Bool
structure eI(w:World)(low St:Nat)(d:SD)(vr:Value)(Mp D:Nat):Prop where
 blk:dI w St #[I d.id,vr,Value.map (Y Mp),I d.b0,I d.b1,I d.b2,I d.b3,I d.seen,I d.last,P0 (Y ⟨D,0,Z⟩),I d.lines,bool d.wh] 200
 ji:w.ownsRow low 66 3 vr d.recs.length (d.recs.flatMap eM.cells)
 jg:VM w Mp d.3
structure rY(w:World)(Nd:Nat)(id nodes nb:Int)(St:Nat)(act:Bool):Prop where
 blk:dI w Nd #[I id,I nodes,I nb,P0 (Y ⟨St,0,Z⟩),bool false,bool act,I 0,I 0,I 0,I 0,I 0,I 0,I 0,I 0,I 0,I 0,I 0,I 0,I 0,I 0,I 0,I 0,I 0,J Z 0 0,Value.map none,I 0,I 0,I 0,I 0,I 0,I 0,I 0,I 0,I 0,I 0,I 0,J Z 0 0,Value.map none,I 0,J Z 0 0] 192
section
variable {w w':World} {low St Mp D Nd:Nat} {d:SD} {vr:Value} {id nodes nb:Int} {act:Bool}
def eI.later(h:eI w low St d vr Mp D)(a:Bw w w'):eI w' low St d vr Mp D:=⟨h.blk.later a,dW h.ji (λg b=>a.block g (h.ji.lt g b).2),h.jg.later a⟩
def rY.later(h:rY w Nd id nodes nb St act)(a:Bw w w'):rY w' Nd id nodes nb St act:=⟨h.blk.later a⟩
def eI.drew(h:eI w low St d vr Mp D):eI w.drew low St d vr Mp D:=⟨h.blk.drew,h.ji.drew,⟨h.jg.1⟩⟩
def rY.drew(h:rY w Nd id nodes nb St act):rY w.drew Nd id nodes nb St act:=⟨h.blk.drew⟩
end
def SD.ek(d:SD):eM:=d.recs.getD (d.recs.length - 1) ⟨0,0,0⟩
def oX(low St:Nat)(d:SD)(vr:Value)(Mp D:Nat)(w:World)(h:eI w low St d vr Mp D)(e:0<d.recs.length)(b:d.recs.length<=100000000):Calls pG 179 #[P0 (Y ⟨St,0,Z⟩)] w λr w'=>r=.returned (I ((d.recs.length:Int) - 1))/\w'=w:=by obtain⟨a,c,f⟩:=eK h.ji;subst f;have g:=h.blk.cell 1;simp at g;go_enter func179,ntmps179;go_wp2;go_ret;exact⟨rfl,rfl⟩
def AW(low St:Nat)(d:SD)(vr:Value)(Mp D:Nat)(i:Nat)(w:World)(h:eI w low St d vr Mp D)(hi:i<d.recs.length)(b:d.recs.length<=100000000):Calls pG 181 #[P0 (Y ⟨St,0,Z⟩),I (i:Int)] w λr w'=>r=.returned (.agg #[I (d.recs.getD i ⟨0,0,0⟩).E,I (d.recs.getD i ⟨0,0,0⟩).P,I (d.recs.getD i ⟨0,0,0⟩).S])/\Bw w w':=by
 have o:=h.blk.cell 1;simp at o;obtain⟨g,m,f,p,a⟩:=(fM.ig h.ji).at oG;subst f;have j:=a _ _ (lY eM.cells 3 tT d.recs i hi 0 oG);have c:=a _ _ (lY eM.cells 3 tT d.recs i hi 1 oG);have n:=a _ _ (lY eM.cells 3 tT d.recs i hi 2 oG);have e:d.recs.getD i ⟨0,0,0⟩=d.recs[i]:=by rw[List.getD_eq_getElem?_getD,List.getElem?_eq_getElem hi];rfl
 rw[e];simp[eM.cells]at j c n;have k:(i:Int)<(d.recs.length:Int):=oG;have l:=h.blk.lt;clear e a h;generalize d.recs[i]=r at*;go_enter func181,ntmps181;go_wp2;exact bodyPost_ret (v:=.agg #[I r.E,I r.P,I r.S]) (by simp[results,results181,go_sem]) rfl ⟨rfl,(Below.refl w.1.size w).alloc r_ _⟩
def wQ(low St:Nat)(d:SD)(vr:Value)(Mp D:Nat)(e:Int)(w:World)(h:eI w low St d vr Mp D):Calls pG 186 #[P0 (Y ⟨St,0,Z⟩),I e] w λr w'=>r=.returned (iN (dJ d.3 e))/\Bw w w':=by have f:=h.blk.cell 2;simp at f;have a:∀w',Bw w w'->(Instr.lookup 193 (.map (Y Mp)) (.agg #[I e]) false).run pG w'=.ok (iN (dJ d.3 e)) w':=λw' i=>(h.jg.later i).look e;have b:=(Below.refl w.1.size w).alloc r_ (G #[I 0,I 0,I 0,I 0] 284);have c:=a _ b;have g:=h.blk.lt;unfold iN at c⊢;clear a h;generalize dJ d.3 e=x at*;go_enter func186,ntmps186;go_wp2;exact bodyPost_ret (v:=.agg #[I x.pr,I x.ac,I x.pm,I x.st]) (by simp[results,results186,go_sem]) rfl ⟨rfl,(Below.refl w.1.size w).alloc r_ _⟩
def oZ(low St:Nat)(d:SD)(vr:Value)(Mp D:Nat)(w:World)(h:eI w low St d vr Mp D):Calls pG 189 #[P0 (Y ⟨St,0,Z⟩)] w λr w'=>r=.returned (.agg #[I d.seen,I d.last])/\Bw w w':=by have b:=h.blk.cell 7;have c:=h.blk.cell 8;simp at b c;have a:=h.blk.lt;clear h;go_enter func189,ntmps189;go_wp2;exact bodyPost_ret (v:=.agg #[I d.seen,I d.last]) (by simp[results,results189,go_sem]) rfl ⟨rfl,(Below.refl w.1.size w).alloc r_ _⟩
def SD.takes(d:SD)(E P:Int):Bool:=decide (P=d.id+1)&&decide (d.seen<E)
def BQ(low St:Nat)(d:SD)(vr:Value)(Mp D:Nat)(E P S:Int)(w:World)(h:eI w low St d vr Mp D)(m:0<=d.id/\d.id<5):Calls pG 246 #[P0 (Y ⟨St,0,Z⟩),.agg #[I E,I P,I S]] w λr w'=>r=.returned (.bool (d.takes E P))/\Bw w w':=by
 have a:=(Below.refl w.1.size w).alloc r_ (G #[I E,I P,I S] 66);have c:=dF (dI.new w #[I E,I P,I S] 66);have e:=dF (h.later a);have g:=dF a;clear h a;go_enter func246,ntmps246;go_wp2_with fail;generalize (w.alloc (G #[I E,I P,I S] 66))=o at*;have n:=e.blk.cell 0;have l:=e.blk.cell 7;simp at n l;have i:=c.cell 0;have m1:=c.cell 1;have m2:=c.cell 2;simp at i m1 m2;have k:=e.blk.lt;have p:=c.lt;by_cases b:P=d.id+1
 ·have j:(P==d.id+1)=true:=by simpa using b
  have f:Hid (d.takes E P=decide (d.seen<E)):=by unfold Hid SD.takes;simp[b]
  clear b;go_quiet (fail);go_wp2;go_ret;exact⟨by rw[f.out];rfl,below_drewN g _⟩
 ·have j:(P==d.id+1)=false:=by simpa using b
  have f:Hid (d.takes E P=false):=by unfold Hid SD.takes;simp[b]
  clear b;go_quiet (fail);go_wp2;go_ret;exact⟨by rw[f.out];rfl,below_drewN g _⟩
def SD.learn(d:SD)(E P S:Int):SD:={d with recs:=d.recs++[⟨E,P,S⟩],seen:=if d.takes E P=true then E else d.seen,last:=if d.takes E P=true then 0 else d.last,kv:=fT d.3 (E - 1)}
def JF(low St:Nat)(d:SD)(vr:Value)(Mp D:Nat)(E P S:Int)(w:World)(h:eI w low St d vr Mp D)(aL:0<=d.id/\d.id<5)(b5:low<=w.1.size)(b6:d.recs.length<=100000000)(hE:1<=E/\E<=1000000000001):Calls pG 252 #[P0 (Y ⟨St,0,Z⟩),.agg #[I E,I P,I S]] w λr w'=>r=.returned (.tuple #[])/\∃ao,eI w' low St (d.learn E P S) ao Mp D/\dQ (λg=>g=St∨g=Mp∨vr.ownBlock=Y g) w w'/\(∀g,ao.ownBlock=Y g->vr.ownBlock=Y g∨w.1.size<=g):=by
 obtain⟨i0,aN,aF,aR,aI⟩:=info_parts yK;obtain⟨C,cr,aG⟩:=eK h.ji;subst aG;have a6:=(Below.refl w.1.size w).alloc r_ (G #[I E,I P,I S] 66);have HR:=dF (dI.new w #[I E,I P,I S] 66);have HS:=dF (h.later a6);have HB:=dF a6;have a2:=dF h;clear h a6;go_enter func252,ntmps252;go_wp2_with fail;generalize (w.alloc (G #[I E,I P,I S] 66))=W0 at*;refine(BQ low St d (J C d.recs.length cr) Mp D E P S W0 HS aL).mono ?_;rintro r w1 ⟨rfl,U⟩;have b:=dF (HS.later U);have H:=dF (HR.later U);have ae:=dF (HB.trans (U.mono HB.size));have aY:=a2.blk.lt;have V:St≠w.1.size:=oG;clear U HR HS HB;have c0:=b.blk.cell 0;have W:=b.blk.cell 1;have c2:=b.blk.cell 2;have c3:=b.blk.cell 3;have c4:=b.blk.cell 4;have c5:=b.blk.cell 5;have c6:=b.blk.cell 6;have c7:=b.blk.cell 7;have c8:=b.blk.cell 8;have c9:=b.blk.cell 9;have p:=b.blk.cell 10;have c11:=b.blk.cell 11;simp at c0 W c2 c3 c4 c5 c6 c7 c8 c9 p c11;have ag:=b.blk.free 0;have R:=b.blk.free 1;have a9:=b.blk.free 2;have a4:=b.blk.free 3;have a7:=b.blk.free 4;have a5:=b.blk.free 5;have af:=b.blk.free 6;have ab:=b.blk.free 7;have a3:=b.blk.free 8;have a0:=b.blk.free 9;have K:=b.blk.free 10;have F:=b.blk.free 11;have m0:=H.cell 0;have m1:=H.cell 1;have m2:=H.cell 2;simp at m0 m1 m2;have aW:=b.blk.lt;have b9:=H.lt;have b4:=b.jg.lt;have q:=b.jg.ne b.blk;have aZ:=a2.jg.lt;cases htk:d.takes E P;focus
  have a1:Hid (d.takes E P=false):=htk
  clear htk
  go_upto_region 3 with fail
  obtain⟨W1,aH⟩:∃y,y=w1:=⟨_,rfl⟩
  subst aH
  obtain⟨se,t⟩:∃y,y=d.seen:=⟨_,rfl⟩
  obtain⟨la,s⟩:∃y,y=d.last:=⟨_,rfl⟩
  have n:=dF ((dM.lq St W1));have c:Hid (dI W1 St #[I d.id,J C d.recs.length cr,Value.map (Y Mp),I d.b0,I d.b1,I d.b2,I d.b3,I se,I la,P0 (Y ⟨D,0,Z⟩),I d.lines,bool d.wh] 200):=by have M:=b.blk;unfold Hid;rw[t,s];simpa using M
  have HL:Hid (d.learn E P S={d with recs:=d.recs++[⟨E,P,S⟩],seen:=se,last:=la,kv:=fT d.3 (E - 1)}):=by unfold Hid SD.learn;rw[a1.out,t,s];rfl
  clear t s
 rotate_left;focus
  have a1:Hid (d.takes E P=true):=htk
  clear htk
  go_upto_region 3 with fail
  have n:=dF ((((dM.lq St w1).set2 7 (I E)).set2 8 (I 0)));have c:Hid (dI ((w1.setCell ⟨St,7,Z⟩ (I E)).setCell ⟨St,8,Z⟩ (I 0)) St #[I d.id,J C d.recs.length cr,Value.map (Y Mp),I d.b0,I d.b1,I d.b2,I d.b3,I E,I 0,P0 (Y ⟨D,0,Z⟩),I d.lines,bool d.wh] 200):=by have M:=((b.blk.set 7 (I E)).set 8 (I 0));unfold Hid;simpa using M
  generalize ((w1.setCell ⟨St,7,Z⟩ (I E)).setCell ⟨St,8,Z⟩ (I 0))=W1 at*
  obtain⟨se,t⟩:∃y,y=E:=⟨_,rfl⟩
  obtain⟨la,s⟩:∃y:Int,y=0:=⟨_,rfl⟩
  replace c:Hid (dI W1 St #[I d.id,J C d.recs.length cr,Value.map (Y Mp),I d.b0,I d.b1,I d.b2,I d.b3,I se,I la,P0 (Y ⟨D,0,Z⟩),I d.lines,bool d.wh] 200):=by rw[t,s];exact c
  have HL:Hid (d.learn E P S={d with recs:=d.recs++[⟨E,P,S⟩],seen:=se,last:=la,kv:=fT d.3 (E - 1)}):=by unfold Hid SD.learn;rw[a1.out,t,s];rfl
  clear t s
 all_goals
  have N:=dF (dW b.ji (λg o=>n.block g (λe=>kK b.ji b.blk.blk dG (e ▸ o))));have ap:=dF (b.jg.same (n.block Mp q));have L:=dF (H.same (n.block _ (Ne.symm V)));have aX:=n.size;clear c0 W c2 c3 c4 c5 c6 c7 c8 c9 p c11 ag R a9 a4 a7 a5 af ab a3 a0 K F m0 m1 m2;have c0:=c.cell 0;have W:=c.cell 1;have c2:=c.cell 2;have c3:=c.cell 3;have c4:=c.cell 4;have c5:=c.cell 5;have c6:=c.cell 6;have c7:=c.cell 7;have c8:=c.cell 8;have c9:=c.cell 9;have p:=c.cell 10;have c11:=c.cell 11;simp at c0 W c2 c3 c4 c5 c6 c7 c8 c9 p c11;have ag:=c.free 0;have R:=c.free 1;have a9:=c.free 2;have a4:=c.free 3;have a7:=c.free 4;have a5:=c.free 5;have af:=c.free 6;have ab:=c.free 7;have a3:=c.free 8;have a0:=c.free 9;have K:=c.free 10;have F:=c.free 11;have m0:=L.cell 0;have m1:=L.cell 1;have m2:=L.cell 2;simp at m0 m1 m2;have ak:=c.lt;have b7:=L.lt;have aQ:=kK N c.blk dG;have b8:=λg o=>World.ownsRow.lt N g o;have aU:low<=W1.1.size:=by have:=ae.size;omega
  have aK:Hid (w.1.size<=W1.1.size):=by have:=ae.size;unfold Hid;omega
  go_cut [20] (λsx wx=>∃z l,sx=J z (d.recs.length+1) l/\dI wx St #[I d.id,J z (d.recs.length+1) l,Value.map (Y Mp),I d.b0,I d.b1,I d.b2,I d.b3,I se,I la,P0 (Y ⟨D,0,Z⟩),I d.lines,bool d.wh] 200/\wx.ownsRow low 66 3 (J z (d.recs.length+1) l) (d.recs.length+1) (d.recs.flatMap eM.cells++[I E,I P,I S])/\VM wx Mp d.3/\dI wx w.1.size #[I E,I P,I S] 66/\dQ (λg=>g=St∨Value.ownBlock (J C d.recs.length cr)=Y g) W1 wx/\(∀g,Value.ownBlock (J z (d.recs.length+1) l)=Y g->Value.ownBlock (J C d.recs.length cr)=Y g∨W1.1.size<=g))
  case first=>
   go_region_law (refine lG rfl (.tmp 17) (.tmp 19) 23 rfl low 66 i0 (.agg #[I 0,I 0,I 0]) 3 24 underlying23 aN aF aR aI rfl dG (J C d.recs.length cr) d.recs.length (d.recs.flatMap eM.cells) eG (by exact(N.alloc _).drew) ⟨W1.1.size,0,Z⟩ 1 1 [I E,I P,I S] oG eG rfl (by intro j u hu;rw[Go.WideShapes.add_plain];refine(World.cell?_alloc_at _ _ _ _ sG).trans ?_;simpa using hu) (by intro u hu;simp at hu;rcases hu with rfl|rfl|rfl<;>rfl) xG oG (by show _<=(World.alloc _ _).1.size;simp;omega) ?_;intro v' w2 a8 x an;obtain⟨z,l,rfl⟩:=eK a8;have O:w2.1[St]?=W1.1[St]?:=(x.block St (by show _<(World.alloc _ _).1.size;simp;omega) (Ne.symm aQ)).trans (heap_alloc_old _ _ ak);have k4:w2.cell? ⟨St,1,Z⟩=Y (J C d.recs.length cr):=(World.cell?_of_block (w:=W1) (a:=⟨St,1,Z⟩) O).trans W;have kf:w2.frozen? ⟨St,1,Z⟩=false:=(World.frozen?_of_block (w:=W1) (a:=⟨St,1,Z⟩) O).trans R)
   all_goals
     have ai:∀g,g<W1.1.size->Value.ownBlock (J C d.recs.length cr)≠some g->w2.1[g]?=W1.1[g]?:=λg o aA=>(x.block g (by show _<(World.alloc _ _).1.size;simp;omega) (Ne.symm aA)).trans (heap_alloc_old _ _ o)
     have az:∀g,Value.ownBlock (J z (d.recs.length+1) l)=Y g->Value.ownBlock (J C d.recs.length cr)=Y g∨W1.1.size<=g:=by
       intro g o;obtain⟨g',h1,h2⟩:=an;rw[h1]at o;cases o;exact h2.imp id (λh=>Nat.le_trans (by show _<=(World.alloc _ _).1.size;simp) h.1)
     have aD:W1.1.size<=w2.1.size:=Nat.le_trans (by show _<=(World.alloc _ _).1.size;simp) x.size;have aa:w2.os=W1.os/\w2.tape=W1.tape/\w2.output=W1.output:=⟨x.os,x.tape,x.output⟩;have aT:=kK a8 (O.trans c.blk) dG
     have ah:Value.ownBlock (J C d.recs.length cr)≠some Mp:=λe=>by
       rcases N.2 with⟨h0,_⟩|⟨g9,au,al,h8,_,Q,_⟩
       · rw[h0]at e;simp[Value.ownBlock]at e
       · rw[h8]at e
         simp[Value.ownBlock]at e;subst e;obtain⟨es,aC,h7,_⟩:=ap.1;rw[h7]at Q;simp at Q
     have aj:Value.ownBlock (J C d.recs.length cr)≠some w.1.size:=λe=>by have h8:=(a2.ji.lt _ e).2;omega
   all_goals go_wp2_with fail
   all_goals go_meet
   all_goals
     have i:=dM.setCell w2 ⟨St,1,Z⟩ (J z (d.recs.length+1) l);refine⟨z,l,rfl,?_,?_,?_,?_,?_,az⟩
     · have M:=(dI.same c O).set 1 (J z (d.recs.length+1) l)
       simpa using M
     · exact dW a8 (λg o=>i.block g (λe=>aT (by have h8:g=St:=e;rw[←h8];exact o)))
     · exact ap.same ((i.block Mp q).trans (ai Mp oG ah))
     · exact L.same ((i.block _ (Ne.symm V)).trans (ai _ oG aj))
     · exact⟨i.os.trans aa.1,i.tape.trans aa.2.1,i.output.trans aa.2.2,by rw[i.size];exact aD,λk hk hA=>(i.block k (λe=>hA (.inl e))).trans (ai k hk (λe=>hA (.inr e)))⟩
  case rest=>
  obtain⟨z,l,rfl,aw,ay,ad,av,ax,aq⟩:=hcut;have aO:=dF aq;clear aq;have aB:=dF ad;obtain⟨w4,aV,am,X⟩:=(VM.same (w':=wc.drew) ad rfl).del (E - 1) 0;have f:=dF aw;have aS:=dF ay;have ac:=dF av;have aM:=dF ax;have aJ:=dF am;have m:=dF X;clear aw ay ad av ax am X c0 W c2 c3 c4 c5 c6 c7 c8 c9 p c11 ag R a9 a4 a7 a5 af ab a3 a0 K F m0 m1 m2;have c0:=f.cell 0;have W:=f.cell 1;have c2:=f.cell 2;have c3:=f.cell 3;have c4:=f.cell 4;have c5:=f.cell 5;have c6:=f.cell 6;have c7:=f.cell 7;have c8:=f.cell 8;have c9:=f.cell 9;have p:=f.cell 10;have c11:=f.cell 11;simp at c0 W c2 c3 c4 c5 c6 c7 c8 c9 p c11;have m0:=ac.cell 0;have m1:=ac.cell 1;have m2:=ac.cell 2;simp at m0 m1 m2
  go_wp2_with fail
  go_region
  all_goals
    refine bodyPost_end (v:=.tuple #[]) (by simp[results,results252,go_sem]) rfl ⟨rfl,J z (d.recs.length+1) l,?_,?_,λg o=>(aO.out g o).imp id (λM=>Nat.le_trans aK M)⟩
    · rw[HL.out]
      refine⟨f.same (m.block St (Ne.symm q)),?_,aJ⟩
      have M:wc.ownsRow low 66 3 (J z (d.recs.length+1) l) (d.recs++[(⟨E,P,S⟩:eM)]).length ((d.recs++[(⟨E,P,S⟩:eM)]).flatMap eM.cells):=by
        simp only[List.length_append,List.flatMap_append,List.length_cons,List.length_nil,List.flatMap_cons,List.flatMap_nil,List.append_nil];exact aS
      refine dW M (λg o=>m.block g (λe=>?_));rcases M.2 with⟨h0,_⟩|⟨g9,au,al,h8,_,Q,_⟩
      · rw[h0]at o;simp[Value.ownBlock]at o
      · rw[h8]at o
        simp[Value.ownBlock]at o;subst o;obtain⟨es,aC,h7,_⟩:=aB.1;rw[←e,Q]at h7;cases h7
    · have aP:dQ (λg=>g=St) w W1:=(dQ.of_below (A:=λ_=>False) ae).trans (B:=λg=>g=St) ⟨n.os,n.tape,n.output,by rw[n.size];exact Nat.le_refl _,λk _ hk=>n.block k hk⟩ (λ_ e=>e.elim) (λ_ _ e=>e)
      have aE:=aP.trans aM (λ_ e=>.inl e) (λ_ _ e=>e);exact aE.trans (B:=λg=>g=Mp) ⟨m.os,m.tape,m.output,by rw[m.size];exact Nat.le_refl _,λk _ hk=>m.block k hk⟩ (λ_ e=>e.elim .inl (λh=>.inr (.inr h))) (λ_ _ e=>.inr (.inl e))
def AL(k f e b wa p s q bl v:Int)(ms:Value)(w:World)(d:0<=e)(c:e<=1000000000000):Calls pG 245 #[.agg (mA k f e b wa p s q bl v ms)] w λr w'=>r=.returned (.agg #[I (e+1),I p,I s])/\Bw w w':=by have a:=((Below.refl w.1.size w).alloc r_ (G (mA k f e b wa p s q bl v ms) 136)).alloc sG (G #[I (e+1),I p,I s] 66);go_enter func245,ntmps245;go_wp2;exact bodyPost_ret (v:=.agg #[I (e+1),I p,I s]) (by simp[results,results245,go_sem]) rfl ⟨rfl,a⟩
def IM(k f e b wa p s q bl v:Int)(ms:Value)(w:World):Calls pG 249 #[.agg (mA k f e b wa p s q bl v ms)] w λr w'=>r=.returned (I (if k=9 then 10 else 8))/\Bw w w':=by
 have a:=(Below.refl w.1.size w).alloc r_ (G (mA k f e b wa p s q bl v ms) 136);by_cases c:k=9;·subst c;go_enter func249,ntmps249;go_wp2;go_ret;exact⟨rfl,a⟩
 ·have d:(k==9)=false:=by simpa using c
  rw[if_neg c];clear c;go_enter func249,ntmps249;go_wp2;go_ret;exact⟨rfl,a⟩
def wR(x:PV)(k f e b wa p s q bl v:Int)(ms:Value)(w:World):Calls pG 239 #[.agg #[I x.pr,I x.ac,I x.pm,I x.st],.agg (mA k f e b wa p s q bl v ms)] w λr w'=>r=.returned (.agg #[I (x.after k b p s).pr,I (x.after k b p s).ac,I (x.after k b p s).pm,I (x.after k b p s).st])/\Bw w w':=by
 by_cases a:k=3;·subst a;have c:x.after 3 b p s=⟨b,b,p,s⟩:=rfl;rw[c];go_enter func239,ntmps239;go_wp2;refine bodyPost_ret (v:=.agg #[I b,I b,I p,I s]) (by simp[results,results239,go_sem]) rfl ⟨rfl,?_⟩;exact(((Below.refl w.1.size w).alloc r_ _).alloc sG _).alloc nG _
 ·have c:x.after k b p s=⟨b,x.ac,x.pm,x.st⟩:=by unfold PV.after;rw[if_neg a]
  have d:(k==3)=false:=by simpa using a
  rw[c];clear a c;go_enter func239,ntmps239;go_wp2;refine bodyPost_ret (v:=.agg #[I b,I x.ac,I x.pm,I x.st]) (by simp[results,results239,go_sem]) rfl ⟨rfl,?_⟩;exact(((Below.refl w.1.size w).alloc r_ _).alloc sG _).alloc nG _
def PA{w:World}{base:Nat}{e:TypeId}{size n Mp:Nat}{v:Value}{xs:List Value}{l:List (Int×PV)}(h:w.ownsRow base e size v n xs)(i:VM w Mp l):v.ownBlock≠some Mp:=by
 intro a;rcases h.2 with⟨g,_⟩|⟨m,c,d,f,_,b,_⟩;·rw[g]at a;simp[Value.ownBlock]at a
 ·rw[f]at a;simp[Value.ownBlock]at a;subst a;obtain⟨es,j,k,_⟩:=i.1;rw[k]at b;simp at b
def VM.lookE{w:World}{B:Nat}{l:List (Int×PV)}(h:VM w B l)(e:Int):∀w',w'.1[B]?=w.1[B]?->(Instr.lookup 193 (.map (Y B)) (.agg #[I e]) false).run pG w'=.ok (.agg #[I (dJ l e).pr,I (dJ l e).ac,I (dJ l e).pm,I (dJ l e).st]) w':=λw' a=>(h.same a).look e
def AM(kk:Int)(z:kk=1∨kk=3)(low St:Nat)(d:SD)(vr:Value)(Mp D:Nat)(f e b wa p s q bl v:Int)(ms:Value)(w:World)(h:eI w low St d vr Mp D):Calls pG 220 #[P0 (Y ⟨St,0,Z⟩),.agg (mA kk f e b wa p s q bl v ms)] w λr w'=>r=.returned (.tuple #[])/\eI w' low St {d with kv:=f8 d.3 e ((dJ d.3 e).after kk b p s)} vr Mp D/\dQ (λg=>g=Mp) w w':=by
 obtain⟨C,c3,h1,h3,h9⟩:∃C c3,(kk==1)=C/\(kk==3)=c3/\(C=true∨C=false/\c3=true):=⟨_,_,rfl,rfl,by rcases z with rfl|rfl<;>decide⟩;clear z;rcases h9 with rfl|⟨rfl,rfl⟩;all_goals
  have o:=(Below.refl w.1.size w).alloc r_ (G (mA kk f e b wa p s q bl v ms) 136);have F:=dF (dI.new w (mA kk f e b wa p s q bl v ms) 136);have n:=dF (h.later o);have V:=dF o;clear h o;go_enter func220,ntmps220
  go_upto_region 1 with fail
  generalize (w.alloc (G (mA kk f e b wa p s q bl v ms) 136))=W at*;have R:=n.blk.cell 2;simp at R;obtain⟨m0,m1,m2,m3,m4,m5,m6,m7,m8,m9,gF⟩:=F.c11;have N:=n.blk.lt;have l:=F.lt;have O:=n.jg.lt;have L:=n.jg.lookE e;have U:=n.jg.lookE e W.drew rfl;clear L
  go_wp2_with fail
  have m:=n.jg.ne n.blk;have c:=n.jg.ne F;refine eZ (S:=(λw'=>w'.cell? ⟨St,2,Z⟩=Y (Value.map (Y Mp))/\w'.cell? ⟨w.1.size,0,Z⟩=Y (I kk)/\w'.cell? ⟨w.1.size,1,Z⟩=Y (I f)/\w'.cell? ⟨w.1.size,2,Z⟩=Y (I e)/\w'.cell? ⟨w.1.size,3,Z⟩=Y (I b)/\w'.cell? ⟨w.1.size,4,Z⟩=Y (I wa)/\w'.cell? ⟨w.1.size,5,Z⟩=Y (I p)/\w'.cell? ⟨w.1.size,6,Z⟩=Y (I s)/\w'.cell? ⟨w.1.size,7,Z⟩=Y (I q)/\w'.cell? ⟨w.1.size,8,Z⟩=Y (I bl)/\w'.cell? ⟨w.1.size,9,Z⟩=Y (I v)/\w'.cell? ⟨w.1.size,10,Z⟩=Y (ms))) λ_=>?_;refine tk 0 ?_;refine tk 1 ?_;refine tk 2 ?_;refine tk 3 ?_;refine tk 4 ?_;refine tk 5 ?_;refine tk 6 ?_;refine tk 7 ?_;refine tk 8 ?_;refine tk 9 ?_;refine tk 10 ?_;refine tk 11 ?_;refine tk 12 ?_;refine tk 13 ?_;refine tk 15 ?_;refine dT 14 λK u=>?_
  (try go_simp)
  refine kr u 16 λK u=>?_
  (try go_simp)
  go_at_call 239
  refine(wR (dJ d.3 e) kk f e b wa p s q bl v ms _).mono ?_;rintro r w3 ⟨rfl,i⟩;have z0:=(i.cell (p:=⟨St,2,Z⟩) N).trans R;have z1:=(i.cell (p:=⟨w.1.size,0,Z⟩) l).trans m0;have z2:=(i.cell (p:=⟨w.1.size,1,Z⟩) l).trans m1;have z3:=(i.cell (p:=⟨w.1.size,2,Z⟩) l).trans m2;have z4:=(i.cell (p:=⟨w.1.size,3,Z⟩) l).trans m3;have z5:=(i.cell (p:=⟨w.1.size,4,Z⟩) l).trans m4;have z6:=(i.cell (p:=⟨w.1.size,5,Z⟩) l).trans m5;have z7:=(i.cell (p:=⟨w.1.size,6,Z⟩) l).trans m6;have z8:=(i.cell (p:=⟨w.1.size,7,Z⟩) l).trans m7;have z9:=(i.cell (p:=⟨w.1.size,8,Z⟩) l).trans m8;have E:=(i.cell (p:=⟨w.1.size,9,Z⟩) l).trans m9;have Q:=(i.cell (p:=⟨w.1.size,10,Z⟩) l).trans gF;obtain⟨w4,y,t,a⟩:=((n.jg.same (w':=w3) (i.block Mp O))).put e ((dJ d.3 e).after kk b p s);unfold iN at y;have H:=dF t;have j:=dF a;have y0:=(a.cell (p:=⟨St,2,Z⟩) (Ne.symm m)).trans z0;have y1:=(a.cell (p:=⟨w.1.size,0,Z⟩) (Ne.symm c)).trans z1;have y2:=(a.cell (p:=⟨w.1.size,1,Z⟩) (Ne.symm c)).trans z2;have y3:=(a.cell (p:=⟨w.1.size,2,Z⟩) (Ne.symm c)).trans z3;have y4:=(a.cell (p:=⟨w.1.size,3,Z⟩) (Ne.symm c)).trans z4;have y5:=(a.cell (p:=⟨w.1.size,4,Z⟩) (Ne.symm c)).trans z5;have y6:=(a.cell (p:=⟨w.1.size,5,Z⟩) (Ne.symm c)).trans z6;have y7:=(a.cell (p:=⟨w.1.size,6,Z⟩) (Ne.symm c)).trans z7;have y8:=(a.cell (p:=⟨w.1.size,7,Z⟩) (Ne.symm c)).trans z8;have y9:=(a.cell (p:=⟨w.1.size,8,Z⟩) (Ne.symm c)).trans z9;have X:=(a.cell (p:=⟨w.1.size,9,Z⟩) (Ne.symm c)).trans E;have a0:=(a.cell (p:=⟨w.1.size,10,Z⟩) (Ne.symm c)).trans Q;clear t a;refine kr u 17 λK u=>?_
  (try go_simp)
  refine kd u ?_;go_wp2;have gO:=n.drew.later i;have M:=PA gO.ji gO.jg;refine bodyPost_end (v:=.tuple #[]) (by simp[results,results220,go_sem]) rfl ⟨rfl,⟨gO.blk.same (j.block St (Ne.symm m)),dW gO.ji (λg hg=>j.block g (λx=>M (by rw[←x];exact hg))),H⟩,?_⟩;exact(dQ.of_below (A:=λ_=>False) (V.drew.trans (i.mono V.size))).trans (B:=λg=>g=Mp) ⟨j.os,j.tape,j.output,by rw[j.size];exact Nat.le_refl _,λk _ z=>j.block k z⟩ (λ_ x=>x.elim) (λ_ _ x=>x)
def JG(low St:Nat)(d:SD)(vr:Value)(Mp D:Nat)(f e b wa p s q bl v:Int)(ms:Value)(w:World)(h:eI w low St d vr Mp D)(B:0<=d.id/\d.id<5)(C:low<=w.1.size)(n:d.recs.length<=100000000)(L:0<=e/\e<=1000000000000):Calls pG 220 #[P0 (Y ⟨St,0,Z⟩),.agg (mA 6 f e b wa p s q bl v ms)] w λr w'=>r=.returned (.tuple #[])/\∃a,eI w' low St (d.learn (e+1) p s) a Mp D/\dQ (λg=>g=St∨g=Mp∨vr.ownBlock=Y g) w w'/\(∀g,a.ownBlock=Y g->vr.ownBlock=Y g∨w.1.size<=g):=by have c:=(Below.refl w.1.size w).alloc r_ (G (mA 6 f e b wa p s q bl v ms) 136);have F:=dF (dI.new w (mA 6 f e b wa p s q bl v ms) 136);have z:=dF (h.later c);have H:=dF c;have E:=h.blk.lt;have K:St≠w.1.size:=oG;clear h c;go_enter func220,ntmps220;go_upto_region 1 with fail;generalize (w.alloc (G (mA 6 f e b wa p s q bl v ms) 136))=M at*;have Q:=z.blk.cell 2;simp at Q;have O:=F.cell;have S:=z.blk.lt;have U:=F.lt;go_wp2_with fail;refine(AL 6 f e b wa p s q bl v ms M L.1 L.2).mono ?_;rintro r w1 ⟨rfl,j⟩;have t:=dF (z.later j);have i:=dF (H.trans (j.mono H.size));clear j;go_wp2_with fail;refine(JF low St d vr Mp D (e+1) p s w1 t B (Nat.le_trans C i.size) n ⟨oG,oG⟩).mono ?_;rintro r w2 ⟨rfl,a,m,k,l⟩;have o:Hid (∀g,a.ownBlock=Y g->vr.ownBlock=Y g∨w.1.size<=g):=λg N=>(l g N).imp id (λR=>Nat.le_trans i.size R);clear l;have u:=dF m;have x:=dF ((dQ.of_below (A:=λ_=>False) i).trans k (λ_ y=>y.elim) (λ_ _ y=>y));clear m k;go_wp2;exact bodyPost_end (v:=.tuple #[]) (by simp[results,results220,go_sem]) rfl ⟨rfl,a,u,x,o⟩
def L3(low St:Nat)(d:SD)(vr:Value)(Mp D:Nat)(f e b wa p s q v:Int)(ms:Value)(w:World)(h:eI w low St d vr Mp D):Calls pG 220 #[P0 (Y ⟨St,0,Z⟩),.agg (mA 7 f e b wa p s q 0 v ms)] w λr w'=>r=.returned (.tuple #[])/\eI w' low St {d with seen:=e,last:=q,b0:=v} vr Mp D/\dQ (λg=>g=St) w w':=by
 have j:=(Below.refl w.1.size w).alloc r_ (G (mA 7 f e b wa p s q 0 v ms) 136);have u:=dF (dI.new w (mA 7 f e b wa p s q 0 v ms) 136);have c:=dF (h.later j);have F:=dF j;have t:=h.blk.lt;have x:St≠w.1.size:=oG;clear h j;go_enter func220,ntmps220;go_upto_region 1 with fail;generalize (w.alloc (G (mA 7 f e b wa p s q 0 v ms) 136))=m at*;have H:=c.blk.cell;have C:=c.blk.free;have y:=u.cell;have L:=c.blk.lt;have M:=u.lt;have i:=c.jg.ne c.blk;go_upto_region 9 with fail;go_region;all_goals go_wp2
 all_goals
  have a:dM St m (((m.setCell ⟨St,7,Z⟩ (I e)).setCell ⟨St,8,Z⟩ (I q)).setCell ⟨St,3,Z⟩ (I v)):=((((dM.lq St m).set2 7 _).set2 8 _).set2 3 _);have n:dI (((m.setCell ⟨St,7,Z⟩ (I e)).setCell ⟨St,8,Z⟩ (I q)).setCell ⟨St,3,Z⟩ (I v)) St #[I d.id,vr,Value.map (Y Mp),I v,I d.b1,I d.b2,I d.b3,I e,I q,P0 (Y ⟨D,0,Z⟩),I d.lines,bool d.wh] 200:=by have K:=((c.blk.set 7 (I e)).set 8 (I q)).set 3 (I v);simpa using K
  have o:=kK c.ji c.blk.blk dG;refine bodyPost_end (v:=.tuple #[]) (by simp[results,results220,go_sem]) rfl ⟨rfl,⟨⟨n.blk⟩,dW c.ji (λg z=>a.block g (λl=>o (by rw[←l];exact z))),c.jg.same (a.block Mp i)⟩,?_⟩;exact(dQ.of_below (A:=λ_=>False) F).trans (B:=λg=>g=St) ⟨a.os,a.tape,a.output,by exact Nat.le_of_eq a.size.symm,λk _ E=>a.block k E⟩ (λ_ l=>l.elim) (λ_ _ l=>l)
def L9(low St:Nat)(d:SD)(vr:Value)(Mp D:Nat)(f e b wa p s q v:Int)(ms:Value)(w:World)(h:eI w low St d vr Mp D):Calls pG 220 #[P0 (Y ⟨St,0,Z⟩),.agg (mA 7 f e b wa p s q 1 v ms)] w λr w'=>r=.returned (.tuple #[])/\eI w' low St {d with seen:=e,last:=q,b1:=v} vr Mp D/\dQ (λg=>g=St) w w':=by
 have j:=(Below.refl w.1.size w).alloc r_ (G (mA 7 f e b wa p s q 1 v ms) 136);have u:=dF (dI.new w (mA 7 f e b wa p s q 1 v ms) 136);have c:=dF (h.later j);have F:=dF j;have t:=h.blk.lt;have x:St≠w.1.size:=oG;clear h j;go_enter func220,ntmps220;go_upto_region 1 with fail;generalize (w.alloc (G (mA 7 f e b wa p s q 1 v ms) 136))=m at*;have H:=c.blk.cell;have C:=c.blk.free;have y:=u.cell;have L:=c.blk.lt;have M:=u.lt;have i:=c.jg.ne c.blk;go_upto_region 9 with fail;go_region;all_goals go_wp2
 all_goals
  have a:dM St m (((m.setCell ⟨St,7,Z⟩ (I e)).setCell ⟨St,8,Z⟩ (I q)).setCell ⟨St,4,Z⟩ (I v)):=((((dM.lq St m).set2 7 _).set2 8 _).set2 4 _);have n:dI (((m.setCell ⟨St,7,Z⟩ (I e)).setCell ⟨St,8,Z⟩ (I q)).setCell ⟨St,4,Z⟩ (I v)) St #[I d.id,vr,Value.map (Y Mp),I d.b0,I v,I d.b2,I d.b3,I e,I q,P0 (Y ⟨D,0,Z⟩),I d.lines,bool d.wh] 200:=by have K:=((c.blk.set 7 (I e)).set 8 (I q)).set 4 (I v);simpa using K
  have o:=kK c.ji c.blk.blk dG;refine bodyPost_end (v:=.tuple #[]) (by simp[results,results220,go_sem]) rfl ⟨rfl,⟨⟨n.blk⟩,dW c.ji (λg z=>a.block g (λl=>o (by rw[←l];exact z))),c.jg.same (a.block Mp i)⟩,?_⟩;exact(dQ.of_below (A:=λ_=>False) F).trans (B:=λg=>g=St) ⟨a.os,a.tape,a.output,by exact Nat.le_of_eq a.size.symm,λk _ E=>a.block k E⟩ (λ_ l=>l.elim) (λ_ _ l=>l)
def MA(low St:Nat)(d:SD)(vr:Value)(Mp D:Nat)(f e b wa p s q v:Int)(ms:Value)(w:World)(h:eI w low St d vr Mp D):Calls pG 220 #[P0 (Y ⟨St,0,Z⟩),.agg (mA 7 f e b wa p s q 2 v ms)] w λr w'=>r=.returned (.tuple #[])/\eI w' low St {d with seen:=e,last:=q,b2:=v} vr Mp D/\dQ (λg=>g=St) w w':=by
 have j:=(Below.refl w.1.size w).alloc r_ (G (mA 7 f e b wa p s q 2 v ms) 136);have u:=dF (dI.new w (mA 7 f e b wa p s q 2 v ms) 136);have c:=dF (h.later j);have F:=dF j;have t:=h.blk.lt;have x:St≠w.1.size:=oG;clear h j;go_enter func220,ntmps220;go_upto_region 1 with fail;generalize (w.alloc (G (mA 7 f e b wa p s q 2 v ms) 136))=m at*;have H:=c.blk.cell;have C:=c.blk.free;have y:=u.cell;have L:=c.blk.lt;have M:=u.lt;have i:=c.jg.ne c.blk;go_upto_region 9 with fail;go_region;all_goals go_wp2
 all_goals
  have a:dM St m (((m.setCell ⟨St,7,Z⟩ (I e)).setCell ⟨St,8,Z⟩ (I q)).setCell ⟨St,5,Z⟩ (I v)):=((((dM.lq St m).set2 7 _).set2 8 _).set2 5 _);have n:dI (((m.setCell ⟨St,7,Z⟩ (I e)).setCell ⟨St,8,Z⟩ (I q)).setCell ⟨St,5,Z⟩ (I v)) St #[I d.id,vr,Value.map (Y Mp),I d.b0,I d.b1,I v,I d.b3,I e,I q,P0 (Y ⟨D,0,Z⟩),I d.lines,bool d.wh] 200:=by have K:=((c.blk.set 7 (I e)).set 8 (I q)).set 5 (I v);simpa using K
  have o:=kK c.ji c.blk.blk dG;refine bodyPost_end (v:=.tuple #[]) (by simp[results,results220,go_sem]) rfl ⟨rfl,⟨⟨n.blk⟩,dW c.ji (λg z=>a.block g (λl=>o (by rw[←l];exact z))),c.jg.same (a.block Mp i)⟩,?_⟩;exact(dQ.of_below (A:=λ_=>False) F).trans (B:=λg=>g=St) ⟨a.os,a.tape,a.output,by exact Nat.le_of_eq a.size.symm,λk _ E=>a.block k E⟩ (λ_ l=>l.elim) (λ_ _ l=>l)
def MB(low St:Nat)(d:SD)(vr:Value)(Mp D:Nat)(f e b wa p s q v:Int)(ms:Value)(w:World)(h:eI w low St d vr Mp D):Calls pG 220 #[P0 (Y ⟨St,0,Z⟩),.agg (mA 7 f e b wa p s q 3 v ms)] w λr w'=>r=.returned (.tuple #[])/\eI w' low St {d with seen:=e,last:=q,b3:=v} vr Mp D/\dQ (λg=>g=St) w w':=by
 have j:=(Below.refl w.1.size w).alloc r_ (G (mA 7 f e b wa p s q 3 v ms) 136);have u:=dF (dI.new w (mA 7 f e b wa p s q 3 v ms) 136);have c:=dF (h.later j);have F:=dF j;have t:=h.blk.lt;have x:St≠w.1.size:=oG;clear h j;go_enter func220,ntmps220;go_upto_region 1 with fail;generalize (w.alloc (G (mA 7 f e b wa p s q 3 v ms) 136))=m at*;have H:=c.blk.cell;have C:=c.blk.free;have y:=u.cell;have L:=c.blk.lt;have M:=u.lt;have i:=c.jg.ne c.blk;go_upto_region 9 with fail;go_region;all_goals go_wp2
 all_goals
  have a:dM St m (((m.setCell ⟨St,7,Z⟩ (I e)).setCell ⟨St,8,Z⟩ (I q)).setCell ⟨St,6,Z⟩ (I v)):=((((dM.lq St m).set2 7 _).set2 8 _).set2 6 _);have n:dI (((m.setCell ⟨St,7,Z⟩ (I e)).setCell ⟨St,8,Z⟩ (I q)).setCell ⟨St,6,Z⟩ (I v)) St #[I d.id,vr,Value.map (Y Mp),I d.b0,I d.b1,I d.b2,I v,I e,I q,P0 (Y ⟨D,0,Z⟩),I d.lines,bool d.wh] 200:=by have K:=((c.blk.set 7 (I e)).set 8 (I q)).set 6 (I v);simpa using K
  have o:=kK c.ji c.blk.blk dG;refine bodyPost_end (v:=.tuple #[]) (by simp[results,results220,go_sem]) rfl ⟨rfl,⟨⟨n.blk⟩,dW c.ji (λg z=>a.block g (λl=>o (by rw[←l];exact z))),c.jg.same (a.block Mp i)⟩,?_⟩;exact(dQ.of_below (A:=λ_=>False) F).trans (B:=λg=>g=St) ⟨a.os,a.tape,a.output,by exact Nat.le_of_eq a.size.symm,λk _ E=>a.block k E⟩ (λ_ l=>l.elim) (λ_ _ l=>l)
end Go.Proofs.YtdcainmlcpafbaaGreatDoor
