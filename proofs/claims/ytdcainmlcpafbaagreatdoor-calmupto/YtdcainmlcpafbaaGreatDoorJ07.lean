import Derived.Test.YtdcainmlcpafbaaGreatDoorJ06
import Derived.Laws.CopyRow
import Derived.Shelf.SlIter.Collect
set_option linter.all false
set_option maxHeartbeats 8000000
set_option maxRecDepth 20000
namespace Go.Proofs.YtdcainmlcpafbaaGreatDoor
open Value renaming slice->J,pointer->P0
open Tryz
open Tryz renaming prog->pG
open IntKind renaming i64->T
open Option renaming none->Z,some->Y
open Obj renaming cells->G
section
open Go.RowKit
open Value (bool)
def lP(w:World)(g:Nat)(cs:Array Value):dM g w (w.setRow g cs):=by
 refine⟨rfl,rfl,rfl,?_,λk a=>?_⟩;·simp[World.setRow]
 ·simp[World.setRow,Array.getElem?_modify,Ne.symm a]
def PB:(Tryz.prog.info? 3).map (·.size)=Y 1:=kG
def MC(low St:Nat)(d:SD)(vr:Value)(Mp D:Nat)(f e b wa p s q bl v:Int)(n t F:Nat)(a:List Int)(hn:1<=a.length/\a.length<=4)(w:World)(h:eI w low St d vr Mp D)(a9:n<w.1.size)(a0:n≠St)(S:∀i (h:i<a.length),w.cell? ⟨n,t+i,Z⟩=Y (I a[i])):Calls pG 220 #[P0 (Y ⟨St,0,Z⟩),.agg (mA 9 f e b wa p s q bl v (J (Y ⟨n,t,Z⟩) a.length F))] w λr w'=>r=.returned (.tuple #[])/\eI w' low St {d with seen:=e,last:=q,b0:=a.getD 0 d.b0,b1:=a.getD 1 d.b1,b2:=a.getD 2 d.b2,b3:=a.getD 3 d.b3} vr Mp D/\dQ (λg=>g=St) w w':=by
 have HZ:=dF S;clear S;have C:=(Below.refl w.1.size w).alloc r_ (G (mA 9 f e b wa p s q bl v (J (Y ⟨n,t,Z⟩) a.length F)) 136);have W:=dF (dI.new w (mA 9 f e b wa p s q bl v (J (Y ⟨n,t,Z⟩) a.length F)) 136);have c:=dF (h.later C);have HB:=dF C;have ac:=h.blk.lt;have Q:St≠w.1.size:=oG;clear h C;go_enter func220,ntmps220;go_upto_region 1 with fail;generalize (w.alloc (G (mA 9 f e b wa p s q bl v (J (Y ⟨n,t,Z⟩) a.length F)) 136))=E at*;have c0:=c.blk.cell 0;have c1:=c.blk.cell 1;have c2:=c.blk.cell 2;have c3:=c.blk.cell 3;have c4:=c.blk.cell 4;have c5:=c.blk.cell 5;have c6:=c.blk.cell 6;have c7:=c.blk.cell 7;have c8:=c.blk.cell 8;have c9:=c.blk.cell 9;have K:=c.blk.cell 10;have c11:=c.blk.cell 11;simp at c0 c1 c2 c3 c4 c5 c6 c7 c8 c9 K c11;have a5:=c.blk.free 0;have ab:=c.blk.free 1;have aa:=c.blk.free 2;have a4:=c.blk.free 3;have a8:=c.blk.free 4;have a7:=c.blk.free 5;have a3:=c.blk.free 6;have X:=c.blk.free 7;have a2:=c.blk.free 8;have V:=c.blk.free 9;have M:=c.blk.free 10;have H:=c.blk.free 11;obtain⟨m0,m1,m2,m3,m4,m5,m6,m7,m8,m9,gF⟩:=W.c11;have ae:=c.blk.lt;have hM:=W.lt;have y:=c.jg.ne c.blk;go_upto_region 12 with fail;have m:Hid (dM St E ((E.setCell ⟨St,7,Z⟩ (I e)).setCell ⟨St,8,Z⟩ (I q))):=(((dM.lq St E).set2 7 _).set2 8 _);have N:Hid (dI ((E.setCell ⟨St,7,Z⟩ (I e)).setCell ⟨St,8,Z⟩ (I q)) St #[I d.id,vr,Value.map (Y Mp),I d.b0,I d.b1,I d.b2,I d.b3,I e,I q,P0 (Y ⟨D,0,Z⟩),I d.lines,bool d.wh] 200):=by have h9:=(c.blk.set 7 (I e)).set 8 (I q);unfold Hid;simpa using h9
 have a6:=dF (W.same (m.block _ (Ne.symm Q)));generalize ((E.setCell ⟨St,7,Z⟩ (I e)).setCell ⟨St,8,Z⟩ (I q))=W1 at*;have x:∀j u,(a.map I)[j]?=Y u->W1.drew.cell? ((⟨n,t,Z⟩:Addr).add j)=Y u:=by intro j u L;rw[Go.WideShapes.add_plain];rw[List.getElem?_map]at L;obtain⟨z,S,rfl⟩:=Option.map_eq_some_iff.1 L;obtain⟨hj,rfl⟩:=List.getElem?_eq_some_iff.1 S;exact((m.cell (p:=⟨n,t+j,Z⟩) a0).trans (HB.cell (p:=⟨n,t+j,Z⟩) a9)).trans (HZ.out j hj)
 have ad:∀ty,(Builtin.copy_ #[59,59] ty #[J (Y ⟨St,3,Z⟩) 4 4,J (Y ⟨n,t,Z⟩) a.length F]).run pG W1.drew=.ok (goInt a.length) (W1.drew.setRow St #[I d.id,vr,Value.map (Y Mp),I (a.getD 0 d.b0),I (a.getD 1 d.b1),I (a.getD 2 d.b2),I (a.getD 3 d.b3),I e,I q,P0 (Y ⟨D,0,Z⟩),I d.lines,bool d.wh]):=by intro ty;have h9:=run_copy_row (P:=pG) W1.drew 59 59 ty 3 St 3 4 4 ⟨n,t,Z⟩ a.length F #[I d.id,vr,Value.map (Y Mp),I d.b0,I d.b1,I d.b2,I d.b3,I e,I q,P0 (Y ⟨D,0,Z⟩),I d.lines,bool d.wh] 200 (a.map I) underlying59 PB N.drew.blk (by rw[List.length_map];exact(Nat.min_eq_left hn.2).symm) x nG (by intro u L;simp at L;obtain⟨_,_,rfl⟩:=L;rfl);rcases a with _|⟨z0,_|⟨z1,_|⟨z2,_|⟨z3,_|⟨z4,a⟩⟩⟩⟩⟩<;>first|(simpa using h9)|(simp at hn)|(simp at hn;omega)
 have l:Hid (dM St W1.drew (W1.drew.setRow St #[I d.id,vr,Value.map (Y Mp),I (a.getD 0 d.b0),I (a.getD 1 d.b1),I (a.getD 2 d.b2),I (a.getD 3 d.b3),I e,I q,P0 (Y ⟨D,0,Z⟩),I d.lines,bool d.wh])):=lP _ _ _;have O:Hid (dI (W1.drew.setRow St #[I d.id,vr,Value.map (Y Mp),I (a.getD 0 d.b0),I (a.getD 1 d.b1),I (a.getD 2 d.b2),I (a.getD 3 d.b3),I e,I q,P0 (Y ⟨D,0,Z⟩),I d.lines,bool d.wh]) St #[I d.id,vr,Value.map (Y Mp),I (a.getD 0 d.b0),I (a.getD 1 d.b1),I (a.getD 2 d.b2),I (a.getD 3 d.b3),I e,I q,P0 (Y ⟨D,0,Z⟩),I d.lines,bool d.wh] 200):=⟨setRow_heap W1.drew St _ _ 200 _ N.drew.blk⟩;generalize W1.drew.setRow St #[I d.id,vr,Value.map (Y Mp),I (a.getD 0 d.b0),I (a.getD 1 d.b1),I (a.getD 2 d.b2),I (a.getD 3 d.b3),I e,I q,P0 (Y ⟨D,0,Z⟩),I d.lines,bool d.wh]=W2 at*;clear x c0 c1 c2 c3 c4 c5 c6 c7 c8 c9 K c11 a5 ab aa a4 a8 a7 a3 X a2 V M H m0 m1 m2 m3 m4 m5 m6 m7 m8 m9 gF;obtain⟨m0,m1,m2,m3,m4,m5,m6,m7,m8,m9,gF⟩:=a6.c11;go_region;all_goals go_wp2
 all_goals
  have a1:=kK c.ji c.blk.blk dG;have o:∀g,g≠St->W2.1[g]?=E.1[g]?:=λg U=>(l.block g U).trans (m.block g U);refine bodyPost_end (v:=.tuple #[]) (by simp[results,results220,go_sem]) rfl ⟨rfl,⟨⟨O.blk⟩,dW c.ji (λg U=>o g (λR=>a1 (by rw[←R];exact U))),c.jg.same (o Mp y)⟩,?_⟩;exact(dQ.of_below (A:=λ_=>False) HB).trans (B:=λg=>g=St) ⟨l.os.trans m.os,l.tape.trans m.tape,l.output.trans m.output,by have h8:=l.size;have h7:=m.size;have h6:W1.drew.1.size=W1.1.size:=rfl;omega,λk _ hk=>o k hk⟩ (λ_ R=>R.elim) (λ_ _ R=>R)
def PC:(Tryz.prog.info? 5).map (λi=>(i.zero,i.size,i.bytes))=Y (Y (.int .u8 0),1,1):=kG
def eY:List UInt8:=[106,111,117,114,110,97,108]
def xO{fs:List FD}{L:Nat}(h:∀f∈fs,f.d.length<=L)(c b:List UInt8):(∀f∈fJ fs c b,f.d.length<=L+b.length)/\(fJ fs c b).length<=fs.length+1:=by
 unfold fJ;split
 ·refine⟨λf a=>?_,sG⟩;rcases List.mem_append.1 a with a|a;·have:=h f a;omega
  ·simp at a;subst a;simp
 ·rename_i i hi;refine⟨λf a=>?_,sG⟩;rcases List.mem_or_eq_of_mem_set a with a|a;·have:=h f a;omega
  ·subst a;simp only[List.length_append];have e:(fs.getD i jJ).d.length<=L:=by
    rw[List.getD_eq_getElem?_getD];cases hx:fs[i]? with
    |none=>simp[jJ]
    |some y=>exact h y (List.mem_of_getElem? hx)
   omega
def uQ{fs:List FD}{L:Nat}(h:∀f∈fs,f.d.length<=L)(b:List UInt8):(∀f∈gK fs b,f.d.length<=L)/\(gK fs b).length=fs.length:=by
 unfold gK;split;·exact⟨h,rfl⟩
 ·rename_i i hi;refine⟨λf a=>?_,sG⟩;rcases List.mem_or_eq_of_mem_set a with a|a;·exact h f a
  ·subst a;show(fs.getD i jJ).d.length<=L;rw[List.getD_eq_getElem?_getD];cases hx:fs[i]? with
   |none=>simp[jJ]
   |some y=>exact h y (List.mem_of_getElem? hx)
def eL.then{ty e:TypeId}{low S:Nat}{w w1 w2:World}{v v1:Value}{c:List FD}{l:Int}(k:gA (λb=>b=S∨some b=v.ownBlock) w w1)(j:∀g,v1.ownBlock=Y g->v.ownBlock=Y g∨w.1.size<=g)(m:eL ty e low w1 S v1 c l w2):eL ty e low w S v c l w2:=by
 obtain⟨n,f,h,i⟩:=m;refine⟨n,f,k.trans h (λb p d=>?_),λg o=>?_⟩
 ·rcases d with d|d;·exact .inl d
  ·rcases j b d.symm with a|a;·exact .inr a.symm
   ·omega
 ·rcases i g o with a|a;·exact j g a
  ·exact .inr (Nat.le_trans k.size a)
def qB{P:Program}{w:World}{t:TypeId}{B i:Nat}{cs vs:Array Value}{ty:TypeId}(a:dI w B cs ty)(e:(P.info? t).map (·.size)=Y vs.size)(d:i+vs.size<=cs.size)(c:cs.toList.take i++vs.toList++cs.toList.drop (i+vs.size)=cs.toList)(g:∀v∈vs.toList,v.oneCell'=true):(Instr.storeAt t (P0 (Y ⟨B,i,Z⟩)) (.agg vs)).run P w=.ok () w:=by
 have b:=run_storeCells_at P B i ty vs.toList 0 cs w a.blk (by simpa using d) g;simp only[Nat.add_zero,Array.length_toList]at b;rw[c,Array.toArray_toList,setRow_self w B cs ty (0,0) a.blk]at b;cases hq:P.info? t with
 |none=>simp[hq]at e
 |some j=>
  have f:j.size=vs.size:=by simpa[hq] using e
  simp[Instr.storeAt,Instr.sureAddr,storeVar,sizeOf,typeInfo,hq,f,Value.cells,b]
def qA{P:Program}{w:World}{ops:Array Oper}{rest:List Oper}{o:Oper}{a:Act}{Q:Exit->Act->World->Prop}(e:o.guard=none)(t:TypeId)(x y:Operand)(c:o.op=Op.store t x y)(d vs:Value)(f:a.eval x=d)(hy:a.eval y=vs)(b:(Instr.storeAt t d vs).run P w=.ok () w)(h:wpList P ops Q rest (a.put o.dst (.tuple #[])) w):wpList P ops Q (o::rest) a w:=by refine wpList_plain e λK g=>?_;unfold Oper.wp;simp[execOp,c,f,hy,b,Result.andThen];exact g _ _ h
def tO:(Tryz.prog.info? 188).map (·.size)=Y 19:=kG
def QY:(Tryz.prog.info? 190).map (·.size)=Y 13:=kG
end
section
open Go.RowKit Go.Maps Go.Sort Go.Shelf
def qJ(v:Value):Int:=
 match v with
 |.agg a=>intOf (a.getD 0 undef)
 |_=>0
def qK(es:List MapEntry)(b:Nat):Int:=qJ (((es.find? (·.born==b)).map (·.key)).getD undef)
def BR{es:List MapEntry}(b:(es.map (·.born)).Nodup){x:MapEntry}(a:x∈es):qK es x.born=qJ x.key:=by unfold qK;rw[find_born x es b a];rfl
def DN{es:List MapEntry}{l:List (Int×PV)}(h:es.map (λe=>(e.key,e.val))=l.map (λx=>(gY x.1,iN x.2))):es.map (λx=>qJ x.key)=l.map (·.1)/\∀x∈es,x.key=gY (qJ x.key):=by
 have b:es.map (λe=>e.key)=l.map (λx=>gY x.1):=by have:=congrArg (List.map Prod.fst) h;simpa[List.map_map,Function.comp_def] using this
 refine⟨?_,λx c=>?_⟩;·have:=congrArg (List.map qJ) b;simpa[List.map_map,Function.comp_def,qJ,gY,intOf] using this
 ·have a:x.key∈es.map (λe=>e.key):=List.mem_map.2 ⟨x,c,rfl⟩;rw[b]at a;obtain⟨y,_,hy⟩:=List.mem_map.1 a;rw[←hy];rfl
def KB{es:List MapEntry}{l:List (Int×PV)}(h:es.map (λe=>(e.key,e.val))=l.map (λx=>(gY x.1,iN x.2)))(d:(es.map (·.born)).Nodup){seen:List Nat}(k:seen.Nodup)(j:∀b∈seen,b∈es.map (·.born))(m:∀x∈es,x.born∈seen):(seen.map (qK es)).Perm (l.map (·.1)):=by
 have f:seen.Perm (es.map (·.born)):=(List.perm_ext_iff_of_nodup k d).2 (λa=>⟨j a,λi=>by obtain⟨x,c,rfl⟩:=List.mem_map.1 i;exact m x c⟩);have g:(es.map (·.born)).map (qK es)=l.map (·.1):=by rw[←(DN h).1,List.map_map];refine List.map_congr_left (λx c=>?_);exact BR d c
 rw[←g];exact f.map _
structure pQ(w:World)(B r:Nat)(es:Array MapEntry)(clk:Nat)(seen:Array Nat):Prop where
 mp:w.1[B]?=Y (.map es clk)
 it:w.1[r]?=Y (.mapIter (Y B) clk seen clk)
 nd:seen.toList.Nodup
 inn:∀b∈seen.toList,b∈es.toList.map (·.born)
def pQ.of_walks{w w':World}{B r:Nat}{es:Array MapEntry}{a:Nat}{seen:Array Nat}(h:pQ w B r es a seen)(b:KeepsWalks w w'):pQ w' B r es a seen:=⟨b.same B _ h.mp rfl,b.same r _ h.it rfl,h.nd,h.inn⟩
def BS:∀(l m:List Nat),l.Nodup->(∀x∈l,x∈m)->l.length<=m.length
 | [],m,_,_=>Nat.zero_le _
 |a::l,m,h,hs=>by have b:=hs a sG;have c:=List.nodup_cons.1 h;have f:=BS l (m.erase a) c.2 (λx d=>(List.mem_erase_of_ne (by intro e;subst e;exact c.1 d)).2 (hs x (by simp[d])));have i:=List.length_erase_of_mem b;have g:0<m.length:=List.length_pos_of_mem b;simp;omega
def NY{es:Array MapEntry}{seen:Array Nat}(a:seen.toList.Nodup)(c:∀b∈seen.toList,b∈es.toList.map (·.born)):seen.size<=es.size:=by have:=BS _ _ a c;simpa using this
def pQ.next{w:World}{B r:Nat}{es:Array MapEntry}{c:Nat}{seen:Array Nat}(h:pQ w B r es c seen)(hs:pP (es.toList.map (·.born)) c):((leftOf es seen).size=0/\(∀x∈es.toList,x.born∈seen.toList)/\∀ty,(Instr.next (P0 (Y ⟨r,0,Z⟩)) false ty).run pG w=.ok (.tuple #[.bool false]) w)∨ ∃e∈es.toList,∃w':World,pQ w' B r es c (seen.push e.born)/\(leftOf es (seen.push e.born)).size<(leftOf es seen).size/\w.grownBy w' (Y r)/\w'.1.size=w.1.size/\seen.size<es.size/\(∀ty,(Instr.next (P0 (Y ⟨r,0,Z⟩)) false ty).run pG w=.ok (.tuple #[.bool true,e.key,e.val]) w')/\(Instr.entry (P0 (Y ⟨r,0,Z⟩))).run pG w'=.ok (.tuple #[e.key,e.val]) w':=by
 have t:r≠B:=by intro e;have:=h.it;rw[e,h.mp]at this;cases this
 have m:∀x∈es.toList,x.born<c:=λx y=>hs.1 _ (List.mem_map.2 ⟨x,y,rfl⟩);rcases run_next_at (P:=pG) w 0 r B c c seen es c h.it h.mp m r_ with⟨D,f⟩|⟨e,E,w1,g,f⟩;·exact .inl ⟨D,λx y=>by have:=all_seen es seen D x y;simpa using this,λty=>f⟩
 ·obtain⟨j,z⟩:=mem_left E;have v:w1.1[r]?=Y (.mapIter (Y B) c seen c):=by rcases g with rfl|rfl<;>exact h.it
  have C:w1.1[B]?=Y (.map es c):=by rcases g with rfl|rfl<;>exact h.mp
  have d:=MapKept.heap_set (o':=.mapIter (Y B) c (seen.push e.born) c) v;have l:e.born∉seen.toList:=by simpa using z
  have p:(seen.push e.born).toList.Nodup:=by rw[Array.toList_push,List.nodup_append];refine⟨h.nd,sG,λa F b k=>?_⟩;simp at k;intro u;subst u;subst k;exact l F
  have o:∀b∈(seen.push e.born).toList,b∈es.toList.map (·.born):=by
   intro b k;rw[Array.toList_push]at k;rcases List.mem_append.1 k with s|s;·exact h.inn b s
   ·simp at s;subst s;exact List.mem_map.2 ⟨e,j,rfl⟩
  have q:=(d.2 B (λA=>t A.symm)).trans C;have n:=NY p o;refine .inr ⟨e,j,_,⟨q,d.1,p,o⟩,left_shrinks es seen e E,?_,?_,by simp at n;omega,λty=>f,run_entry_at _ r B c seen es c e d.1 q j hs.2⟩;·rcases g with rfl|rfl<;>exact⟨rfl,rfl,rfl,by simp[ChangeMaps.setBlock],λi _ hi=>d.2 i (λA=>hi (by rw[A]))⟩
  ·rcases g with rfl|rfl<;>simp[ChangeMaps.setBlock]
set_option maxRecDepth 100000 in
def MD(F:Fence)(n:Nat)(R:F.fn 268)(N:F.round=none)(hn:1<=n)(l Bm b:Nat)(vs:List (Int×PV))(f:List Int->World->Prop)(hY:∀pre x W,f pre W->pre.length<vs.length->YieldAt F (n - 1) pG l #[.agg #[I x]] W λe C=>e=.returned (.bool true)/\f (pre++[x]) C/\KeepsWalks W C)(W:World)(K:AbidesFrom W.1.size f)(hm:W.cell? ⟨Bm,0,Z⟩=Y (.map (Y b)))(w:VM W b vs)(h0:f [] W):CallsIn F n pG 268 #[.func (.yield l) #[] #[],P0 (Y ⟨Bm,0,Z⟩)] W λe C=>(∃v,e=.returned v)/\∃ks:List Int,ks.Perm (vs.map (·.1))/\f ks C:=by
 obtain⟨es,a,k,i,h⟩:=w.1;have U:=DN i;have a2:es.size=vs.length:=by have:=congrArg List.length i;simpa using this
 have a0:b<W.1.size:=(Array.getElem?_eq_some_iff.1 k).1;have a6:=run_range_map W 193 321 284 b es a underlying193 k;have D:pQ (W.alloc (.mapIter (Y b) a #[] a)) b W.1.size es a #[]:=⟨(heap_alloc_old W _ a0).trans k,heap_alloc_new _ _,sG,sG⟩;have E:f [] (W.alloc (.mapIter (Y b) a #[] a)):=K [] W _ none h0 (World.grownBy_alloc W _ none) (λr e=>by cases e);refine callsIn_of_wp func268 rfl R ?_ N;simp only[ntmps268,List.size_toArray,List.length_cons,List.length_nil,Nat.reduceAdd,Nat.reduceSub,Array.replicate_succ,Array.replicate_zero,List.push_toArray,List.append_toArray,List.nil_append,List.cons_append];gi_wp2;generalize t:W.alloc (.mapIter (Y b) a #[] a)=W0 at*;have O:W0.1.size=W.1.size+1:=by rw[←t];simp
 clear t a6;gi_loopw [3] (λ_ wr=>∃seen,pQ wr b W.1.size es a seen/\W.1.size<wr.1.size/\f (seen.toList.map (qK es.toList)) wr)
  (λ_ wr=>wr.rangeLeft b W.1.size)
 case atStart=>exact⟨#[],D,oG,E⟩
 case round=>
  obtain⟨seen,c,aa,q⟩:=hrel;rcases c.next h with⟨hz,s,j⟩|⟨B,y,w2,m,a7,a4,M,H,j,g⟩;·gi_wp2;go_end0;exact⟨⟨_,rfl⟩,_,KB i h.2 c.nd c.inn s,q⟩
  ·have hk:=U.2 B y;have p:=BR h.2 y;have L:=dF p;rw[hk]at j g;generalize qJ B.key=x at*;have S:∃o:Obj,wr.1[W.1.size]?=Y o/\o.isWalk=true:=⟨_,c.it,rfl⟩;have Q:f (seen.toList.map (qK es.toList)) w2:=K _ wr w2 (Y W.1.size) q a4 (λr e=>by cases e;exact⟨Nat.le_refl _,S⟩);unfold gY at j g;have a3:w2.grownBy (w2.alloc (G #[Value.int IntKind.i64 x] 321)) none:=World.grownBy_alloc w2 _ none;have a5:f (seen.toList.map (qK es.toList)) (w2.alloc (G #[Value.int IntKind.i64 x] 321)):=K _ w2 _ none Q a3 (λr e=>by cases e);have u:KeepsWalks w2 (w2.alloc (G #[Value.int IntKind.i64 x] 321)):=KeepsWalks.alloc _ _;obtain⟨fn,a9,A,a8,hy,hR⟩:=hY _ x _ a5 nG;have X:W.1.size<w2.1.size:=oG;have V:(leftOf es (seen.push B.born)).size<wr.rangeLeft b W.1.size:=by simp only[World.rangeLeft,c.mp,c.it];exact a7
   clear M O a2 H p;gi_wp2;refine hR.mono ?_;rintro e W4 ⟨rfl,a1,z⟩;gi_wp2;have d:=(m.of_walks u).of_walks z;go_roundw;case rel=>exact⟨seen.push B.born,d,Nat.lt_of_lt_of_le X (Nat.le_trans u.size z.size),by rw[Array.toList_push,List.map_append];simp only[List.map_cons,List.map_nil];rw[L.out];exact a1⟩
   case measure=>simp only[World.rangeLeft,d.mp,d.it];exact V
def wS:Code:=(Code.region 2 #[{dst:=Y 5,op:=Op.alloc 321,type:=0,pos:= "iter.go:51",after:=#[],guard:=none},{dst:=none,op:=Op.store 321 (Operand.tmp 5) (Operand.tmp 7),type:=0,pos:= "iter.go:51",after:=#[{on:=0,ground:=Ground.data},{on:=0,ground:=Ground.phase}],guard:=none}] false)
def xP:Code:=(Code.block 1 (Code.region 3 #[{dst:=Y 8,op:=Op.load 344 (Operand.tmp 2),type:=344,pos:= "iter.go:52",after:=#[],guard:=none},{dst:=Y 9,op:=Op.load 321 (Operand.tmp 5),type:=321,pos:= "iter.go:52",after:=#[],guard:=none},{dst:=Y 10,op:=Op.buildSlice 344 1 #[(0,Operand.tmp 9)],type:=344,pos:= "iter.go:52",after:=#[{on:=1,ground:=Ground.data}],guard:=none},{dst:=Y 11,op:=Op.call {callee:=Callee.builtin Builtin.append,args:=#[Operand.tmp 8,Operand.tmp 10],argTypes:=#[344,344]},type:=344,pos:= "iter.go:52",after:=#[{on:=0,ground:=Ground.data},{on:=2,ground:=Ground.data}],guard:=none},{dst:=none,op:=Op.store 344 (Operand.tmp 2) (Operand.tmp 11),type:=0,pos:= "iter.go:52",after:=#[{on:=3,ground:=Ground.data},{on:=3,ground:=Ground.chain},{on:=0,ground:=Ground.phase},{on:=1,ground:=Ground.phase},{on:=2,ground:=Ground.phase},{on:=3,ground:=Ground.phase}],guard:=none}] false))
def nU(fn:FuncId)(sv:Value)(Bs D:Nat)(st:LoopState)(pend:Option Code):Loop:=
  {state:=st,pending:=pend,fn,tmps:=#[J Z 0 0,sv,P0 (Y ⟨Bs,0,Z⟩),undef,J Z 0 0,undef,sv,undef,undef,undef,undef,undef,undef],params:=#[7],assign:=wS,body:=xP,defers:=D}
def lB(e:Int):Value:=I e
structure tP(w0:World)(fn:FuncId)(sv:Value)(Bs l D:Nat)(ss:List Int)(W:World):Prop where
  box:∃v,W.1[Bs]?=Y (.cells #[v] 344 (0,0))/\W.ownsRow w0.1.size 321 1 v ss.length (ss.map lB)
  L:W.1[l]?=Y (.loop (nU fn sv Bs D .ready none))
  K:W.1[D]?=Y (.deferred (some []))
  below:Bw w0 W
def JH(w0:World)(f:FuncId)(g:Value)(j l D B:Nat)(m:w0.1.size<=B):AbidesFrom B (tP w0 f g j l D):=λs W n row h c b=>by
  have a:∀r,row=Y r->∃o:Obj,W.1[r]?=Y o/\o.isWalk=true:=λr e=>(b r e).2;obtain⟨v,d,i⟩:=h.box
  exact⟨⟨v,(grownBy_keeps c a d rfl).trans d,ownsRow_abides_a i c a⟩,(grownBy_keeps c a h.L rfl).trans h.L,(grownBy_keeps c a h.K rfl).trans h.K,
    h.below.grown c h.below.size (λk e=>Nat.le_trans m (b k e).1)⟩
def NZ:(Tryz.prog.info? 321).map (λi=>(i.zero,i.size,i.bytes))=Y (Y (.agg #[I 0]),1,8):=kG
set_option maxRecDepth 100000 in
def ME(F:Fence)(m:Nat)(w0:World)(H:FuncId)(am:F.fn H)(M:Value)(d l D:Nat)(S:d≠l)(a9:D≠l)(az:D≠d)(aA:w0.1.size<=d)(a2:w0.1.size<=l)(N:Nat)(hN:N<=maxLen)(aM:N*8<=140737488355328)(u:List Int)(x:Int)(W:World)(h:tP w0 H M d l D u W)(aD:u.length<N):YieldAt F m pG l #[.agg #[I x]] W λe W'=>e=.returned (.bool true)/\tP w0 H M d l D (u++[x]) W'/\KeepsWalks W W':=by
 obtain⟨i0,hi,au,ax,ah⟩:=info_parts NZ;obtain⟨v,hv,E⟩:=h.box;refine⟨H,#[J Z 0 0,M,P0 (Y ⟨d,0,Z⟩),undef,J Z 0 0,undef,M,.agg #[I x],undef,undef,undef,undef,undef],wS,xP,by simpa[nU] using run_yield (P:=pG) (args:=#[.agg #[I x]]) h.L rfl,roundIn_of_wpIn am ?_⟩;have hl:l<W.1.size:=(Array.getElem?_eq_some_iff.1 h.L).1;have a3:d<W.1.size:=(Array.getElem?_eq_some_iff.1 hv).1;have aj:D<W.1.size:=(Array.getElem?_eq_some_iff.1 h.K).1;obtain⟨W1,b⟩:∃W1,W.alloc (G #[Value.int IntKind.i64 x] 321)=W1:=⟨_,rfl⟩;have aI:W.1.size<W1.1.size:=by rw[←b];simp
 have U:W1.1[l]?=Y (.loop (nU H M d D .ready none)):=by rw[←b];exact(heap_alloc_old _ _ hl).trans h.L
 have ar:W1.1[d]?=Y (.cells #[v] 344 (0,0)):=by rw[←b];exact(heap_alloc_old _ _ a3).trans hv
 have an:W1.1[D]?=Y (.deferred (some [])):=by rw[←b];exact(heap_alloc_old _ _ aj).trans h.K
 have p:W1.ownsRow w0.1.size 321 1 v u.length (u.map lB):=by rw[←b];exact E.alloc _
 have ac:Bw w0 W1:=by rw[←b];exact h.below.alloc h.below.size _
 have aq:KeepsWalks W W1:=by rw[←b];exact KeepsWalks.alloc _ _
 have a7:W1.1[W.1.size]?=Y (.cells #[I x] 321 (0,0)):=by rw[←b];exact heap_alloc_new _ _
 have al:l<W1.1.size:=oG;have a8:=run_beginRound (P:=pG) U rfl;obtain⟨i,g⟩:∃i,W1.putObj l (.loop {nU H M d D .ready none with state:=.busy})=i:=⟨_,rfl⟩;rw[g]at a8;have C:W1.grownBy i (Y l):=by rw[←g];exact grownBy_putObj_a _ _ _
 have af:KeepsWalks W i:=by rw[←g];exact aq.trans (KeepsWalks.putObj _ U rfl)
 have V:i.1[d]?=Y (.cells #[v] 344 (0,0)):=by rw[←g];exact(World.putObj_heap_other S).trans ar
 have a6:i.1[D]?=Y (.deferred (some [])):=by rw[←g];exact(World.putObj_heap_other a9).trans an
 have aa:i.1[l]?=Y (.loop {nU H M d D .ready none with state:=.busy}):=by rw[←g];exact World.putObj_heap_same al
 have f:=p.kept C (ownsRow_ne_a p U (λq e=>by cases e));have B:=ac.grown C ac.size (λk e=>by cases e;exact a2);have ap:W.1.size≠l:=oG;have aH:i.cell? ⟨W.1.size,0,Z⟩=Y (I x):=by
  have:i.1[W.1.size]?=Y (.cells #[I x] 321 (0,0)):=by rw[←g];exact(World.putObj_heap_other ap).trans a7
  exact(cell_of_box_a this).1
 obtain⟨aN,aO⟩:=cell_of_box_a V;have n:∀{j:Nat} {o:Obj},i.1[j]?=Y o->(∀q,o≠.cells q 321 (0,0))->some j≠v.ownBlock:=λhj ao=>by
  rcases ownsRow_ne_a f hj ao with e|e;·rw[e];simp
  ·exact λe'=>e e'.symm
 have aC:=B.size;have aB:=C.size;have a4:d<i.1.size:=oG;have aw:l<i.1.size:=oG;have R:D<i.1.size:=oG;have aF:W.1.size<i.1.size:=oG;clear g E hv p a7 C;unfold wS;gi_wp2_with (rw[Oper.semAt_eq _ _ _ (λc h=>by cases h)];go_simp;try go_bits);clear b a8;unfold xP;gi_wp2_with (first
  | (gi_at_builtin;refine wpListIn_append_own _ rfl _ _ 344 rfl w0.1.size 321 i0 (.agg #[I 0]) 1 8 underlying344 hi au ax ah rfl dG _ _ _ rfl (f.alloc _) ⟨i.1.size,0,Z⟩ 1 1 [lB x] rfl rfl (cell_one_new _ _ _) (by simp[Value.oneCell',lB]) oG oG nG ?_;intro v' w3 r a5 ag
     have Q:=(a5.block d nG (n V (λq e=>by cases e))).trans ((Below.heap_alloc _ _ d a4).trans V);obtain⟨aQ,aL⟩:=cell_of_box_a Q
     obtain⟨X,a,s,rfl,ae,aE,aJ,aG,aP,aK⟩:∃X a s,v'=J (Y ⟨X,0,Z⟩) (u.length+1) a/\w0.1.size<=X/\w3.1[X]?=Y (.cells s 321 (0,0))/\u.length+1<=a/\a<=maxLen/\s.size=a*1/\s.toList.take ((u.length+1)*1)=u.map lB++[lB x]:=by
       rcases r.2 with⟨_,h0⟩|h'
       · exact absurd h0 oG
       · exact h'
     go_frame)
  | (rw[Oper.semAt_eq _ _ _ (λc h=>by cases h)];go_simp;try go_bits))
 have t:(i.alloc (.cells #[lB x] 321)).grownBy w3 v.ownBlock:=a5;have a1:=(t.block l nG (n aa (λq e=>by cases e))).trans ((Below.heap_alloc _ _ l aw).trans aa);have a0:=(t.block D nG (n a6 (λq e=>by cases e))).trans ((Below.heap_alloc _ _ D R).trans a6);obtain⟨O,w⟩:∃O,w3.setCell ⟨d,0,Z⟩ (J (Y ⟨X,0,Z⟩) (u.length+1) a)=O:=⟨_,rfl⟩;rw[w];have A:w3.grownBy O (Y d):=by rw[←w];exact grownBy_setCell0_a _ _ _
 have av:O.1[d]?=Y (.cells #[J (Y ⟨X,0,Z⟩) (u.length+1) a] 344 (0,0)):=by rw[←w];exact heap_setCell_box_a _ Q
 have z:=(A.block l (Array.getElem?_eq_some_iff.1 a1).1 (λe=>S (by cases e;rfl))).trans a1;have ak:=(A.block D (Array.getElem?_eq_some_iff.1 a0).1 (λe=>az (by cases e;rfl))).trans a0;have y:=r.kept A (ownsRow_ne_a r Q (λq e=>by cases e));have ai:l<O.1.size:=(Array.getElem?_eq_some_iff.1 z).1;have ad:=(B.alloc B.size _).grown t (by have:=B.size;simp;omega) (λk e=>(f.lt k e).1);have ab:=ad.grown A ad.size (λk e=>by cases e;exact aA);have ay:KeepsWalks W O:=((af.trans (KeepsWalks.alloc _ _)).trans (KeepsWalks.of_grownBy t (ownsRow_not_walk_a (f.alloc _)))).trans (by rw[←w];exact KeepsWalks.setCell _ _ _);clear w;refine⟨_,_,run_endRound none z,rfl,⟨⟨_,(World.putObj_heap_other S).trans av,?_⟩,World.putObj_heap_same ai,(World.putObj_heap_other a9).trans ak,ab.grown (grownBy_putObj_a _ _ _) ab.size (λk e=>by cases e;exact a2)⟩,ay.trans (KeepsWalks.putObj _ z rfl)⟩;have:=y.kept (grownBy_putObj_a O l (.loop {{nU H M d D .ready none with state:=.busy} with state:=if(none:Option Code).isNone then .ready else .done,pending:=none})) (ownsRow_ne_a y z (λq e=>by cases e));simpa using this
set_option maxRecDepth 100000 in
def GY(d b:Nat)(vs:List (Int×PV))(hN:vs.length<=maxLen)(A:vs.length*8<=140737488355328)(w:World)(M:d<w.1.size)(hm:w.cell? ⟨d,0,Z⟩=Y (.map (Y b)))(r:VM w b vs):CallsIn Fence.wide 5 pG 271 #[J Z 0 0,Value.func (Fn.func 268) #[] #[Value.pointer (Y ⟨d,0,Z⟩)]] w λe w'=>∃(v:Value) (z:List Int),e=.returned v/\z.Perm (vs.map (·.1))/\w'.ownsRow w.1.size 321 1 v z.length (z.map lB)/\Bw w w':=by
 have V:=enters_of func268 kG rfl;refine callsIn_of_wp_marks func271 rfl trivial ?_ rfl;simp only[ntmps271,List.size_toArray,List.length_cons,List.length_nil,Nat.reduceAdd,Nat.reduceSub,Array.replicate_succ,Array.replicate_zero,List.push_toArray,List.append_toArray,List.nil_append,List.cons_append];gi_wp2;refine wpIn_rangeFunc ?_;intro q N;obtain⟨a,h⟩:∃a,w.alloc (.cells #[J Z 0 0] 344)=a:=⟨_,rfl⟩;have B:a.1.size=w.1.size+1:=by rw[←h];simp
 have F:a.1[w.1.size]?=Y (.cells #[J Z 0 0] 344 (0,0)):=by rw[←h];exact World.alloc_heap_new w _
 have m:Bw w a:=by rw[←h];exact(Below.refl _ w).alloc r_ _
 rw[h];obtain⟨W1,c⟩:∃W1,(a.alloc (.deferred (some []))).alloc (.loop (nU q (Value.func (Fn.func 268) #[] #[Value.pointer (Y ⟨d,0,Z⟩)]) w.1.size a.1.size .ready none))=W1:=⟨_,rfl⟩;have u:∀k,k<a.1.size->W1.1[k]?=a.1[k]?:=λk S=>by rw[←c];exact(Below.heap_alloc _ _ k nG).trans (Below.heap_alloc _ _ k S)
 have i:Bw w W1:=by rw[←c];exact(m.alloc m.size _).alloc (by have:=m.size;simp;omega) _
 have X:W1.1.size=a.1.size+2:=by rw[←c];simp
 have Q:tP w q (Value.func (Fn.func 268) #[] #[Value.pointer (Y ⟨d,0,Z⟩)]) w.1.size (a.1.size+1) a.1.size [] W1:=
  ⟨⟨_,(u w.1.size oG).trans F,⟨rfl,.inl ⟨rfl,rfl⟩⟩⟩,
   by rw[←c];have:=World.alloc_heap_new (a.alloc (.deferred (some []))) (.loop (nU q (Value.func (Fn.func 268) #[] #[Value.pointer (Y ⟨d,0,Z⟩)]) w.1.size a.1.size .ready none));rwa[World.size_alloc]at this,
   by rw[←c];exact(Below.heap_alloc _ _ _ sG).trans (World.alloc_heap_new a _),i⟩
 have C:=(i.cell (p:=⟨d,0,Z⟩) M).trans hm;have H:=r.later i;refine⟨a.1.size+1,[{target:=.collected a.1.size,args:=#[]}],W1,{target:=.fn (.func 268) #[P0 (Y ⟨d,0,Z⟩)],args:=#[.func (.yield (a.1.size+1)) #[] #[]]},W1,268,
  #[.func (.yield (a.1.size+1)) #[] #[]]++#[P0 (Y ⟨d,0,Z⟩)],W1,?_,?_,?_,?_,λ_=>oG,?_⟩
 ·rw[←c];exact run_enterLoop_outer _ _ _ _ _
 ·simp[resolve,go_sem]
 ·intro f' U;trivial
 ·simp[invoke,go_sem,V]
 ·refine(MD Fence.wide 4 trivial rfl oG (a.1.size+1) d b vs (tP w q (Value.func (Fn.func 268) #[] #[Value.pointer (Y ⟨d,0,Z⟩)]) w.1.size (a.1.size+1) a.1.size) (λpre x W hJ hl=>ME Fence.wide (4 - 1) w q N _ w.1.size (a.1.size+1) a.1.size oG oG oG r_ oG vs.length hN A pre x W hJ hl) W1 (JH _ _ _ _ _ _ _ i.size) C H Q).mono ?_;rintro e W2 ⟨⟨v0,rfl⟩,O,hS,n⟩;obtain⟨v,hv,l⟩:=n.box;have j:=run_endLoop (P:=pG) n.L (by simp[nU]);obtain⟨o,g⟩:∃o,W2.putObj (a.1.size+1) (.loop {nU q (Value.func (Fn.func 268) #[] #[Value.pointer (Y ⟨d,0,Z⟩)]) w.1.size a.1.size .ready none with state:=.exhausted})=o:=⟨_,rfl⟩;rw[g]at j;have t:W2.grownBy o (Y (a.1.size+1)):=by rw[←g];exact grownBy_putObj_a _ _ _
  have E:o.1[w.1.size]?=Y (.cells #[v] 344 (0,0)):=by rw[←g];exact(World.putObj_heap_other oG).trans hv
  have s:o.1[a.1.size]?=Y (.deferred (some [])):=by rw[←g];exact(World.putObj_heap_other oG).trans n.K
  have f:=l.kept t (ownsRow_ne_a l n.L (λD e=>by cases e));have y:=n.below.grown t n.below.size (λk e=>by cases e;omega);obtain⟨a0,R⟩:=cell_of_box_a E;clear g;refine⟨none,o,j,?_⟩;gi_wp2;rw[←B];refine⟨sG,.inl ⟨_,_,rfl,run_takeDeferred s,?_⟩⟩;exact⟨_,results_tmp rfl _ _ _,v,O,rfl,hS,f.kept (grownBy_putObj_a _ _ _) (ownsRow_ne_a f s (λD e=>by cases e)),y.grown (grownBy_putObj_a _ _ _) y.size (λk e=>by cases e;omega)⟩
def G6(f b:Nat)(vs:List (Int×PV))(m:vs.length<=maxLen)(g:vs.length*8<=140737488355328)(w:World)(h:f<w.1.size)(i:w.cell? ⟨f,0,Z⟩=Y (.map (Y b)))(a:VM w b vs):Calls pG 266 #[Value.func (Fn.func 268) #[] #[Value.pointer (Y ⟨f,0,Z⟩)]] w λe w'=>∃(v:Value) (c:List Int),e=.returned v/\c.Perm (vs.map (·.1))/\w'.ownsRow w.1.size 321 1 v c.length (c.map lB)/\Bw w w':=by have d:=(callsIn_wide (n:=5)).1 (GY f b vs m g w h i a);clear i a;go_enter func266,ntmps266;go_wp2_with(go_at_call 271;refine d.mono ?_;rintro e w' ⟨v,c,rfl,l,j,k⟩);go_ret;exact⟨v,c,rfl,l,j,k⟩
end
section
open Go.RowKit
open Value (bool)
def PE:(Tryz.prog.info? 3).map (λi=>(i.zero,i.size,i.bytes))=Y (Y (I 0),1,8):=kG
def DO{t e:TypeId}(h:Tryz.prog.underlying t=Y (.slice e))(a:Option Addr)(n c:Nat)(w:World):(binOp .eql t (J a n c) (J Z 0 0)).run pG w=.ok (.bool a.isNone) w:=by simp only[binOp];simp[run_equal_slice_nil w t e a n c h]
def JI(S:Nat)(i d n h:Int)(w:World)(z:w.cell? ⟨S,3,Z⟩=Y (I i))(B:w.cell? ⟨S,4,Z⟩=Y (I d))(y:w.cell? ⟨S,5,Z⟩=Y (I n))(D:w.cell? ⟨S,6,Z⟩=Y (I h))(hS:S<w.1.size):Calls pG 263 #[J (Y ⟨S,3,Z⟩) 4 4] w λr w'=>∃v,r=.returned v/\fU w' w.1.size v [i,d,n,h]/\Bw w w':=by
 obtain⟨C,s,e,k,m⟩:=info_parts PE;have f:=DO underlying59 (Y ⟨S,3,Z⟩) 4 4 w;simp only[Option.isNone_some]at f;go_enter func263,ntmps263;go_wp2_with(at_builtin;go_loud (refine wpList_append_own _ rfl _ _ 59 rfl w.1.size 3 C (I 0) 1 8 underlying59 s e k m rfl dG _ 0 [] rfl ?c0 ⟨S,3,Z⟩ 4 4 [I i,I d,I n,I h] rfl rfl ?c1 ?c2 ?c3 ?c4 ?c5 ?_));case c0=>exact World.ownsRow_lit w #[] 0 r_ xG rfl
 case c1=>
  intro j u a;have F:j<4:=by have:=(List.getElem?_eq_some_iff.1 a).1;simpa using this
  have x:(⟨S,3,Z⟩:Addr).block<w.1.size:=hS;have b:∀o,(w.alloc (G #[] 3)).cell? ⟨S,o,Z⟩=w.cell? ⟨S,o,Z⟩:=λo=>((Below.refl w.1.size w).alloc r_ _).cell (p:=⟨S,o,Z⟩) hS;rcases j with _|_|_|_|j;·simp at a;subst a;exact(b _).trans z
  ·simp at a;subst a;exact(b _).trans B
  ·simp at a;subst a;exact(b _).trans y
  ·simp at a;subst a;exact(b _).trans D
  ·omega
 case c2=>intro u a;simp at a;rcases a with rfl|rfl|rfl|rfl<;>rfl
 case c3=>unfold maxLen;omega
 case c4=>omega
 case c5=>simp
 intro v' w2 c l t;have q:=((Below.refl w.1.size w).alloc r_ (G #[] 3)).grown l sG (λg A=>by simp[Value.ownBlock]at A;omega);obtain⟨E,vc,rfl⟩:=eK c;go_wp2;go_ret;exact⟨_,rfl,c,q⟩
def JJ(rs:List eM)(vr:Value)(w:World)(l:fM w vr rs.length (rs.flatMap eM.cells))(e:0<rs.length)(o:rs.length<=100000000):Calls pG 152 #[vr] w λr w'=>∃v,r=.returned v/\w'.ownsRow w.1.size 66 3 v rs.length (rs.flatMap eM.cells)/\Bw w w':=by
 obtain⟨n,j,f,k,c⟩:=info_parts yK;obtain⟨g,a,rfl,m,q⟩:=l.at e;have h:=DO underlying23 (Y ⟨g,0,Z⟩) rs.length a w;simp only[Option.isNone_some]at h;go_enter func152,ntmps152;go_wp2_with(at_builtin;go_loud (refine wD rfl _ _ 23 rfl w.1.size 66 n (.agg #[I 0,I 0,I 0]) 3 24 underlying23 j f k c rfl dG _ 0 [] rfl ?c0 (J (Y ⟨g,0,Z⟩) rs.length a) rs.length (rs.flatMap eM.cells) rfl (l.later ((Below.refl w.1.size w).alloc r_ _)) (wO eM.cells 3 tT rs) NS ?c3 ?c4 ?c5 ?_));case c0=>exact World.ownsRow_lit w #[] 0 r_ xG rfl
 case c3=>unfold maxLen;omega
 case c4=>omega
 case c5=>simp
 intro v' w2 b d;have i:=((Below.refl w.1.size w).alloc r_ (G #[] 66)).grown d sG (λg m=>by simp[Value.ownBlock]at m;omega);obtain⟨p,vc,rfl⟩:=eK b;go_wp2;go_ret;exact⟨_,rfl,b,i⟩
def fB:Prop:=∀(Bm b:Nat) (vs:List (Int×PV)) (w:World),vs.length<=100000000->Bm<w.1.size->w.cell? ⟨Bm,0,Z⟩=Y (.map (Y b))->VM w b vs->
  Calls pG 260 #[Value.func (Fn.func 268) #[] #[P0 (Y ⟨Bm,0,Z⟩)],Value.func (Fn.func 262) #[] #[]] w λe w'=>∃(v:Value) (ks:List Int),e=.returned v/\ks.Perm (vs.map (·.1))/\fM w' v ks.length (ks.map (Value.int .i64))/\(∀ad n c,v=J (Y ad) n c->w.1.size<=ad.block)/\Bw w w'
end
end Go.Proofs.YtdcainmlcpafbaaGreatDoor
