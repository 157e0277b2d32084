import Derived.Test.YtdcainmlcpafbaaGreatDoorJ11
set_option linter.all false
set_option maxHeartbeats 8000000
set_option maxRecDepth 20000
namespace Go.Proofs.YtdcainmlcpafbaaGreatDoor
open Go.RowKit
open Value renaming int->I,slice->J,pointer->P0
open Tryz
open Tryz renaming prog->pG
open IntKind renaming i64->T
open Option renaming none->Z,some->Y
open Obj renaming cells->G
open Value (bool)
structure iC where
 k:Int
 f:Int
 e:Int
 b:Int
 wa:Int
 p:Int
 s:Int
 q:Int
 bl:Int
 v:Int
def iC.nil:iC:=⟨0,0,0,0,0,0,0,0,0,0⟩
structure NB where
 id:Int
 nodes:Int
 nb:Int
 St:Nat
 down:Bool
 act:Bool
 ph:Int
 gE:Int
 gP:Int
 gS:Int
 jo:Int
 ba:Int
 rf:Int
 fo:iC
 an:Option Nat
 on:Int
 ow:iC
 oa:Option Nat
 ops:Int
 res:Value
@[reducible] def NB.arr(x:NB):Array Value:=#[I T x.id,I T x.nodes,I T x.nb,P0 (Y ⟨x.St,0,Z⟩),bool x.down,bool x.act,I T x.ph,I T x.gE,I T x.gP,I T x.gS,I T x.jo,I T x.ba,I T x.rf,I T x.fo.k,I T x.fo.f,I T x.fo.e,I T x.fo.b,I T x.fo.wa,I T x.fo.p,I T x.fo.s,I T x.fo.q,I T x.fo.bl,I T x.fo.v,J Z 0 0,Value.map x.an,I T x.on,I T x.ow.k,I T x.ow.f,I T x.ow.e,I T x.ow.b,I T x.ow.wa,I T x.ow.p,I T x.ow.s,I T x.ow.q,I T x.ow.bl,I T x.ow.v,J Z 0 0,Value.map x.oa,I T x.ops,x.res]
def NB.stand(x:NB):NB:={x with act:=false,ph:=0,gE:=0,gP:=0,gS:=0,jo:=0,ba:=0,rf:=0,fo:=.nil,an:=none,on:=0,ow:=.nil,oa:=none}
theorem k9{P:Program}{w:World}{t:TypeId}{B i:Nat}{cs vs:Array Value}{ty:TypeId}(c:dC w B cs ty)(d:(P.info? t).map (·.size)=Y vs.size)(b:i+vs.size<=cs.size)(g:∀v∈vs.toList,v.oneCell'=true)(ds:Array Value)(e:cs.toList.take i++vs.toList++cs.toList.drop (i+vs.size)=ds.toList):(Instr.storeAt t (P0 (Y ⟨B,i,Z⟩)) (.agg vs)).run P w=.ok () (w.setRow B ds):=by
 have a:=run_storeCells_at P B i ty vs.toList 0 cs w c.blk (by simpa using b) g;simp only[Nat.add_zero,Array.length_toList]at a;rw[e,Array.toArray_toList]at a;cases hq:P.info? t with
 |none=>simp[hq]at d
 |some j=>
  have f:j.size=vs.size:=by simpa[hq] using d
  simp[Instr.storeAt,Instr.sureAddr,storeVar,sizeOf,typeInfo,hq,f,Value.cells,a]
theorem dC.row{w:World}{B:Nat}{cs ds:Array Value}{ty:TypeId}(h:dC w B cs ty):dC (w.setRow B ds) B ds ty:=by refine⟨?_⟩;have a:=h.blk;have b:=h.lt;simp[World.setRow,Array.getElem?_modify,a]
theorem pU{P:Program}{w w':World}{ops:Array Oper}{b:List Oper}{o:Oper}{a:Act}{Q:Exit->Act->World->Prop}(f:o.guard=none)(t:TypeId)(x y:Operand)(d:o.op=Op.store t x y)(e vs:Value)(g:a.eval x=e)(hy:a.eval y=vs)(c:(Instr.storeAt t e vs).run P w=.ok () w')(h:wpList P ops Q b (a.put o.dst (.tuple #[])) w'):wpList P ops Q (o::b) a w:=by refine wpList_plain f fun K i=>?_;unfold Oper.wp;simp[execOp,d,g,hy,c,Result.andThen];exact i _ _ h
theorem uW(Nd:Nat)(x:NB)(w:World)(h:dC w Nd x.arr 192):Calls pG 192 #[P0 (Y ⟨Nd,0,Z⟩)] w fun r w'=>r=.returned (.tuple #[])/\dC w' Nd x.stand.arr 192/\dH Nd w w':=by
 have y:=h.cell 5;have B:=h.free 5;simp at y;have l:Hid (dH Nd w (w.setCell ⟨Nd,5,Z⟩ (bool false))):=dH.setCell w ⟨Nd,5,Z⟩ (bool false);have g:Hid (dC (w.setCell ⟨Nd,5,Z⟩ (bool false)) Nd (#[I T x.id,I T x.nodes,I T x.nb,P0 (Y ⟨x.St,0,Z⟩),bool x.down,bool false,I T x.ph,I T x.gE,I T x.gP,I T x.gS,I T x.jo,I T x.ba,I T x.rf,I T x.fo.k,I T x.fo.f,I T x.fo.e,I T x.fo.b,I T x.fo.wa,I T x.fo.p,I T x.fo.s,I T x.fo.q,I T x.fo.bl,I T x.fo.v,J Z 0 0,Value.map x.an,I T x.on,I T x.ow.k,I T x.ow.f,I T x.ow.e,I T x.ow.b,I T x.ow.wa,I T x.ow.p,I T x.ow.s,I T x.ow.q,I T x.ow.bl,I T x.ow.v,J Z 0 0,Value.map x.oa,I T x.ops,x.res]) 192):=by have A:=h.set 5 (bool false);unfold Hid;simpa using A
 have o:=k9 (P:=pG) (t:=188) (i:=6) (vs:=#[I T 0,I T 0,I T 0,I T 0,I T 0,I T 0,I T 0,I T 0,I T 0,I T 0,I T 0,I T 0,I T 0,I T 0,I T 0,I T 0,I T 0,J Z 0 0,Value.map none]) g sA (by simp) (by intro u c;simp at c;rcases c with rfl|rfl|rfl<;>rfl) #[I T x.id,I T x.nodes,I T x.nb,P0 (Y ⟨x.St,0,Z⟩),bool x.down,bool false,I T 0,I T 0,I T 0,I T 0,I T 0,I T 0,I T 0,I T 0,I T 0,I T 0,I T 0,I T 0,I T 0,I T 0,I T 0,I T 0,I T 0,J Z 0 0,Value.map none,I T x.on,I T x.ow.k,I T x.ow.f,I T x.ow.e,I T x.ow.b,I T x.ow.wa,I T x.ow.p,I T x.ow.s,I T x.ow.q,I T x.ow.bl,I T x.ow.v,J Z 0 0,Value.map x.oa,I T x.ops,x.res] (by simp);have d:=dA (g.out.row (ds:=#[I T x.id,I T x.nodes,I T x.nb,P0 (Y ⟨x.St,0,Z⟩),bool x.down,bool false,I T 0,I T 0,I T 0,I T 0,I T 0,I T 0,I T 0,I T 0,I T 0,I T 0,I T 0,I T 0,I T 0,I T 0,I T 0,I T 0,I T 0,J Z 0 0,Value.map none,I T x.on,I T x.ow.k,I T x.ow.f,I T x.ow.e,I T x.ow.b,I T x.ow.wa,I T x.ow.p,I T x.ow.s,I T x.ow.q,I T x.ow.bl,I T x.ow.v,J Z 0 0,Value.map x.oa,I T x.ops,x.res]));have j:=dA (jU (w.setCell ⟨Nd,5,Z⟩ (bool false)) Nd #[I T x.id,I T x.nodes,I T x.nb,P0 (Y ⟨x.St,0,Z⟩),bool x.down,bool false,I T 0,I T 0,I T 0,I T 0,I T 0,I T 0,I T 0,I T 0,I T 0,I T 0,I T 0,I T 0,I T 0,I T 0,I T 0,I T 0,I T 0,J Z 0 0,Value.map none,I T x.on,I T x.ow.k,I T x.ow.f,I T x.ow.e,I T x.ow.b,I T x.ow.wa,I T x.ow.p,I T x.ow.s,I T x.ow.q,I T x.ow.bl,I T x.ow.v,J Z 0 0,Value.map x.oa,I T x.ops,x.res]);generalize z:(w.setCell ⟨Nd,5,Z⟩ (bool false)).setRow Nd #[I T x.id,I T x.nodes,I T x.nb,P0 (Y ⟨x.St,0,Z⟩),bool x.down,bool false,I T 0,I T 0,I T 0,I T 0,I T 0,I T 0,I T 0,I T 0,I T 0,I T 0,I T 0,I T 0,I T 0,I T 0,I T 0,I T 0,I T 0,J Z 0 0,Value.map none,I T x.on,I T x.ow.k,I T x.ow.f,I T x.ow.e,I T x.ow.b,I T x.ow.wa,I T x.ow.p,I T x.ow.s,I T x.ow.q,I T x.ow.bl,I T x.ow.v,J Z 0 0,Value.map x.oa,I T x.ops,x.res]=W1 at*;have m:=k9 (P:=pG) (t:=190) (i:=25) (vs:=#[I T 0,I T 0,I T 0,I T 0,I T 0,I T 0,I T 0,I T 0,I T 0,I T 0,I T 0,J Z 0 0,Value.map none]) d NU (by simp) (by intro u c;simp at c;rcases c with rfl|rfl|rfl<;>rfl) #[I T x.id,I T x.nodes,I T x.nb,P0 (Y ⟨x.St,0,Z⟩),bool x.down,bool false,I T 0,I T 0,I T 0,I T 0,I T 0,I T 0,I T 0,I T 0,I T 0,I T 0,I T 0,I T 0,I T 0,I T 0,I T 0,I T 0,I T 0,J Z 0 0,Value.map none,I T 0,I T 0,I T 0,I T 0,I T 0,I T 0,I T 0,I T 0,I T 0,I T 0,I T 0,J Z 0 0,Value.map none,I T x.ops,x.res] (by simp);have n:=dA (d.out.row (ds:=#[I T x.id,I T x.nodes,I T x.nb,P0 (Y ⟨x.St,0,Z⟩),bool x.down,bool false,I T 0,I T 0,I T 0,I T 0,I T 0,I T 0,I T 0,I T 0,I T 0,I T 0,I T 0,I T 0,I T 0,I T 0,I T 0,I T 0,I T 0,J Z 0 0,Value.map none,I T 0,I T 0,I T 0,I T 0,I T 0,I T 0,I T 0,I T 0,I T 0,I T 0,I T 0,J Z 0 0,Value.map none,I T x.ops,x.res]));have a:=dA (jU W1 Nd #[I T x.id,I T x.nodes,I T x.nb,P0 (Y ⟨x.St,0,Z⟩),bool x.down,bool false,I T 0,I T 0,I T 0,I T 0,I T 0,I T 0,I T 0,I T 0,I T 0,I T 0,I T 0,I T 0,I T 0,I T 0,I T 0,I T 0,I T 0,J Z 0 0,Value.map none,I T 0,I T 0,I T 0,I T 0,I T 0,I T 0,I T 0,I T 0,I T 0,I T 0,I T 0,J Z 0 0,Value.map none,I T x.ops,x.res]);clear h z;go_enter func192,ntmps192;go_wp2_with(first|(refine pU rfl 188 _ _ rfl _ _ rfl rfl o ?_)|(refine pU rfl 190 _ _ rfl _ _ rfl rfl m ?_));exact bodyPost_end (v:=.tuple #[]) (by simp[results,results192,go_sem]) rfl ⟨rfl,n,(l.out.trans j).trans a⟩
theorem dZ.butG{w w':World}{low St:Nat}{d:SD}{vr:Value}{Mp D B:Nat}{cs:Array Value}{ty:TypeId}(h:dZ w low St d vr Mp D)(b:dC w B cs ty)(e:ty≠200)(c:ty≠66)(a:dH B w w'):dZ w' low St d vr Mp D:=⟨h.blk.same (a.block St (h.blk.ne b (Ne.symm e))),dO h.ja (fun g i=>a.block g (fun f=>iS h.ja b.blk c (by rw[←f];exact i))),h.iy.same (a.block Mp (h.iy.ne b))⟩
theorem fS.drewG{w:World}{low D H S:Nat}{a:Value}{fs:List FD}{left:Int}{L:Nat}(h:fS w low D H S a fs left L):fS w.drew low D H S a fs left L:=⟨h.hands.drewH,h.ds.drewD,h.dS,h.hS,h.lf,h.fl,h.bd⟩
def NB.after(x:NB)(ok:Bool):NB:=bif ok then x else{x.stand with down:=true}
theorem IB(hSO:eW)(hBW:eZ)(hBS:fA)(Nd:Nat)(x:NB)(low:Nat)(d:SD)(vr:Value)(Mp D H S:Nat)(u:Value)(fs:List FD)(left:Int)(L:Nat)(k f e b wa p s q bl v:Int)(a:Option Addr)(t:List Int)(c:Nat)(w:World)(h:dZ w low x.St d vr Mp D)(hk:fS w low D H S u fs left L)(ht:dU w)(hz:eX w a t)(al:2<=w.heap.size)(az:low<=w.heap.size)(hL:L<=1200000000)(aq:d.recs.length<=1300000)(aw:d.di.length<=1300000)(am:0<=d.lines/\d.lines<=100000000)(a4:2<=x.St)(ax:∀X,a=Y X->X.block≠x.St)(ak:0<d.recs.length)(ay:∀r∈d.recs,0<=r.E/\r.E<=10000000000000)(ap:0<=d.id/\d.id<5)(he:e_ e)(a1:gZ k bl t.length)(au:∀X,a=Y X->¬jZ x.St vr Mp S u X.block)(hn:dC w Nd x.arr 192)(aa:x.down=false):Calls pG 139 #[P0 (Y ⟨Nd,0,Z⟩),.agg #[I T k,I T f,I T e,I T b,I T wa,I T p,I T s,I T q,I T bl,I T v,J a t.length c]] w fun r w'=>∃ok fs' left' d' ac ab,r=.returned (.bool ok)/\lF d fs left (⟨k,f,e,b,wa,p,s,q,bl,v,a,c,t⟩:dI) ok fs' left' d'/\dC w' Nd (x.after ok).arr 192/\dZ w' low x.St (bif ok then d'.step k e b p s q bl v t else d') ac Mp D/\fS w' low D H S ab fs' left' (Nat.max (L+301) (301*(d.recs.length+2*d.di.length+1)))/\(∀g,ab.ownBlock=Y g->u.ownBlock=Y g∨w.heap.size<=g)/\(∀g,ac.ownBlock=Y g->vr.ownBlock=Y g∨w.heap.size<=g)/\dK (fun g=>g=Nd∨jZ x.St vr Mp S u g) w w':=by
 have l:=a_ w (G #[I T k,I T f,I T e,I T b,I T wa,I T p,I T s,I T q,I T bl,I T v,J a t.length c] 136);have HM:=dA (dC.new w #[I T k,I T f,I T e,I T b,I T wa,I T p,I T s,I T q,I T bl,I T v,J a t.length c] 136);have HB:=dA l;have HT:=dA (ht.below l al);have HZ:=dA (hz.later l);have O:=dA (h.later l);have F:=dA (hk.later l);have HN:=dA (hn.later l);have ao:=dA aa;clear ht hz l h hk hn aa;go_enter func139,ntmps139;go_upto_region 1 with fail;generalize (w.alloc (G #[I T k,I T f,I T e,I T b,I T wa,I T p,I T s,I T q,I T bl,I T v,J a t.length c] 136))=W0 at*;have a9:=HB.out.size;have W:2<=W0.heap.size:=by omega
 have ah:low<=W0.heap.size:=by omega
 obtain⟨m0,m1,m2,m3,m4,m5,m6,m7,m8,m9,af⟩:=HM.out.c11;have n3:=HN.out.cell 3;simp at n3;refine wp_region_held_drew (S:=(fun w'=>w'.cell? ⟨Nd,3,Z⟩=Y (P0 (Y ⟨x.St,0,Z⟩))/\w'.cell? ⟨w.heap.size,0,Z⟩=Y (I T k)/\w'.cell? ⟨w.heap.size,1,Z⟩=Y (I T f)/\w'.cell? ⟨w.heap.size,2,Z⟩=Y (I T e)/\w'.cell? ⟨w.heap.size,3,Z⟩=Y (I T b)/\w'.cell? ⟨w.heap.size,4,Z⟩=Y (I T wa)/\w'.cell? ⟨w.heap.size,5,Z⟩=Y (I T p)/\w'.cell? ⟨w.heap.size,6,Z⟩=Y (I T s)/\w'.cell? ⟨w.heap.size,7,Z⟩=Y (I T q)/\w'.cell? ⟨w.heap.size,8,Z⟩=Y (I T bl)/\w'.cell? ⟨w.heap.size,9,Z⟩=Y (I T v)/\w'.cell? ⟨w.heap.size,10,Z⟩=Y (J a t.length c))) (by kernel_rfl) ⟨n3,m0,m1,m2,m3,m4,m5,m6,m7,m8,m9,af⟩ (fun _=>?_);refine tk 0 ?_;refine tk 1 ?_;refine tk 2 ?_;refine tk 3 ?_;refine tk 4 ?_;refine dE 5 fun K y=>?_;(try go_simp);go_at_call 191;refine(J0 hSO hBW hBS low x.St d vr Mp D H S u fs left L k f e b wa p s q bl v a t c W0.drew O.out.drew F.out.drewG HT.out.qx HZ.out.qw (by exact W) (by exact ah) hL aq aw am a4 ax ak ay ap he a1 au).mono ?_;rintro r w1 ⟨ok,a2,o,d1,B,Q,hr,aj,a3,a0,a8,a5,n⟩;subst hr;have R:=dA aj;have C:Hid (dK (jZ x.St vr Mp S u) W0 w1):=⟨n.os,n.tape,n.output,n.size,n.block⟩;have V:=dA a3;have ai:=dA a0;have av:=dA (HM.out.same (C.out.block _ HM.out.lt (qF O F HM (by decide) (by decide) (by decide) (by decide))));have i:=dA (HN.out.same (C.out.block _ HN.out.lt (qF O F HN (by decide) (by decide) (by decide) (by decide))));have a7:Hid (∀g,Q.ownBlock=Y g->u.ownBlock=Y g∨w.heap.size<=g):=fun g M=>(a8 g M).imp id (fun h9=>Nat.le_trans a9 h9);have ag:Hid (∀g,B.ownBlock=Y g->vr.ownBlock=Y g∨w.heap.size<=g):=fun g M=>(a5 g M).imp id (fun h9=>Nat.le_trans a9 h9);have m:Hid (dK (jZ x.St vr Mp S u) w w1):=(dK.of_below (A:=fun _=>False) HB).trans C (fun _ N=>N.elim) (fun _ _ N=>N);clear a3 a0 a8 a5 n aj;obtain⟨y0,y1,y2,y3,y4,y5,y6,y7,y8,y9,z⟩:=av.out.c11;have q3:=i.out.cell 3;have q4:=i.out.cell 4;simp at q3 q4;rw[ao.out]at q4;refine k1 y (fun _=>?_) ⟨q3,y0,y1,y2,y3,y4,y5,y6,y7,y8,y9,z⟩;clear y K n3 m0 m1 m2 m3 m4 m5 m6 m7 m8 m9 af;cases ok
 ·refine dE 6 fun K y=>?_;(try go_simp);refine k1 y (fun _=>?_) ⟨q3,y0,y1,y2,y3,y4,y5,y6,y7,y8,y9,z⟩;clear y K;refine dn ?_;have aB:=i.out.free 4;have aA:=i.out.lt;have an:Hid (dH Nd w1 (w1.setCell ⟨Nd,4,Z⟩ (bool true))):=dH.setCell w1 ⟨Nd,4,Z⟩ (bool true);have ar:Hid (dC (w1.setCell ⟨Nd,4,Z⟩ (bool true)) Nd ({x with down:=true}:NB).arr 192):=by have h9:=i.out.set 4 (bool true);unfold Hid;simpa using h9
  go_upto_region 3 with fail;generalize w1.setCell ⟨Nd,4,Z⟩ (bool true)=W4 at*;go_wp2_with fail;refine(uW Nd {x with down:=true} W4 ar).mono ?_;rintro r w5 ⟨rfl,U,ae⟩;have a6:=dA U;have j:=dA (an.out.trans ae);have r4:=a6.out.cell 4;simp[NB.stand]at r4;clear U ae;go_wp2;go_ret;refine⟨false,a2,o,d1,B,Q,rfl,R,a6,V.out.butG i (by decide) (by decide) j,ai.out.but i (by decide) (by decide) (by decide) (by decide) j,a7,ag,?_⟩;exact⟨j.out.os.trans m.out.os,j.out.tape.trans m.out.tape,j.out.output.trans m.out.output,by rw[j.out.size];exact m.out.size,fun g M hA=>(j.out.block g (fun N=>hA (.inl N))).trans (m.out.block g M (fun N=>hA (.inr N)))⟩
 ·refine dE 6 fun K y=>?_;(try go_simp);refine k1 y (fun _=>?_) ⟨q3,y0,y1,y2,y3,y4,y5,y6,y7,y8,y9,z⟩;clear y K;refine dn ?_;go_wp2;go_ret;exact⟨true,a2,o,d1,B,Q,rfl,R,i,V,ai,a7,ag,m.out.wide (fun g M=>.inr M)⟩
theorem tH(low St Nd:Nat)(d:SD)(vr:Value)(Mp D:Nat)(w:World)(k:w.cell? ⟨Nd,3,Z⟩=Y (P0 (Y ⟨St,0,Z⟩)))(i:Nd<w.heap.size)(h:dZ w low St d vr Mp D)(n:0<d.recs.length)(j:d.recs.length<=100000000):Calls pG 133 #[P0 (Y ⟨Nd,0,Z⟩)] w fun r w'=>r=.returned (.agg #[I T d.dh.E,I T d.dh.P,I T d.dh.S])/\Below w.heap.size w w':=by
 have b:=a_ w (G #[I T 0,I T 0,I T 0] 66);have s:=dA (h.later b);have A:=dA b;have c3:=(b.cell (p:=⟨Nd,3,Z⟩) i).trans k;have o:Nd<(w.alloc (G #[I T 0,I T 0,I T 0] 66)).heap.size:=by simp;omega
 have K:=s.out.blk.lt;have z:(w.alloc (G #[I T 0,I T 0,I T 0] 66)).heap.size=w.heap.size+1:=by simp
 have f:=dA (dC.new w #[I T 0,I T 0,I T 0] 66);have g:(d.recs.length:Int) - 1=((d.recs.length - 1:Nat):Int):=by omega
 clear k h b;go_enter func133,ntmps133;go_wp2_with fail;generalize (w.alloc (G #[I T 0,I T 0,I T 0] 66))=l at*;go_region_held3 (fun w'=>w'.cell? ⟨Nd,3,Z⟩=Y (P0 (Y ⟨St,0,Z⟩))) (first|assumption|go_keep|(repeat(first|assumption|refine(World.cell?_setCell_other _ _ _ _ (by intro C;have H:=congrArg Addr.block C;(try simp at H);omega)).trans ?_))) (first|(go_at_call 179;refine(nU low St d vr Mp D l.drew s.out.drew n j).mono ?_;rintro r w3 ⟨rfl,rfl⟩;rw[g])|(go_at_call 181;refine(yM low St d vr Mp D (d.recs.length - 1) l.drew s.out.drew (by omega) j).mono ?_;rintro r m ⟨rfl,a⟩;have O:m.cell? ⟨Nd,3,Z⟩=Y (P0 (Y ⟨St,0,Z⟩)):=(a.cell (p:=⟨Nd,3,Z⟩) o).trans c3;have B:=(f.out.drew.later a).cell 0;have y:=(f.out.drew.later a).cell 1;have F:=(f.out.drew.later a).cell 2;have L:=(f.out.drew.later a).free 0;have M:=(f.out.drew.later a).free 1;have Q:=(f.out.drew.later a).free 2;simp at B y F));have e:d.recs[d.recs.length - 1]?.getD ⟨0,0,0⟩=d.dh:=by unfold SD.dh;rw[List.getD_eq_getElem?_getD]
 simp only[e] at*;have q:Hid (Below w.heap.size w (((m.setCell ⟨w.heap.size,0,Z⟩ (I T d.dh.E)).setCell ⟨w.heap.size,1,Z⟩ (I T d.dh.P)).setCell ⟨w.heap.size,2,Z⟩ (I T d.dh.S))):=gW (gW (gW (A.out.drew.trans (a.mono (by show _<=l.heap.size;omega))) r_ _ _) r_ _ _) r_ _ _;have c:=(((f.out.drew.later a).set 0 (I T d.dh.E)).set 1 (I T d.dh.P)).set 2 (I T d.dh.S);generalize (((m.setCell ⟨w.heap.size,0,Z⟩ (I T d.dh.E)).setCell ⟨w.heap.size,1,Z⟩ (I T d.dh.P)).setCell ⟨w.heap.size,2,Z⟩ (I T d.dh.S))=N at*;have t:=c.cell 0;have u:=c.cell 1;have x:=c.cell 2;simp at t u x;go_wp2;exact bodyPost_ret (v:=.agg #[I T d.dh.E,I T d.dh.P,I T d.dh.S]) (by simp[results,results133,go_sem,t,u,x]) rfl ⟨rfl,q⟩
theorem tB(Nd:Nat)(id nodes:Int)(w:World)(d:w.cell? ⟨Nd,0,Z⟩=Y (I T id))(e:w.cell? ⟨Nd,1,Z⟩=Y (I T nodes))(c:2<=nodes/\nodes<=5)(hi:0<=id/\id<nodes):Calls pG 178 #[P0 (Y ⟨Nd,0,Z⟩)] w fun r w'=>r=.returned (I T (2 ^ nodes.toNat - 1 - 2 ^ id.toNat))/\∃n,w'=w.drewN n:=by
 have b:nodes=2∨nodes=3∨nodes=4∨nodes=5:=by omega
 have a:id=0∨id=1∨id=2∨id=3∨id=4:=by omega
 rcases b with rfl|rfl|rfl|rfl<;>rcases a with rfl|rfl|rfl|rfl|rfl<;>try omega
 all_goals
  clear c hi
  go_enter func178,ntmps178
  go_upto_region 1 with fail
  go_quiet (fail)
  go_wp2
  go_ret
  exact⟨rfl,nq,rfl⟩
abbrev Ky:=Int×Int×Int×Int
def jS(a:Ky):Value:=.agg #[I T a.1,I T a.2.1,I T a.2.2.1,I T a.2.2.2]
theorem CN:∃b a c d:Field,(Tryz.prog.fieldsOf 323).toList=[b,a,c,d]/\(b.name = "kind" /\b.type=3/\b.offset=0)/\(a.name = "epoch" /\a.type=3/\a.offset=1)/\(c.name = "number" /\c.type=3/\c.offset=2)/\(d.name = "node" /\d.type=3/\d.offset=3):=by
 have h:(Tryz.prog.fieldsOf 323).toList.map (fun f=>(f.name,f.type,f.offset))=[("kind",3,0),("epoch",3,1),("number",3,2),("node",3,3)]:=by kernel_rfl
 obtain⟨b,l,k,j,h⟩:=List.map_eq_cons_iff.1 h;obtain⟨a,l,o,e,h⟩:=List.map_eq_cons_iff.1 h;obtain⟨c,l,m,g,h⟩:=List.map_eq_cons_iff.1 h;obtain⟨d,l,n,i,h⟩:=List.map_eq_cons_iff.1 h;simp only[List.map_eq_nil_iff]at h;simp only[Prod.mk.injEq]at j e g i;exact⟨b,a,c,d,by rw[k,o,m,n,h],j,e,g,i⟩
theorem wF:Tryz.prog.underlying 323=Y (.struct (Tryz.prog.fieldsOf 323)):=by kernel_rfl
theorem MP:Tryz.prog.stoodInHeld 323=false:=by kernel_rfl
theorem kS(a:Ky)(i:Nat)(x:Int)(w:World)(h:#[a.1,a.2.1,a.2.2.1,a.2.2.2][i]?=Y x):(part 3 #[I T a.1,I T a.2.1,I T a.2.2.1,I T a.2.2.2] i).run pG w=.ok (I T x) w:=by
 refine i6 (w:=w) _ i (I T x) ?_;match i,h with
 |0,h=>simp at h;simp[h]
 |1,h=>simp at h;simp[h]
 |2,h=>simp at h;simp[h]
 |3,h=>simp at h;simp[h]
 |n+4,h=>simp at h
theorem NW(a b:Ky)(w:World):(Op.equal 323 (jS a) (jS b)).run pG w=.ok (decide (a=b)) w:=by obtain⟨C,A,D,B,e,⟨s,i,z⟩,⟨v,f,x⟩,⟨n,g,j⟩,q,k,p⟩:=CN;show(Op.equalIn 10000 323 _ _).run _ _=_;unfold jS;rw[run_equalIn_struct w 9999 323 _ _ wF MP,e];simp only[Op.eqFields,s,v,n,q,i,f,g,k,z,x,j,p,Sem.run_bind,Sem.run_ite,kS a 0 a.1 w rfl,kS a 1 a.2.1 w rfl,kS a 2 a.2.2.1 w rfl,kS a 3 a.2.2.2 w rfl,kS b 0 b.1 w rfl,kS b 1 b.2.1 w rfl,kS b 2 b.2.2.1 w rfl,kS b 3 b.2.2.2 w rfl,Result.andThen_ok,run_equalIn_int w 9998 3 .i64 .i64 _ _ underlying3];obtain⟨a1,t,u,c⟩:=a;obtain⟨h,m,o,l⟩:=b;by_cases y:a1=h<;>by_cases d:t=m<;>by_cases c3:u=o<;>by_cases r:c=l<;>simp[y,d,c3,r]
theorem CO(b:Bool)(a:Ky)(w:World):(Instr.checkKey b 10000 323 (jS a)).run pG w=.ok () w:=by obtain⟨r,p,s,q,c,⟨l,f,o⟩,⟨m,d,n⟩,⟨i,e,g⟩,k,h,j⟩:=CN;rw[show(10000:Nat)=9998+1+1 from rfl];unfold Instr.checkKey jS;simp only[Sem.run_bind,run_underlying wF,Result.andThen_ok];rw[←Array.forIn_toList,c];simp only[List.forIn_cons,List.forIn_nil,l,m,i,k,f,d,e,h,o,n,g,j,Sem.run_bind,Sem.run_ite,kS a 0 a.1 w rfl,kS a 1 a.2.1 w rfl,kS a 2 a.2.2.1 w rfl,kS a 3 a.2.2.2 w rfl,Result.andThen_ok];unfold Instr.checkKey;simp[run_underlying underlying3,(fun w=>kS a 1 a.2.1 w rfl:∀w,_),(fun w=>kS a 2 a.2.2.1 w rfl:∀w,_),(fun w=>kS a 3 a.2.2.2 w rfl:∀w,_)]
structure fW(w:World)(B:Nat)(l:List Ky):Prop where
 obj:∃(es:Array MapEntry) (clk:Nat),w.heap[B]?=Y (.map es clk)/\es.toList.map (fun e=>(e.key,e.val))=l.map (fun a=>(jS a,.agg #[]))
def lL(a:Ky):List Ky->Nat->Option (Nat×Value)
 | [],_=>none
 |y::l,i=>if a=y then some (i,.agg #[]) else lL a l (i+1)
theorem vD(a:Ky):∀(l:List Ky) (i:Nat),(lL a l i).isSome=decide (a∈l)/\∀j v,lL a l i=Y (j,v)->v=.agg #[]
 | [],i=>by simp[lL]
 |y::l,i=>by
  unfold lL;by_cases h:a=y;·simp[h]
  ·have:=vD a l (i+1);simp[h,this.1];exact this.2
theorem J1(a:Ky)(w:World):∀(es:List MapEntry) (l:List Ky) (i:Nat),es.map (fun e=>(e.key,e.val))=l.map (fun x=>(jS x,.agg #[]))->(Instr.findAsking 323 (jS a) es i).run pG w=.ok (lL a l i) w:=by
 intro es
 induction es with
 | nil=>intro l i h;cases l with
  |nil=>simp[Instr.findAsking,lL]
  |cons y l=>simp at h
 |cons b es ih=>
  intro l i h
  cases l with
  |nil=>simp at h
  |cons y l=>
   simp only[List.map_cons,List.cons.injEq,Prod.mk.injEq]at h
   simp only[Instr.findAsking,lL,Sem.run_bind,h.1.1,h.1.2]
   rw[NW a y w]
   simp only[Result.andThen_ok]
   by_cases c:a=y
   ·simp[c]
   ·simp[c]
    exact ih l (i+1) h.2
theorem zY(a:Ky)(w:World)(es:List MapEntry)(l:List Ky)(h:es.map (fun e=>(e.key,e.val))=l.map (fun x=>(jS x,.agg #[]))):(Instr.findKey 323 (jS a) es).run pG w=.ok (lL a l 0) w:=by
 unfold Instr.findKey
 simp only[Sem.run_bind,run_underlying wF,Result.andThen_ok]
 cases es with
 | nil=>cases l with
  |nil=>simp[Instr.findNow,lL]
  |cons y l=>simp at h
 |cons b es=>
  have c:Instr.findNow (.struct (Tryz.prog.fieldsOf 323)) (jS a) (b::es) 0=none:=by simp[Instr.findNow,Instr.sameNow]
  rw[c]
  exact J1 a w (b::es) l 0 h
theorem LJ:(Tryz.prog.info? 125).map (fun i=>(i.zero,i.size,i.bytes))=Y (Y (.agg #[]),0,0):=by kernel_rfl
theorem LK(w:World):(zeroValue 125).run pG w=.ok (.agg #[]) w:=by obtain⟨e,b,a,d,c⟩:=info_parts LJ;simp[zeroValue,run_typeInfo w b,a]
section
variable {w w':World} {B:Nat} {l:List Ky}
theorem fW.lt(h:fW w B l):B<w.heap.size:=by obtain⟨es,b,a,_⟩:=h.obj;exact(Array.getElem?_eq_some_iff.1 a).1
theorem fW.same(h:fW w B l)(c:w'.heap[B]?=w.heap[B]?):fW w' B l:=by obtain⟨es,a,b,d⟩:=h.obj;exact⟨es,a,c.trans b,d⟩
theorem fW.later(h:fW w B l)(a:Below w.heap.size w w'):fW w' B l:=h.same (a.block B h.lt)
theorem fW.ne(h:fW w B l){C:Nat}{cs:Array Value}{t:TypeId}(h':dC w C cs t):B≠C:=by intro a;subst a;obtain⟨es,b,c,_⟩:=h.obj;have:=c.symm.trans h'.blk;simp at this
theorem fW.look(h:fW w B l)(a:Ky):(Instr.lookup 186 (.map (Y B)) (jS a) true).run pG w=.ok (.tuple #[.agg #[],.bool (decide (a∈l))]) w:=by
 obtain⟨es,f,g,e⟩:=h.obj;have c:=zY a w es.toList l e;obtain⟨m1,d⟩:=vD a l 0;unfold Instr.lookup;simp only[Sem.run_bind,run_underlying underlying186,Result.andThen_ok,nB g,Sem.run_pure,CO,c];cases hx:lL a l 0 with
 |none=>
  rw[hx]at m1;have b:¬a∈l:=by simpa using m1.symm
  simp[LK,b]
 |some y=>
  obtain⟨i,v⟩:=y;rw[hx]at m1;have b:a∈l:=by simpa using m1.symm
  have:=d i v hx;subst this;simp[b]
theorem fW.put(h:fW w B l)(a:Ky)(g:¬a∈l):∃w',(Instr.mapUpdate 186 (.map (Y B)) (jS a) (.agg #[])).run pG w=.ok () w'/\fW w' B (l++[a])/\dH B w w':=by
 obtain⟨es,b,e,d⟩:=h.obj;have c:=zY a w es.toList l d;have f:=h.lt;obtain⟨m1,_⟩:=vD a l 0;unfold Instr.mapUpdate;cases hx:lL a l 0 with
 |none=>
  rw[hx]at c;refine⟨{w with heap:=w.heap.setIfInBounds B (.map (es.push ⟨jS a,.agg #[],b⟩) (b+1))},?_,⟨_,_,(mL w B _ f).1,?_⟩,(mL w B _ f).2⟩;·simp only[Sem.run_bind,run_underlying underlying186,Result.andThen_ok,nB e,CO,c];exact rK _ e
  ·rw[Array.toList_push,List.map_append,List.map_append,d];rfl
 |some y=>rw[hx]at m1;simp at m1;exact absurd m1 g
end
theorem fW.size{w:World}{B:Nat}{l:List Ky}(h:fW w B l):∃(es:Array MapEntry) (a:Nat),w.heap[B]?=Y (.map es a)/\es.size=l.length:=by obtain⟨es,a,c,b⟩:=h.obj;refine⟨es,a,c,?_⟩;have:=congrArg List.length b;simpa using this
theorem wG(Nd B:Nat)(nodes:Int)(l:List Ky)(w:World)(j:w.cell? ⟨Nd,1,Z⟩=Y (I T nodes))(f:w.cell? ⟨Nd,24,Z⟩=Y (Value.map (Y B)))(h:fW w B l)(i:2<=nodes/\nodes<=5)(g:l.length<=1000000):Calls pG 241 #[P0 (Y ⟨Nd,0,Z⟩)] w fun r w'=>r=.returned (.bool (decide (nodes<2*(l.length:Int))))/\∃n,w'=w.drewN n:=by
 obtain⟨es,a,c,b⟩:=h.size;have d:∀ty n,(Builtin.len_ #[186] ty #[.map (Y B)]).run pG (w.drewN n)=.ok (I T (l.length:Int)) (w.drewN n):=by intro ty n;have e:(w.drewN n).heap[B]?=Y (.map es a):=((below_drewN b_ n).block B h.lt).trans c;unfold Builtin.len_;simp only[List.getElem?_toArray,List.getElem?_cons_zero,Sem.run_bind,run_underlying underlying186,Result.andThen_ok,nB e,Sem.run_pure];rw[b];rfl
 clear h c b;go_enter func241,ntmps241;go_upto_region 1 with fail;go_quiet (fail);go_wp2;go_ret;exact⟨rfl,nq,rfl⟩
theorem LL(Nd:Nat)(m:Int)(low St:Nat)(d:SD)(vr:Value)(Mp D:Nat)(k f e b wa p s q bl v:Int)(a:Option Addr)(O:Nat)(c:Nat)(w:World)(h:dZ w low St d vr Mp D)(o:0<d.recs.length)(n:d.recs.length<=100000000)(j:w.cell? ⟨Nd,3,Z⟩=Y (P0 (Y ⟨St,0,Z⟩)))(i:w.cell? ⟨Nd,11,Z⟩=Y (I T m))(g:Nd<w.heap.size):Calls pG 244 #[P0 (Y ⟨Nd,0,Z⟩),.agg #[I T k,I T f,I T e,I T b,I T wa,I T p,I T s,I T q,I T bl,I T v,J a O c]] w fun r w'=>r=.returned (.bool (e==(d.recs.length:Int) - 1&&(b==m&&decide (0<b))))/\Below w.heap.size w w':=by
 generalize z:(d.recs.length:Int) - 1=E;have Q:=dA z;clear z;obtain⟨u,K⟩:∃x,(e==E)=x:=⟨_,rfl⟩;obtain⟨B,F⟩:∃x,(b==m)=x:=⟨_,rfl⟩;obtain⟨y,M⟩:∃x,decide (0<b)=x:=⟨_,rfl⟩;have C:=dA (show(e==E&&(b==m&&decide (0<b)))=(u&&(B&&y)) by rw[K,F,M]);rw[C.out];cases u<;>cases B<;>cases y;all_goals
  go_enter func244,ntmps244
  go_upto_region 1 with fail
  generalize t:World.alloc _ _=W0
  have l:=dA (sS t)
  have H:=dA (tG t)
  have N:=dA (h.later l)
  have c3:=(l.out.cell (p:=⟨Nd,3,Z⟩) g).trans j
  have c11:=(l.out.cell (p:=⟨Nd,11,Z⟩) g).trans i
  clear t h j i
  obtain⟨X,m1,S,U,m4,m5,R,W,m8,V,L⟩:=H.out.c11
  go_quiet ((go_at_call 179;exact Calls.quiet_of ((nU low St d vr Mp D _ (N.out.later (below_drewN b_ _)) o n).mono (fun r w' A=>⟨A.1.trans (by rw[Q.out]),0,A.2⟩))))
  go_wp2
  go_ret
  exact⟨rfl,l.out.trans (below_drewN b_ _)⟩
def mO(pr rf id:Int):Int:=if max pr rf - max pr rf%5+id<=max pr rf then max pr rf - max pr rf%5+id+5 else max pr rf - max pr rf%5+id
theorem xU(Nd:Nat)(y:NB)(id:Int)(low St:Nat)(d:SD)(vr:Value)(Mp D:Nat)(w:World)(h:dZ w low St d vr Mp D)(C:0<d.recs.length)(B:d.recs.length<=100000000)(t:w.cell? ⟨Nd,3,Z⟩=Y (P0 (Y ⟨St,0,Z⟩)))(m:w.cell? ⟨Nd,0,Z⟩=Y (I T id))(g:Nd<w.heap.size)(a1:0<=id/\id<5)(R:0<=(dG d.di ((d.recs.length:Int) - 1)).pr/\(dG d.di ((d.recs.length:Int) - 1)).pr<=1000000000000)(O:e_ y.rf):Calls pG 135 #[P0 (Y ⟨Nd,0,Z⟩),.agg #[I T y.ph,I T y.gE,I T y.gP,I T y.gS,I T y.jo,I T y.ba,I T y.rf,I T y.fo.k,I T y.fo.f,I T y.fo.e,I T y.fo.b,I T y.fo.wa,I T y.fo.p,I T y.fo.s,I T y.fo.q,I T y.fo.bl,I T y.fo.v,J Z 0 0,Value.map y.an]] w fun r w'=>r=.returned (I T (mO (dG d.di ((d.recs.length:Int) - 1)).pr y.rf id))/\Below w.heap.size w w':=by
 go_enter func135,ntmps135;go_upto_region 1 with fail;generalize N:World.alloc _ _=W0;have j:=dA (sS N);have F:=dA (tG N);have U:=dA (h.later j);have c3:=(j.out.cell (p:=⟨Nd,3,Z⟩) g).trans t;have A:=(j.out.cell (p:=⟨Nd,0,Z⟩) g).trans m;clear N h t m;have l:=F.out.cell 6;simp at l;generalize hE:(d.recs.length:Int) - 1=E at*;have HE:=dA hE;clear hE;generalize hP:dG d.di E=P at*;have HP:=dA hP;clear hP;have L:=j.out.size;refine wp_region_held_drew (S:=(fun w'=>w'.cell? ⟨Nd,3,Z⟩=Y (P0 (Y ⟨St,0,Z⟩))/\w'.cell? ⟨Nd,0,Z⟩=Y (I T id)/\w'.cell? ⟨w.heap.size,6,Z⟩=Y (I T y.rf))) (by kernel_rfl) ⟨c3,A,l⟩ (fun _=>?_);refine tk 0 ?_;refine tk 1 ?_;refine tk 2 ?_;refine tk 3 ?_;refine tk 4 ?_;refine tk 5 ?_;refine tk 6 ?_;refine tk 7 ?_;refine tk 8 ?_;refine tk 9 ?_;refine tk 10 ?_;refine tk 11 ?_;refine tk 15 ?_;refine tk 16 ?_;refine dE 12 fun K a=>?_;(try go_simp);go_at_call 179;refine(nU low St d vr Mp D W0.drew U.out.drew C B).mono ?_;rintro r w1 ⟨n,rfl⟩;rw[HE.out]at n;subst n;refine k1 a (fun _=>?_) ⟨c3,A,l⟩;clear a K;refine dE 13 fun K a=>?_;(try go_simp);go_at_call 186;refine(uU low St d vr Mp D E W0.drew U.out.drew).mono ?_;rintro r w2 ⟨n,o⟩;rw[HP.out]at n;subst n;have c:Hid (Below W0.heap.size W0 w2):=(Below.refl W0.heap.size W0).drew.trans o;have i:Nd<W0.heap.size:=by omega
 have M:=F.out.lt;have u:=(c.out.cell (p:=⟨Nd,3,Z⟩) i).trans c3;have z:=(c.out.cell (p:=⟨Nd,0,Z⟩) i).trans A;have x:=(c.out.cell (p:=⟨w.heap.size,6,Z⟩) M).trans l;have Q:=dA (j.out.trans (c.out.mono L));clear o c3 A l c F U j;refine k1 a (fun _=>?_) ⟨u,z,x⟩;clear a K;refine dE 14 fun K a=>?_;(try go_simp);unfold hQ;(try go_simp);refine k1 a (fun _=>?_) ⟨u,z,x⟩;clear a K;refine dE 17 fun K a=>?_;(try go_simp);refine k1 a (fun _=>?_) ⟨u,z,x⟩;clear a K;refine dE 18 fun K a=>?_;(try go_simp);refine k1 a (fun _=>?_) ⟨u,z,x⟩;clear a K;refine dn ?_;have W:(if P.pr<y.rf then y.rf else P.pr)=max P.pr y.rf:=by split<;>omega
 rw[W];have a0:0<=max P.pr y.rf/\max P.pr y.rf<=1000000000000:=by omega
 generalize V:max P.pr y.rf=X at*;have H:=dA V;clear V W R O;go_wp2;all_goals
  rename_i hh
  go_ret
  refine⟨?_,Q⟩
  rw[HE.out,HP.out]
  unfold mO
  rw[H.out]
  first
  |rw[if_pos hh];rfl
  |rw[if_neg (by omega)];rfl
def tW(down act right full busy:Bool):Int:=bif down then 3 else bif act then(bif right then(bif full then 1 else bif busy then 4 else 0) else 1) else 5
theorem MQ(Nd:Nat)(a act right:Bool)(g on:Int)(low St:Nat)(d:SD)(vr:Value)(Mp D:Nat)(w:World)(h:dZ w low St d vr Mp D)(v:w.cell? ⟨Nd,3,Z⟩=Y (P0 (Y ⟨St,0,Z⟩)))(o:w.cell? ⟨Nd,4,Z⟩=Y (bool a))(m:w.cell? ⟨Nd,5,Z⟩=Y (bool act))(i:w.cell? ⟨Nd,6,Z⟩=Y (I T g))(e:w.cell? ⟨Nd,25,Z⟩=Y (I T on))(c:Nd<w.heap.size):Calls pG 137 #[P0 (Y ⟨Nd,0,Z⟩),.bool right] w fun r w'=>r=.returned (I T (tW a act right (d.last==1000000000000) (g != 0 || decide (0<on))))/\Below w.heap.size w w':=by
 obtain⟨j,n⟩:∃z,(d.last==1000000000000)=z:=⟨_,rfl⟩;obtain⟨q,k⟩:∃z,(g != 0)=z:=⟨_,rfl⟩;obtain⟨l,s⟩:∃z,decide (0<on)=z:=⟨_,rfl⟩;rw[n,k,s];have t:=dA h;clear h;cases a<;>cases act<;>cases right<;>cases j<;>cases q<;>cases l;all_goals
  go_enter func137,ntmps137
  first
  | go_wp2
    go_ret
    exact⟨rfl,Below.refl _ _⟩
  | go_wp2_with fail
    refine(lS low St d vr Mp D w t).mono ?_
    rintro r w1 ⟨rfl,b⟩
    have x:=(b.cell (p:=⟨Nd,6,Z⟩) c).trans i
    have u:=(b.cell (p:=⟨Nd,25,Z⟩) c).trans e
    have f:=dA b
    clear b
    have y:Sem.run pG (Instr.field 196 (Value.agg #[I T d.seen,I T d.last]) 1) w1=Result.ok (I T d.last) w1:=rfl
    go_wp2
    go_ret
    exact⟨rfl,f⟩
theorem dU.kept{A:Nat->Prop}{w w':World}(h:dU w)(b:dK A w w')(m:¬A 0)(l:¬A 1):dU w':=by
 have d:=b.block 0 (by have:=h.two;omega) m;have e:=b.block 1 (by have:=h.two;omega) l;refine⟨fun k j c g=>?_,fun f i=>?_,Nat.le_trans h.two b.size⟩;·have a:=h.lu k j c g;simp only[World.cell?]at a⊢;rw[d];exact a
 ·have a:=h.lim f i;simp only[World.cell?]at a⊢;rw[e];exact a
structure Pl where
 low:Nat
 Nd:Nat
 Mp:Nat
 D:Nat
 H:Nat
 S:Nat
structure gA(w:World)(P:Pl)(x:NB)(d:SD)(fs:List FD)(left:Int)(L:Nat)(A:Nat->Prop):Prop where
 blk:dC w P.Nd x.arr 192
 ex:∃vr va,dZ w P.low x.St d vr P.Mp P.D/\fS w P.low P.D P.H P.S va fs left L/\(∀g,jZ x.St vr P.Mp P.S va g->A g)
 nd:A P.Nd
 pd:A P.D
 ph:A P.H
 two:∀g,A g->2<=g
 lt:∀g,A g->g<w.heap.size
 low:P.low<=w.heap.size
 tabs:dU w
structure dN(A A':Nat->Prop)(w w':World):Prop where
 kept:dK A w w'
 grow:∀g,A' g->A g∨w.heap.size<=g
section
variable {w w' w0 w1 w2:World} {P:Pl} {x x':NB} {d:SD} {fs:List FD} {left:Int} {L L':Nat} {A B C:Nat->Prop}
theorem gA.same(h:gA w P x d fs left L A)(hs:w.heap.size<=w'.heap.size)(a:∀g,A g->w'.heap[g]?=w.heap[g]?)(j:dU w'):gA w' P x d fs left L A:=by obtain⟨vr,i,f,b,c⟩:=h.ex;refine⟨h.blk.same (a _ h.nd),⟨vr,i,⟨f.blk.same (a _ (c _ (.inl rfl))),dO f.ja (fun g e=>a g (c _ (.inr (.inr (.inl e))))),f.iy.same (a _ (c _ (.inr (.inl rfl))))⟩,⟨b.hands.later (a _ h.pd) (a _ h.ph),b.ds.kept (a _ (c _ (.inr (.inr (.inr (.inl rfl)))))) (fun g e=>a g (c _ (.inr (.inr (.inr (.inr e)))))),b.dS,b.hS,b.lf,b.fl,b.bd⟩,c⟩,h.nd,h.pd,h.ph,h.two,fun g e=>Nat.lt_of_lt_of_le (h.lt g e) hs,Nat.le_trans h.low hs,j⟩
theorem gA.later(h:gA w P x d fs left L A)(a:Below w.heap.size w w'):gA w' P x d fs left L A:=h.same a.size (fun g b=>a.block g (h.lt g b)) (h.tabs.below a h.tabs.two)
theorem gA.drew(h:gA w P x d fs left L A):gA w.drew P x d fs left L A:=h.later (b_.drew)
theorem gA.but{X:Nat}(h:gA w P x d fs left L A)(a:dH X w w')(c:¬A X)(e:2<=X):gA w' P x d fs left L A:=h.same (by rw[a.size];exact Nat.le_refl _) (fun g b=>a.block g (fun f=>c (f ▸ b))) (h.tabs.below (a.below e) (Nat.le_refl 2))
theorem gA.mono(h:gA w P x d fs left L A)(c:L<=L'):gA w P x d fs left L' A:=by obtain⟨vr,f,a,e,b⟩:=h.ex;exact⟨h.blk,⟨vr,f,a,e.mono c,b⟩,h.nd,h.pd,h.ph,h.two,h.lt,h.low,h.tabs⟩
theorem gA.node(h:gA w P x d fs left L A)(a:dH P.Nd w w')(b:dC w' P.Nd x'.arr 192)(hs:x'.St=x.St):gA w' P x' d fs left L A:=by
 obtain⟨vr,e,f,c,i⟩:=h.ex;refine⟨b,⟨vr,e,?_,c.but h.blk (by decide) (by decide) (by decide) (by decide) a,?_⟩,h.nd,h.pd,h.ph,h.two,fun g j=>by rw[a.size];exact h.lt g j,by rw[a.size];exact h.low,h.tabs.below (a.below (h.two _ h.nd)) (Nat.le_refl 2)⟩;·rw[hs];exact f.butG h.blk (by decide) (by decide) a
 ·rw[hs];exact i
theorem dN.of_below(b:Below w.heap.size w w'):dN A A w w':=⟨dK.of_below b,fun _ a=>.inl a⟩
theorem dN.refl:dN A A w w:=.of_below b_
theorem dN.trans(h:dN A B w w1)(k:dN B C w1 w2):dN A C w w2:=⟨h.kept.trans k.kept (fun _ b=>b) (fun g b c=>(h.grow g c).elim id (fun a=>absurd b (Nat.not_lt.2 a))),fun g b=>(k.grow g b).elim (fun a=>h.grow g a) (fun a=>.inr (Nat.le_trans h.kept.size a))⟩
theorem dN.pre(h:dN A B w0 w1)(a:Below w.heap.size w w0):dN A B w w1:=(dN.of_below a).trans h
theorem dN.later(h:dN A B w w1)(a:Below w1.heap.size w1 w2):dN A B w w2:=h.trans (.of_below a)
theorem dN.but{X:Nat}(h:dN A B w w1)(a:dH X w1 w2)(c:w.heap.size<=X):dN A B w w2:=⟨⟨a.os.trans h.kept.os,a.tape.trans h.kept.tape,a.output.trans h.kept.output,by rw[a.size];exact h.kept.size,fun k b d=>(a.block k (fun e=>absurd b (Nat.not_lt.2 (e ▸ c)))).trans (h.kept.block k b d)⟩,h.grow⟩
theorem dN.node{X:Nat}(a:dH X w w')(d:A X):dN A A w w':=⟨⟨a.os,a.tape,a.output,by rw[a.size];exact Nat.le_refl _,fun k f e=>a.block k (fun b=>e (b ▸ d))⟩,fun _ c=>.inl c⟩
theorem dN.apart{X:Nat}(h:dN A B w w')(c:X<w.heap.size)(d:¬A X):¬B X:=fun a=>(h.grow X a).elim d (fun b=>absurd c (Nat.not_lt.2 b))
theorem dN.blk{X:Nat}{cs:Array Value}{ty:TypeId}(h:dN A B w w')(a:dC w X cs ty)(b:¬A X):dC w' X cs ty:=a.same (h.kept.block X a.lt b)
theorem gA.fresh{X:Nat}(h:gA w P x d fs left L A)(a:w.heap.size<=X):¬A X:=fun b=>absurd (h.lt X b) (Nat.not_lt.2 a)
end
def dX(t:Nat):Nat:=301*(3*t+2)
structure BG(t:Nat)(d:SD):Prop where
 ne:0<d.recs.length
 recs:d.recs.length<=t+1
 di:d.di.length<=t
 l0:0<=d.lines
 l1:d.lines<=3*(t:Int)+2
 re:∀r∈d.recs,0<=r.E/\r.E<=10000000000000
 id:0<=d.id/\d.id<5
theorem BG.next{t:Nat}{d:SD}(h:BG t d):BG (t+1) d:=⟨h.ne,by have:=h.recs;omega,by have:=h.di;omega,h.l0,by have:=h.l1;omega,h.re,h.id⟩
theorem oT(d:SD)(k e b p s q bl v:Int)(c:List Int):d.recs.length<=(d.step k e b p s q bl v c).recs.length/\(d.step k e b p s q bl v c).recs.length<=d.recs.length+1/\(d.step k e b p s q bl v c).di.length<=d.di.length+1/\(d.step k e b p s q bl v c).lines=d.lines/\(d.step k e b p s q bl v c).id=d.id/\(∀r∈(d.step k e b p s q bl v c).recs,r∈d.recs∨r.E=e+1):=by
 unfold SD.step;split;·exact⟨Nat.le_refl _,by simp,zA _ _ _,rfl,rfl,fun r a=>.inl a⟩
 split;·exact⟨Nat.le_refl _,by simp,zA _ _ _,rfl,rfl,fun r a=>.inl a⟩
 split
 ·refine⟨by simp[SD.learn],by simp[SD.learn],?_,rfl,rfl,?_⟩;·have:=G7 d.di (e+1 - 1);show(gH d.di (e+1 - 1)).length<=_;omega
  ·intro r a;simp[SD.learn]at a;rcases a with a|rfl;·exact .inl a
   ·exact .inr rfl
 split
 ·unfold SD.jr;split;·exact⟨Nat.le_refl _,by simp,by simp,rfl,rfl,fun r a=>.inl a⟩
  split;·exact⟨Nat.le_refl _,by simp,by simp,rfl,rfl,fun r a=>.inl a⟩
  split;·exact⟨Nat.le_refl _,by simp,by simp,rfl,rfl,fun r a=>.inl a⟩
  ·exact⟨Nat.le_refl _,by simp,by simp,rfl,rfl,fun r a=>.inl a⟩
 ·exact⟨Nat.le_refl _,by simp,by simp,rfl,rfl,fun r a=>.inl a⟩
theorem BG.wrote{t:Nat}{d:SD}{fs:List FD}{left:Int}{m:dI}{ok:Bool}{fs':List FD}{left':Int}{d':SD}(h:BG t d)(a:lF d fs left m ok fs' left' d'):d'.recs=d.recs/\d'.di=d.di/\d'.id=d.id/\0<=d'.lines/\d'.lines<=3*(t:Int)+3:=by
 have e:=h.recs;have b:=h.di;have f:=h.l0;have c:=h.l1;rcases a with⟨_,_,_,_,rfl⟩|⟨_,_,_,_,_,rfl⟩;·exact⟨rfl,rfl,rfl,by show 0<=d.lines+1;omega,by show d.lines+1<=_;omega⟩
 ·exact⟨rfl,rfl,rfl,by show 0<=(d.recs.length:Int)+2*(d.di.length:Int)+1;omega,by show(d.recs.length:Int)+2*(d.di.length:Int)+1<=_;omega⟩
def SD.stepM(d:SD)(m:dI):SD:=d.step m.k m.e m.b m.p m.s m.q m.bl m.v m.zs
theorem BG.step{t:Nat}{d:SD}{fs:List FD}{left:Int}{m:dI}{ok:Bool}{fs':List FD}{left':Int}{d':SD}(h:BG t d)(i:lF d fs left m ok fs' left' d')(w:e_ m.e):BG (t+1) (bif ok then d'.stepM m else d'):=by
 obtain⟨a,g,c,n,o⟩:=h.wrote i;have x:=h.recs;have u:=h.di;have l:=h.ne;cases ok;·exact⟨by simpa[a] using l,by simp[a];omega,by simp[g];omega,n,by simp;omega,by simpa[a] using h.re,by simpa[c] using h.id⟩
 ·obtain⟨s0,s1,s2,s3,s4,s5⟩:=oT d' m.k m.e m.b m.p m.s m.q m.bl m.v m.zs;rw[a]at s0 s1 s5;rw[g]at s2;rw[c]at s4;refine⟨by show 0<(d'.step _ _ _ _ _ _ _ _ _).recs.length;omega,by show(d'.step _ _ _ _ _ _ _ _ _).recs.length<=_;omega,by show(d'.step _ _ _ _ _ _ _ _ _).di.length<=_;omega,by show 0<=(d'.step _ _ _ _ _ _ _ _ _).lines;omega,by show(d'.step _ _ _ _ _ _ _ _ _).lines<=_;omega,?_,by show 0<=(d'.step _ _ _ _ _ _ _ _ _).id/\_;rw[show(bif true then d'.stepM m else d').id=d.id from s4,s4];exact h.id⟩;intro r j;rcases s5 r j with f|f;·exact h.re r f
  ·omega
def iP(P:Pl)(x:NB)(d:SD)(fs:List FD)(left:Int)(t:Nat)(A:Nat->Prop)(m:dI)(ok:Bool)(w w':World):Prop:=∃fs' left' d' A',lF d fs left m ok fs' left' d'/\gA w' P x (bif ok then d'.stepM m else d') fs' left' (dX (t+1)) A'/\dN A A' w w'
theorem iP.pre{P:Pl}{x:NB}{d:SD}{fs:List FD}{left:Int}{t:Nat}{A:Nat->Prop}{m:dI}{ok:Bool}{w w0 w':World}(h:iP P x d fs left t A m ok w0 w')(c:Below w.heap.size w w0):iP P x d fs left t A m ok w w':=by obtain⟨fs',left',d',A',e,a,b⟩:=h;exact⟨fs',left',d',A',e,a,b.pre c⟩
theorem iP.later{P:Pl}{x:NB}{d:SD}{fs:List FD}{left:Int}{t:Nat}{A:Nat->Prop}{m:dI}{ok:Bool}{w w1 w':World}(h:iP P x d fs left t A m ok w w1)(a:Below w1.heap.size w1 w'):iP P x d fs left t A m ok w w':=by obtain⟨fs',left',d',A',e,b,c⟩:=h;exact⟨fs',left',d',A',e,b.later a,c.later a⟩
theorem iP.blk{P:Pl}{x:NB}{d:SD}{fs:List FD}{left:Int}{t:Nat}{A:Nat->Prop}{m:dI}{ok:Bool}{w w':World}{X:Nat}{cs:Array Value}{ty:TypeId}(h:iP P x d fs left t A m ok w w')(b:dC w X cs ty)(c:¬A X):dC w' X cs ty:=by obtain⟨fs',left',d',A',f,e,a⟩:=h;exact a.blk b c
theorem iP.node{P:Pl}{x x':NB}{d:SD}{fs:List FD}{left:Int}{t:Nat}{A:Nat->Prop}{m:dI}{ok:Bool}{w w1 w2:World}(h:iP P x d fs left t A m ok w w1)(b:dH P.Nd w1 w2)(e:dC w2 P.Nd x'.arr 192)(hs:x'.St=x.St):iP P x' d fs left t A m ok w w2:=by obtain⟨fs',left',d',A',f,a,c⟩:=h;exact⟨fs',left',d',A',f,a.node b e hs,c.trans (.node b a.nd)⟩
theorem iP.at{P:Pl}{x:NB}{d:SD}{fs:List FD}{left:Int}{t:Nat}{A:Nat->Prop}{m:dI}{ok:Bool}{w w':World}(h:iP P x d fs left t A m ok w w'):dC w' P.Nd x.arr 192:=by obtain⟨fs',left',d',A',c,a,b⟩:=h;exact a.blk
theorem pL(hSO:eW)(hBW:eZ)(hBS:fA)(P:Pl)(x:NB)(d:SD)(fs:List FD)(left:Int)(t:Nat)(A:Nat->Prop)(k f e b wa p s q bl v:Int)(a:Option Addr)(E:List Int)(c:Nat)(w:World)(h:gA w P x d fs left (dX t) A)(z:BG t d)(ht:t<=1000000)(hz:eX w a E)(K:∀C,a=Y C->¬A C.block)(he:e_ e)(L:gZ k bl E.length)(M:x.down=false):Calls pG 139 #[P0 (Y ⟨P.Nd,0,Z⟩),.agg #[I T k,I T f,I T e,I T b,I T wa,I T p,I T s,I T q,I T bl,I T v,J a E.length c]] w fun r w'=>∃ok,r=.returned (.bool ok)/\iP P (x.after ok) d fs left t A (⟨k,f,e,b,wa,p,s,q,bl,v,a,c,E⟩:dI) ok w w':=by
 obtain⟨vr,va,W,R,m⟩:=h.ex;have b1:=z.recs;have b2:=z.di;have U:=z.l0;have b4:=z.l1;refine(IB hSO hBW hBS P.Nd x P.low d vr P.Mp P.D P.H P.S va fs left (dX t) k f e b wa p s q bl v a E c w W R h.tabs hz h.tabs.two h.low (by unfold dX;omega) (by omega) (by omega) ⟨U,by omega⟩ (h.two _ (m _ (.inl rfl))) (fun C B u=>K C B (u ▸ m _ (.inl rfl))) z.ne z.re z.id he L (fun C B u=>K C B (m _ u)) h.blk M).mono ?_;rintro r w' ⟨ok,fs',left',d',o,n,rfl,g1,V,O,N,g5,Q,X⟩;have hs':(x.after ok).St=x.St:=by cases ok<;>rfl
 have l:dK A w w':=X.wide (fun g F=>F.elim (fun i=>i ▸ h.nd) (fun i=>m g i));have y:∀g,jZ x.St o P.Mp P.S n g->A g∨(w.heap.size<=g/\g<w'.heap.size):=by
  rintro g (i|i|i|i|i);·exact .inl (m g (.inl i))
  ·exact .inl (m g (.inr (.inl i)))
  ·rcases Q g i with j|j;·exact .inl (m g (.inr (.inr (.inl j))))
   ·exact .inr ⟨j,(O.ja.lt g i).2⟩
  ·exact .inl (m g (.inr (.inr (.inr (.inl i)))))
  ·rcases g5 g i with j|j;·exact .inl (m g (.inr (.inr (.inr (.inr j)))))
   ·exact .inr ⟨j,(N.ds.row.lt g i).2⟩
 refine⟨ok,rfl,fs',left',d',fun g=>A g∨jZ x.St o P.Mp P.S n g,g1,⟨V,⟨o,n,?_,N.mono (Nat.max_le.2 (by unfold dX;constructor<;>omega)),?_⟩,.inl h.nd,.inl h.pd,.inl h.ph,?_,?_,Nat.le_trans h.low l.size,h.tabs.kept l (fun u=>absurd (h.two _ u) (by omega)) (fun u=>absurd (h.two _ u) (by omega))⟩,⟨l,fun g F=>F.elim .inl (fun i=>(y g i).imp id (fun j=>j.1))⟩⟩;·rw[hs'];exact O
 ·rw[hs'];exact fun g F=>.inr F
 ·rintro g (i|i);·exact h.two g i
  ·rcases y g i with j|j;·exact h.two g j
   ·have:=h.tabs.two;omega
 ·rintro g (i|i);·exact Nat.lt_of_lt_of_le (h.lt g i) l.size
  ·rcases y g i with j|j;·exact Nat.lt_of_lt_of_le (h.lt g j) l.size
   ·exact j.2
end Go.Proofs.YtdcainmlcpafbaaGreatDoor
