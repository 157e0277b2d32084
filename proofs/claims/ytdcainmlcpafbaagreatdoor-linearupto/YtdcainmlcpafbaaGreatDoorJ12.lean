import Derived.Test.YtdcainmlcpafbaaGreatDoorJ11
set_option linter.all false
set_option maxHeartbeats 8000000
set_option maxRecDepth 20000
namespace Go.Proofs.YtdcainmlcpafbaaGreatDoor
open Go.RowKit
open Value renaming slice->J,pointer->P0
open Tryz
open Tryz renaming prog->pG
open IntKind renaming i64->T
open Option renaming none->Z,some->Y
open Obj renaming cells->G
open Value (bool)
def eE.butG{w w':World}{low St:Nat}{d:SD}{vr:Value}{Mp D B:Nat}{cs:Array Value}{ty:TypeId}(h:eE w low St d vr Mp D)(b:dC w B cs ty)(e:ty≠200)(c:ty≠66)(a:dI B w w'):eE w' low St d vr Mp D:=⟨h.blk.same (a.block St (h.blk.ne b (Ne.symm e))),dQ h.rcs (λg i=>a.block g (λf=>jM h.rcs b.blk c (by rw[←f];exact i))),h.jb.same (a.block Mp (h.jb.ne b))⟩
def fV.drewG{w:World}{low D H S:Nat}{a:Value}{fs:List FD}{left:Int}{L:Nat}(h:fV w low D H S a fs left L):fV w.drew low D H S a fs left L:=⟨h.hands.drewH,h.ds.drewD,h.dS,h.hS,h.lf,h.fl,h.bd⟩
def NB.after(x:NB)(ok:Bool):NB:=bif ok then x else{x.stand with down:=true}
def JC(hSO:fA)(hBW:fC)(hBS:fD)(Nd:Nat)(x:NB)(low:Nat)(d:SD)(vr:Value)(Mp D H S:Nat)(u:Value)(fs:List FD)(left:Int)(L:Nat)(k f e b wa p s q bl v:Int)(a:Option Addr)(t:List Int)(c:Nat)(w:World)(h:eE w low x.St d vr Mp D)(hk:fV w low D H S u fs left L)(ht:dW w)(hz:fB w a t)(al:2<=w.heap.size)(az:low<=w.heap.size)(hL:L<=1200000000)(aq:d.recs.length<=1300000)(aw:d.dw.length<=1300000)(am:0<=d.lines/\d.lines<=100000000)(a4:2<=x.St)(ax:∀X,a=Y X->X.block≠x.St)(ak:0<d.recs.length)(ay:∀r∈d.recs,0<=r.E/\r.E<=10000000000000)(ap:0<=d.id/\d.id<5)(he:e_ e)(a1:iE k bl t.length)(au:∀X,a=Y X->¬kP x.St vr Mp S u X.block)(hn:dC w Nd x.arr 192)(aa:x.down=false):Calls pG 139 #[P0 (Y ⟨Nd,0,Z⟩),.agg (mA k f e b wa p s q bl v (J a t.length c))] w λr w'=>∃ok fs' left' d' ac ab,r=.returned (.bool ok)/\lV d fs left (⟨k,f,e,b,wa,p,s,q,bl,v,a,c,t⟩:dK) ok fs' left' d'/\dC w' Nd (x.after ok).arr 192/\eE w' low x.St (bif ok then d'.step k e b p s q bl v t else d') ac Mp D/\fV w' low D H S ab fs' left' (Nat.max (L+301) (301*(d.recs.length+2*d.dw.length+1)))/\(∀g,ab.ownBlock=Y g->u.ownBlock=Y g∨w.heap.size<=g)/\(∀g,ac.ownBlock=Y g->vr.ownBlock=Y g∨w.heap.size<=g)/\dM (λg=>g=Nd∨kP x.St vr Mp S u g) w w':=by
 have l:=a_ w (G (mA k f e b wa p s q bl v (J a t.length c)) 136);have HM:=dA (dC.new w (mA k f e b wa p s q bl v (J a t.length c)) 136);have HB:=dA l;have HT:=dA (ht.below l al);have HZ:=dA (hz.later l);have O:=dA (h.later l);have F:=dA (hk.later l);have HN:=dA (hn.later l);have ao:=dA aa;clear ht hz l h hk hn aa;go_enter func139,ntmps139;go_upto_region 1 with fail;generalize (w.alloc (G (mA k f e b wa p s q bl v (J a t.length c)) 136))=W0 at*;have a9:=HB.size;have W:2<=W0.heap.size:=oG;have ah:low<=W0.heap.size:=oG;obtain⟨m0,m1,m2,m3,m4,m5,m6,m7,m8,m9,af⟩:=HM.c11;have n3:=HN.cell 3;simp at n3;refine wp_region_held_drew (S:=(λw'=>w'.cell? ⟨Nd,3,Z⟩=Y (P0 (Y ⟨x.St,0,Z⟩))/\w'.cell? ⟨w.heap.size,0,Z⟩=Y (I k)/\w'.cell? ⟨w.heap.size,1,Z⟩=Y (I f)/\w'.cell? ⟨w.heap.size,2,Z⟩=Y (I e)/\w'.cell? ⟨w.heap.size,3,Z⟩=Y (I b)/\w'.cell? ⟨w.heap.size,4,Z⟩=Y (I wa)/\w'.cell? ⟨w.heap.size,5,Z⟩=Y (I p)/\w'.cell? ⟨w.heap.size,6,Z⟩=Y (I s)/\w'.cell? ⟨w.heap.size,7,Z⟩=Y (I q)/\w'.cell? ⟨w.heap.size,8,Z⟩=Y (I bl)/\w'.cell? ⟨w.heap.size,9,Z⟩=Y (I v)/\w'.cell? ⟨w.heap.size,10,Z⟩=Y (J a t.length c))) kG ⟨n3,m0,m1,m2,m3,m4,m5,m6,m7,m8,m9,af⟩ (λ_=>?_);refine tk 0 ?_;refine tk 1 ?_;refine tk 2 ?_;refine tk 3 ?_;refine tk 4 ?_;refine dF 5 λK y=>?_;(try go_simp);go_at_call 191;refine(KX hSO hBW hBS low x.St d vr Mp D H S u fs left L k f e b wa p s q bl v a t c W0.drew O.drew F.drewG HT.qm HZ.qw (by exact W) (by exact ah) hL aq aw am a4 ax ak ay ap he a1 au).mono ?_;rintro r w1 ⟨ok,a2,o,d1,B,Q,hr,aj,a3,a0,a8,a5,n⟩;subst hr;have R:=dA aj;have C:Hid (dM (kP x.St vr Mp S u) W0 w1):=⟨n.os,n.tape,n.output,n.size,n.block⟩;have V:=dA a3;have ai:=dA a0;have av:=dA (HM.same (C.block _ HM.lt (rB O F HM dG dG dG dG)));have i:=dA (HN.same (C.block _ HN.lt (rB O F HN dG dG dG dG)));have a7:Hid (∀g,Q.ownBlock=Y g->u.ownBlock=Y g∨w.heap.size<=g):=λg M=>(a8 g M).imp id (λh9=>Nat.le_trans a9 h9);have ag:Hid (∀g,B.ownBlock=Y g->vr.ownBlock=Y g∨w.heap.size<=g):=λg M=>(a5 g M).imp id (λh9=>Nat.le_trans a9 h9);have m:Hid (dM (kP x.St vr Mp S u) w w1):=(dM.of_below (A:=λ_=>False) HB).trans C (λ_ N=>N.elim) (λ_ _ N=>N);clear a3 a0 a8 a5 n aj;obtain⟨y0,y1,y2,y3,y4,y5,y6,y7,y8,y9,z⟩:=av.c11;have q3:=i.cell 3;have q4:=i.cell 4;simp at q3 q4;rw[ao.out]at q4;refine k1 y (λ_=>?_) ⟨q3,y0,y1,y2,y3,y4,y5,y6,y7,y8,y9,z⟩;clear y K n3 m0 m1 m2 m3 m4 m5 m6 m7 m8 m9 af;cases ok
 ·refine dF 6 λK y=>?_;(try go_simp);refine k1 y (λ_=>?_) ⟨q3,y0,y1,y2,y3,y4,y5,y6,y7,y8,y9,z⟩;clear y K;refine dn ?_;have aB:=i.free 4;have aA:=i.lt;have an:Hid (dI Nd w1 (w1.setCell ⟨Nd,4,Z⟩ (bool true))):=dI.setCell w1 ⟨Nd,4,Z⟩ (bool true);have ar:Hid (dC (w1.setCell ⟨Nd,4,Z⟩ (bool true)) Nd ({x with down:=true}:NB).arr 192):=by have h9:=i.set 4 (bool true);unfold Hid;simpa using h9
  go_upto_region 3 with fail;generalize w1.setCell ⟨Nd,4,Z⟩ (bool true)=W4 at*;go_wp2_with fail;refine(vZ Nd {x with down:=true} W4 ar).mono ?_;rintro r w5 ⟨rfl,U,ae⟩;have a6:=dA U;have j:=dA (an.trans ae);have r4:=a6.cell 4;simp[NB.stand]at r4;clear U ae;go_wp2;go_ret;refine⟨false,a2,o,d1,B,Q,rfl,R,a6,V.butG i dG dG j,ai.but i dG dG dG dG j,a7,ag,?_⟩;exact⟨j.os.trans m.os,j.tape.trans m.tape,j.output.trans m.output,by rw[j.size];exact m.size,λg M hA=>(j.block g (λN=>hA (.inl N))).trans (m.block g M (λN=>hA (.inr N)))⟩
 ·refine dF 6 λK y=>?_;(try go_simp);refine k1 y (λ_=>?_) ⟨q3,y0,y1,y2,y3,y4,y5,y6,y7,y8,y9,z⟩;clear y K;refine dn ?_;go_wp2;go_ret;exact⟨true,a2,o,d1,B,Q,rfl,R,i,V,ai,a7,ag,m.wide (λg M=>.inr M)⟩
def uF(low St Nd:Nat)(d:SD)(vr:Value)(Mp D:Nat)(w:World)(k:w.cell? ⟨Nd,3,Z⟩=Y (P0 (Y ⟨St,0,Z⟩)))(i:Nd<w.heap.size)(h:eE w low St d vr Mp D)(n:0<d.recs.length)(j:d.recs.length<=100000000):Calls pG 133 #[P0 (Y ⟨Nd,0,Z⟩)] w λr w'=>r=.returned (.agg #[I d.dh.E,I d.dh.P,I d.dh.S])/\Below w.heap.size w w':=by
 have b:=a_ w (G #[I 0,I 0,I 0] 66);have s:=dA (h.later b);have A:=dA b;have c3:=(b.cell (p:=⟨Nd,3,Z⟩) i).trans k;have o:Nd<(w.alloc (G #[I 0,I 0,I 0] 66)).heap.size:=by simp;omega
 have K:=s.blk.lt;have z:(w.alloc (G #[I 0,I 0,I 0] 66)).heap.size=w.heap.size+1:=sG;have f:=dA (dC.new w #[I 0,I 0,I 0] 66);have g:(d.recs.length:Int) - 1=((d.recs.length - 1:Nat):Int):=oG;clear k h b;go_enter func133,ntmps133;go_wp2_with fail;generalize (w.alloc (G #[I 0,I 0,I 0] 66))=l at*;go_region_held3 (λw'=>w'.cell? ⟨Nd,3,Z⟩=Y (P0 (Y ⟨St,0,Z⟩))) (first|assumption|go_keep|(repeat(first|assumption|refine(World.cell?_setCell_other _ _ _ _ (by intro C;have H:=congrArg Addr.block C;(try simp at H);omega)).trans ?_))) (first|(go_at_call 179;refine(oO low St d vr Mp D l.drew s.drew n j).mono ?_;rintro r w3 ⟨rfl,rfl⟩;rw[g])|(go_at_call 181;refine(zV low St d vr Mp D (d.recs.length - 1) l.drew s.drew oG j).mono ?_;rintro r m ⟨rfl,a⟩;have O:m.cell? ⟨Nd,3,Z⟩=Y (P0 (Y ⟨St,0,Z⟩)):=(a.cell (p:=⟨Nd,3,Z⟩) o).trans c3;have B:=(f.drew.later a).cell 0;have y:=(f.drew.later a).cell 1;have F:=(f.drew.later a).cell 2;have L:=(f.drew.later a).free 0;have M:=(f.drew.later a).free 1;have Q:=(f.drew.later a).free 2;simp at B y F));have e:d.recs[d.recs.length - 1]?.getD ⟨0,0,0⟩=d.dh:=by unfold SD.dh;rw[List.getD_eq_getElem?_getD]
 simp only[e] at*;have q:Hid (Below w.heap.size w (((m.setCell ⟨w.heap.size,0,Z⟩ (I d.dh.E)).setCell ⟨w.heap.size,1,Z⟩ (I d.dh.P)).setCell ⟨w.heap.size,2,Z⟩ (I d.dh.S))):=iC (iC (iC (A.drew.trans (a.mono (by show _<=l.heap.size;omega))) r_ _ _) r_ _ _) r_ _ _;have c:=(((f.drew.later a).set 0 (I d.dh.E)).set 1 (I d.dh.P)).set 2 (I d.dh.S);generalize (((m.setCell ⟨w.heap.size,0,Z⟩ (I d.dh.E)).setCell ⟨w.heap.size,1,Z⟩ (I d.dh.P)).setCell ⟨w.heap.size,2,Z⟩ (I d.dh.S))=N at*;have t:=c.cell 0;have u:=c.cell 1;have x:=c.cell 2;simp at t u x;go_wp2;exact bodyPost_ret (v:=.agg #[I d.dh.E,I d.dh.P,I d.dh.S]) (by simp[results,results133,go_sem,t,u,x]) rfl ⟨rfl,q⟩
def tZ(Nd:Nat)(id nodes:Int)(w:World)(d:w.cell? ⟨Nd,0,Z⟩=Y (I id))(e:w.cell? ⟨Nd,1,Z⟩=Y (I nodes))(c:2<=nodes/\nodes<=5)(hi:0<=id/\id<nodes):Calls pG 178 #[P0 (Y ⟨Nd,0,Z⟩)] w λr w'=>r=.returned (I (2 ^ nodes.toNat - 1 - 2 ^ id.toNat))/\∃n,w'=w.drewN n:=by
 have b:nodes=2∨nodes=3∨nodes=4∨nodes=5:=oG;have a:id=0∨id=1∨id=2∨id=3∨id=4:=oG;rcases b with rfl|rfl|rfl|rfl<;>rcases a with rfl|rfl|rfl|rfl|rfl<;>try omega
 all_goals
  clear c hi
  go_enter func178,ntmps178
  go_upto_region 1 with fail
  go_quiet (fail)
  go_wp2
  go_ret
  exact⟨rfl,nq,rfl⟩
abbrev Ky:=Int×Int×Int×Int
def kK(a:Ky):Value:=.agg #[I a.1,I a.2.1,I a.2.2.1,I a.2.2.2]
def DW:∃b a c d:Field,(Tryz.prog.fieldsOf 323).toList=[b,a,c,d]/\(b.name = "kind" /\b.type=3/\b.offset=0)/\(a.name = "epoch" /\a.type=3/\a.offset=1)/\(c.name = "number" /\c.type=3/\c.offset=2)/\(d.name = "node" /\d.type=3/\d.offset=3):=by have h:(Tryz.prog.fieldsOf 323).toList.map (λf=>(f.name,f.type,f.offset))=[("kind",3,0),("epoch",3,1),("number",3,2),("node",3,3)]:=kG;obtain⟨b,l,k,j,h⟩:=List.map_eq_cons_iff.1 h;obtain⟨a,l,o,e,h⟩:=List.map_eq_cons_iff.1 h;obtain⟨c,l,m,g,h⟩:=List.map_eq_cons_iff.1 h;obtain⟨d,l,n,i,h⟩:=List.map_eq_cons_iff.1 h;simp only[List.map_eq_nil_iff]at h;simp only[Prod.mk.injEq]at j e g i;exact⟨b,a,c,d,by rw[k,o,m,n,h],j,e,g,i⟩
def xN:Tryz.prog.underlying 323=Y (.struct (Tryz.prog.fieldsOf 323)):=kG
def NP:Tryz.prog.stoodInHeld 323=false:=kG
def lC(a:Ky)(i:Nat)(x:Int)(w:World)(h:#[a.1,a.2.1,a.2.2.1,a.2.2.2][i]?=Y x):(part 3 #[I a.1,I a.2.1,I a.2.2.1,I a.2.2.2] i).run pG w=.ok (I x) w:=by
 refine jH (w:=w) _ i (I x) ?_;match i,h with
 |0,h=>simp at h;simp[h]
 |1,h=>simp at h;simp[h]
 |2,h=>simp at h;simp[h]
 |3,h=>simp at h;simp[h]
 |n+4,h=>simp at h
def OZ(a b:Ky)(w:World):(Op.equal 323 (kK a) (kK b)).run pG w=.ok (decide (a=b)) w:=by obtain⟨C,A,D,B,e,⟨s,i,z⟩,⟨v,f,x⟩,⟨n,g,j⟩,q,k,p⟩:=DW;show(Op.equalIn 10000 323 _ _).run _ _=_;unfold kK;rw[run_equalIn_struct w 9999 323 _ _ xN NP,e];simp only[Op.eqFields,s,v,n,q,i,f,g,k,z,x,j,p,Sem.run_bind,Sem.run_ite,lC a 0 a.1 w rfl,lC a 1 a.2.1 w rfl,lC a 2 a.2.2.1 w rfl,lC a 3 a.2.2.2 w rfl,lC b 0 b.1 w rfl,lC b 1 b.2.1 w rfl,lC b 2 b.2.2.1 w rfl,lC b 3 b.2.2.2 w rfl,Result.andThen_ok,run_equalIn_int w 9998 3 .i64 .i64 _ _ underlying3];obtain⟨a1,t,u,c⟩:=a;obtain⟨h,m,o,l⟩:=b;by_cases y:a1=h<;>by_cases d:t=m<;>by_cases c3:u=o<;>by_cases r:c=l<;>simp[y,d,c3,r]
def DX(b:Bool)(a:Ky)(w:World):(Instr.checkKey b 10000 323 (kK a)).run pG w=.ok () w:=by obtain⟨r,p,s,q,c,⟨l,f,o⟩,⟨m,d,n⟩,⟨i,e,g⟩,k,h,j⟩:=DW;rw[show(10000:Nat)=9998+1+1 from rfl];unfold Instr.checkKey kK;simp only[Sem.run_bind,run_underlying xN,Result.andThen_ok];rw[←Array.forIn_toList,c];simp only[List.forIn_cons,List.forIn_nil,l,m,i,k,f,d,e,h,o,n,g,j,Sem.run_bind,Sem.run_ite,lC a 0 a.1 w rfl,lC a 1 a.2.1 w rfl,lC a 2 a.2.2.1 w rfl,lC a 3 a.2.2.2 w rfl,Result.andThen_ok];unfold Instr.checkKey;simp[run_underlying underlying3,(λw=>lC a 1 a.2.1 w rfl:∀w,_),(λw=>lC a 2 a.2.2.1 w rfl:∀w,_),(λw=>lC a 3 a.2.2.2 w rfl:∀w,_)]
structure fZ(w:World)(B:Nat)(l:List Ky):Prop where
 obj:∃(es:Array MapEntry) (clk:Nat),w.heap[B]?=Y (.map es clk)/\es.toList.map (λe=>(e.key,e.val))=l.map (λa=>(kK a,.agg #[]))
def l9(a:Ky):List Ky->Nat->Option (Nat×Value)
 | [],_=>none
 |y::l,i=>if a=y then some (i,.agg #[]) else l9 a l (i+1)
def wI(a:Ky):∀(l:List Ky) (i:Nat),(l9 a l i).isSome=decide (a∈l)/\∀j v,l9 a l i=Y (j,v)->v=.agg #[]
 | [],i=>by simp[l9]
 |y::l,i=>by
  unfold l9;by_cases h:a=y;·simp[h]
  ·have:=wI a l (i+1);simp[h,this.1];exact this.2
def KY(a:Ky)(w:World):∀(es:List MapEntry) (l:List Ky) (i:Nat),es.map (λe=>(e.key,e.val))=l.map (λx=>(kK x,.agg #[]))->(Instr.findAsking 323 (kK a) es i).run pG w=.ok (l9 a l i) w:=by
 intro es
 induction es with
 | nil=>intro l i h;cases l with
  |nil=>simp[Instr.findAsking,l9]
  |cons y l=>simp at h
 |cons b es ih=>
  intro l i h
  cases l with
  |nil=>simp at h
  |cons y l=>
   simp only[List.map_cons,List.cons.injEq,Prod.mk.injEq]at h
   simp only[Instr.findAsking,l9,Sem.run_bind,h.1.1,h.1.2]
   rw[OZ a y w]
   simp only[Result.andThen_ok]
   by_cases c:a=y
   ·simp[c]
   ·simp[c]
    exact ih l (i+1) h.2
def BI(a:Ky)(w:World)(es:List MapEntry)(l:List Ky)(h:es.map (λe=>(e.key,e.val))=l.map (λx=>(kK x,.agg #[]))):(Instr.findKey 323 (kK a) es).run pG w=.ok (l9 a l 0) w:=by
 unfold Instr.findKey
 simp only[Sem.run_bind,run_underlying xN,Result.andThen_ok]
 cases es with
 | nil=>cases l with
  |nil=>simp[Instr.findNow,l9]
  |cons y l=>simp at h
 |cons b es=>
  have c:Instr.findNow (.struct (Tryz.prog.fieldsOf 323)) (kK a) (b::es) 0=none:=by simp[Instr.findNow,Instr.sameNow]
  rw[c]
  exact KY a w (b::es) l 0 h
def MI:(Tryz.prog.info? 125).map (λi=>(i.zero,i.size,i.bytes))=Y (Y (.agg #[]),0,0):=kG
def MJ(w:World):(zeroValue 125).run pG w=.ok (.agg #[]) w:=by obtain⟨e,b,a,d,c⟩:=info_parts MI;simp[zeroValue,run_typeInfo w b,a]
section
variable {w w':World} {B:Nat} {l:List Ky}
def fZ.lt(h:fZ w B l):B<w.heap.size:=by obtain⟨es,b,a,_⟩:=h.obj;exact(Array.getElem?_eq_some_iff.1 a).1
def fZ.same(h:fZ w B l)(c:w'.heap[B]?=w.heap[B]?):fZ w' B l:=by obtain⟨es,a,b,d⟩:=h.obj;exact⟨es,a,c.trans b,d⟩
def fZ.later(h:fZ w B l)(a:Below w.heap.size w w'):fZ w' B l:=h.same (a.block B h.lt)
def fZ.ne(h:fZ w B l){C:Nat}{cs:Array Value}{t:TypeId}(h':dC w C cs t):B≠C:=by intro a;subst a;obtain⟨es,b,c,_⟩:=h.obj;have:=c.symm.trans h'.blk;simp at this
def fZ.look(h:fZ w B l)(a:Ky):(Instr.lookup 186 (.map (Y B)) (kK a) true).run pG w=.ok (.tuple #[.agg #[],.bool (decide (a∈l))]) w:=by
 obtain⟨es,f,g,e⟩:=h.obj;have c:=BI a w es.toList l e;obtain⟨m1,d⟩:=wI a l 0;unfold Instr.lookup;simp only[Sem.run_bind,run_underlying underlying186,Result.andThen_ok,nW g,Sem.run_pure,DX,c];cases hx:l9 a l 0 with
 |none=>
  rw[hx]at m1;have b:¬a∈l:=by simpa using m1.symm
  simp[MJ,b]
 |some y=>
  obtain⟨i,v⟩:=y;rw[hx]at m1;have b:a∈l:=by simpa using m1.symm
  have:=d i v hx;subst this;simp[b]
def fZ.put(h:fZ w B l)(a:Ky)(g:¬a∈l):∃w',(Instr.mapUpdate 186 (.map (Y B)) (kK a) (.agg #[])).run pG w=.ok () w'/\fZ w' B (l++[a])/\dI B w w':=by
 obtain⟨es,b,e,d⟩:=h.obj;have c:=BI a w es.toList l d;have f:=h.lt;obtain⟨m1,_⟩:=wI a l 0;unfold Instr.mapUpdate;cases hx:l9 a l 0 with
 |none=>
  rw[hx]at c;refine⟨{w with heap:=w.heap.setIfInBounds B (.map (es.push ⟨kK a,.agg #[],b⟩) (b+1))},?_,⟨_,_,(nD w B _ f).1,?_⟩,(nD w B _ f).2⟩;·simp only[Sem.run_bind,run_underlying underlying186,Result.andThen_ok,nW e,DX,c];exact sM _ e
  ·rw[Array.toList_push,List.map_append,List.map_append,d];rfl
 |some y=>rw[hx]at m1;simp at m1;exact absurd m1 g
end
def fZ.size{w:World}{B:Nat}{l:List Ky}(h:fZ w B l):∃(es:Array MapEntry) (a:Nat),w.heap[B]?=Y (.map es a)/\es.size=l.length:=by obtain⟨es,a,c,b⟩:=h.obj;refine⟨es,a,c,?_⟩;have:=congrArg List.length b;simpa using this
def xO(Nd B:Nat)(nodes:Int)(l:List Ky)(w:World)(j:w.cell? ⟨Nd,1,Z⟩=Y (I nodes))(f:w.cell? ⟨Nd,24,Z⟩=Y (Value.map (Y B)))(h:fZ w B l)(i:2<=nodes/\nodes<=5)(g:l.length<=1000000):Calls pG 241 #[P0 (Y ⟨Nd,0,Z⟩)] w λr w'=>r=.returned (.bool (decide (nodes<2*(l.length:Int))))/\∃n,w'=w.drewN n:=by
 obtain⟨es,a,c,b⟩:=h.size;have d:∀ty n,(Builtin.len_ #[186] ty #[.map (Y B)]).run pG (w.drewN n)=.ok (I (l.length:Int)) (w.drewN n):=by intro ty n;have e:(w.drewN n).heap[B]?=Y (.map es a):=((below_drewN b_ n).block B h.lt).trans c;unfold Builtin.len_;simp only[List.getElem?_toArray,List.getElem?_cons_zero,Sem.run_bind,run_underlying underlying186,Result.andThen_ok,nW e,Sem.run_pure];rw[b];rfl
 clear h c b;go_enter func241,ntmps241;go_upto_region 1 with fail;go_quiet (fail);go_wp2;go_ret;exact⟨rfl,nq,rfl⟩
def MK(Nd:Nat)(m:Int)(low St:Nat)(d:SD)(vr:Value)(Mp D:Nat)(k f e b wa p s q bl v:Int)(a:Option Addr)(O:Nat)(c:Nat)(w:World)(h:eE w low St d vr Mp D)(o:0<d.recs.length)(n:d.recs.length<=100000000)(j:w.cell? ⟨Nd,3,Z⟩=Y (P0 (Y ⟨St,0,Z⟩)))(i:w.cell? ⟨Nd,11,Z⟩=Y (I m))(g:Nd<w.heap.size):Calls pG 244 #[P0 (Y ⟨Nd,0,Z⟩),.agg (mA k f e b wa p s q bl v (J a O c))] w λr w'=>r=.returned (.bool (e==(d.recs.length:Int) - 1&&(b==m&&decide (0<b))))/\Below w.heap.size w w':=by
 generalize z:(d.recs.length:Int) - 1=E;have Q:=dA z;clear z;obtain⟨u,K⟩:∃x,(e==E)=x:=⟨_,rfl⟩;obtain⟨B,F⟩:∃x,(b==m)=x:=⟨_,rfl⟩;obtain⟨y,M⟩:∃x,decide (0<b)=x:=⟨_,rfl⟩;have C:=dA (show(e==E&&(b==m&&decide (0<b)))=(u&&(B&&y)) by rw[K,F,M]);rw[C.out];cases u<;>cases B<;>cases y;all_goals
  go_enter func244,ntmps244
  go_upto_region 1 with fail
  generalize t:World.alloc _ _=W0
  have l:=dA (tQ t)
  have H:=dA (uE t)
  have N:=dA (h.later l)
  have c3:=(l.cell (p:=⟨Nd,3,Z⟩) g).trans j
  have c11:=(l.cell (p:=⟨Nd,11,Z⟩) g).trans i
  clear t h j i
  have L:=H.cell
  go_quiet ((go_at_call 179;exact Calls.quiet_of ((oO low St d vr Mp D _ (N.later (below_drewN b_ _)) o n).mono (λr w' A=>⟨A.1.trans (by rw[Q.out]),0,A.2⟩))))
  go_wp2
  go_ret
  exact⟨rfl,l.trans (below_drewN b_ _)⟩
def nH(pr rf id:Int):Int:=if max pr rf - max pr rf%5+id<=max pr rf then max pr rf - max pr rf%5+id+5 else max pr rf - max pr rf%5+id
def zD(Nd:Nat)(y:NB)(id:Int)(low St:Nat)(d:SD)(vr:Value)(Mp D:Nat)(w:World)(h:eE w low St d vr Mp D)(C:0<d.recs.length)(B:d.recs.length<=100000000)(t:w.cell? ⟨Nd,3,Z⟩=Y (P0 (Y ⟨St,0,Z⟩)))(m:w.cell? ⟨Nd,0,Z⟩=Y (I id))(g:Nd<w.heap.size)(a1:0<=id/\id<5)(R:0<=(dH d.dw ((d.recs.length:Int) - 1)).pr/\(dH d.dw ((d.recs.length:Int) - 1)).pr<=1000000000000)(O:e_ y.rf):Calls pG 135 #[P0 (Y ⟨Nd,0,Z⟩),.agg #[I y.ph,I y.gE,I y.gP,I y.gS,I y.jo,I y.ba,I y.rf,I y.fo.k,I y.fo.f,I y.fo.e,I y.fo.b,I y.fo.wa,I y.fo.p,I y.fo.s,I y.fo.q,I y.fo.bl,I y.fo.v,J Z 0 0,Value.map y.an]] w λr w'=>r=.returned (I (nH (dH d.dw ((d.recs.length:Int) - 1)).pr y.rf id))/\Below w.heap.size w w':=by
 go_enter func135,ntmps135;go_upto_region 1 with fail;generalize N:World.alloc _ _=W0;have j:=dA (tQ N);have F:=dA (uE N);have U:=dA (h.later j);have c3:=(j.cell (p:=⟨Nd,3,Z⟩) g).trans t;have A:=(j.cell (p:=⟨Nd,0,Z⟩) g).trans m;clear N h t m;have l:=F.cell 6;simp at l;generalize hE:(d.recs.length:Int) - 1=E at*;have HE:=dA hE;clear hE;generalize hP:dH d.dw E=P at*;have HP:=dA hP;clear hP;have L:=j.size;refine wp_region_held_drew (S:=(λw'=>w'.cell? ⟨Nd,3,Z⟩=Y (P0 (Y ⟨St,0,Z⟩))/\w'.cell? ⟨Nd,0,Z⟩=Y (I id)/\w'.cell? ⟨w.heap.size,6,Z⟩=Y (I y.rf))) kG ⟨c3,A,l⟩ (λ_=>?_);refine tk 0 ?_;refine tk 1 ?_;refine tk 2 ?_;refine tk 3 ?_;refine tk 4 ?_;refine tk 5 ?_;refine tk 6 ?_;refine tk 7 ?_;refine tk 8 ?_;refine tk 9 ?_;refine tk 10 ?_;refine tk 11 ?_;refine tk 15 ?_;refine tk 16 ?_;refine dF 12 λK a=>?_;(try go_simp);go_at_call 179;refine(oO low St d vr Mp D W0.drew U.drew C B).mono ?_;rintro r w1 ⟨n,rfl⟩;rw[HE.out]at n;subst n;refine k1 a (λ_=>?_) ⟨c3,A,l⟩;clear a K;refine dF 13 λK a=>?_;(try go_simp);go_at_call 186;refine(vX low St d vr Mp D E W0.drew U.drew).mono ?_;rintro r w2 ⟨n,o⟩;rw[HP.out]at n;subst n;have c:Hid (Below W0.heap.size W0 w2):=(Below.refl W0.heap.size W0).drew.trans o;have i:Nd<W0.heap.size:=oG;have M:=F.lt;have u:=(c.cell (p:=⟨Nd,3,Z⟩) i).trans c3;have z:=(c.cell (p:=⟨Nd,0,Z⟩) i).trans A;have x:=(c.cell (p:=⟨w.heap.size,6,Z⟩) M).trans l;have Q:=dA (j.trans (c.mono L));clear o c3 A l c F U j;refine k1 a (λ_=>?_) ⟨u,z,x⟩;clear a K;refine dF 14 λK a=>?_;(try go_simp);unfold iG;(try go_simp);refine k1 a (λ_=>?_) ⟨u,z,x⟩;clear a K;refine dF 17 λK a=>?_;(try go_simp);refine k1 a (λ_=>?_) ⟨u,z,x⟩;clear a K;refine dF 18 λK a=>?_;(try go_simp);refine k1 a (λ_=>?_) ⟨u,z,x⟩;clear a K;refine dn ?_;have W:(if P.pr<y.rf then y.rf else P.pr)=max P.pr y.rf:=by split<;>omega
 rw[W];have a0:0<=max P.pr y.rf/\max P.pr y.rf<=1000000000000:=oG;generalize V:max P.pr y.rf=X at*;have H:=dA V;clear V W R O;go_wp2;all_goals
  rename_i hh
  go_ret
  refine⟨?_,Q⟩
  rw[HE.out,HP.out]
  unfold nH
  rw[H.out]
  first
  |rw[if_pos hh];rfl
  |rw[if_neg oG];rfl
def uU(down act right full busy:Bool):Int:=bif down then 3 else bif act then(bif right then(bif full then 1 else bif busy then 4 else 0) else 1) else 5
def NQ(Nd:Nat)(a act right:Bool)(g on:Int)(low St:Nat)(d:SD)(vr:Value)(Mp D:Nat)(w:World)(h:eE w low St d vr Mp D)(v:w.cell? ⟨Nd,3,Z⟩=Y (P0 (Y ⟨St,0,Z⟩)))(o:w.cell? ⟨Nd,4,Z⟩=Y (bool a))(m:w.cell? ⟨Nd,5,Z⟩=Y (bool act))(i:w.cell? ⟨Nd,6,Z⟩=Y (I g))(e:w.cell? ⟨Nd,25,Z⟩=Y (I on))(c:Nd<w.heap.size):Calls pG 137 #[P0 (Y ⟨Nd,0,Z⟩),.bool right] w λr w'=>r=.returned (I (uU a act right (d.last==1000000000000) (g != 0 || decide (0<on))))/\Below w.heap.size w w':=by
 obtain⟨j,n⟩:∃z,(d.last==1000000000000)=z:=⟨_,rfl⟩;obtain⟨q,k⟩:∃z,(g != 0)=z:=⟨_,rfl⟩;obtain⟨l,s⟩:∃z,decide (0<on)=z:=⟨_,rfl⟩;rw[n,k,s];have t:=dA h;clear h;cases a<;>cases act<;>cases right<;>cases j<;>cases q<;>cases l;all_goals
  go_enter func137,ntmps137
  first
  | go_wp2
    go_ret
    exact⟨rfl,Below.refl _ _⟩
  | go_wp2_with fail
    refine(oR low St d vr Mp D w t).mono ?_
    rintro r w1 ⟨rfl,b⟩
    have x:=(b.cell (p:=⟨Nd,6,Z⟩) c).trans i
    have u:=(b.cell (p:=⟨Nd,25,Z⟩) c).trans e
    have f:=dA b
    clear b
    have y:Sem.run pG (Instr.field 196 (Value.agg #[I d.seen,I d.last]) 1) w1=Result.ok (I d.last) w1:=rfl
    go_wp2
    go_ret
    exact⟨rfl,f⟩
def dW.kept{A:Nat->Prop}{w w':World}(h:dW w)(b:dM A w w')(m:¬A 0)(l:¬A 1):dW w':=by
 have d:=b.block 0 (by have:=h.two;omega) m;have e:=b.block 1 (by have:=h.two;omega) l;refine⟨λk j c g=>?_,λf i=>?_,Nat.le_trans h.two b.size⟩;·have a:=h.lu k j c g;simp only[World.cell?]at a⊢;rw[d];exact a
 ·have a:=h.lim f i;simp only[World.cell?]at a⊢;rw[e];exact a
structure Pl where
 low:Nat
 Nd:Nat
 Mp:Nat
 D:Nat
 H:Nat
 S:Nat
structure gF(w:World)(P:Pl)(x:NB)(d:SD)(fs:List FD)(left:Int)(L:Nat)(A:Nat->Prop):Prop where
 blk:dC w P.Nd x.arr 192
 ex:∃vr va,eE w P.low x.St d vr P.Mp P.D/\fV w P.low P.D P.H P.S va fs left L/\(∀g,kP x.St vr P.Mp P.S va g->A g)
 nd:A P.Nd
 pd:A P.D
 ph:A P.H
 two:∀g,A g->2<=g
 lt:∀g,A g->g<w.heap.size
 low:P.low<=w.heap.size
 tabs:dW w
structure dP(A A':Nat->Prop)(w w':World):Prop where
 kept:dM A w w'
 grow:∀g,A' g->A g∨w.heap.size<=g
section
variable {w w' w0 w1 w2:World} {P:Pl} {x x':NB} {d:SD} {fs:List FD} {left:Int} {L L':Nat} {A B C:Nat->Prop}
def gF.same(h:gF w P x d fs left L A)(hs:w.heap.size<=w'.heap.size)(a:∀g,A g->w'.heap[g]?=w.heap[g]?)(j:dW w'):gF w' P x d fs left L A:=by obtain⟨vr,i,f,b,c⟩:=h.ex;refine⟨h.blk.same (a _ h.nd),⟨vr,i,⟨f.blk.same (a _ (c _ (.inl rfl))),dQ f.rcs (λg e=>a g (c _ (.inr (.inr (.inl e))))),f.jb.same (a _ (c _ (.inr (.inl rfl))))⟩,⟨b.hands.later (a _ h.pd) (a _ h.ph),b.ds.kept (a _ (c _ (.inr (.inr (.inr (.inl rfl)))))) (λg e=>a g (c _ (.inr (.inr (.inr (.inr e)))))),b.dS,b.hS,b.lf,b.fl,b.bd⟩,c⟩,h.nd,h.pd,h.ph,h.two,λg e=>Nat.lt_of_lt_of_le (h.lt g e) hs,Nat.le_trans h.low hs,j⟩
def gF.later(h:gF w P x d fs left L A)(a:Below w.heap.size w w'):gF w' P x d fs left L A:=h.same a.size (λg b=>a.block g (h.lt g b)) (h.tabs.below a h.tabs.two)
def gF.drew(h:gF w P x d fs left L A):gF w.drew P x d fs left L A:=h.later (b_.drew)
def gF.but{X:Nat}(h:gF w P x d fs left L A)(a:dI X w w')(c:¬A X)(e:2<=X):gF w' P x d fs left L A:=h.same (by rw[a.size];exact Nat.le_refl _) (λg b=>a.block g (λf=>c (f ▸ b))) (h.tabs.below (a.below e) (Nat.le_refl 2))
def gF.mono(h:gF w P x d fs left L A)(c:L<=L'):gF w P x d fs left L' A:=by obtain⟨vr,f,a,e,b⟩:=h.ex;exact⟨h.blk,⟨vr,f,a,e.mono c,b⟩,h.nd,h.pd,h.ph,h.two,h.lt,h.low,h.tabs⟩
def gF.node(h:gF w P x d fs left L A)(a:dI P.Nd w w')(b:dC w' P.Nd x'.arr 192)(hs:x'.St=x.St):gF w' P x' d fs left L A:=by
 obtain⟨vr,e,f,c,i⟩:=h.ex;refine⟨b,⟨vr,e,?_,c.but h.blk dG dG dG dG a,?_⟩,h.nd,h.pd,h.ph,h.two,λg j=>by rw[a.size];exact h.lt g j,by rw[a.size];exact h.low,h.tabs.below (a.below (h.two _ h.nd)) (Nat.le_refl 2)⟩;·rw[hs];exact f.butG h.blk dG dG a
 ·rw[hs];exact i
def dP.of_below(b:Below w.heap.size w w'):dP A A w w':=⟨dM.of_below b,λ_ a=>.inl a⟩
def dP.refl:dP A A w w:=.of_below b_
def dP.trans(h:dP A B w w1)(k:dP B C w1 w2):dP A C w w2:=⟨h.kept.trans k.kept (λ_ b=>b) (λg b c=>(h.grow g c).elim id (λa=>absurd b (Nat.not_lt.2 a))),λg b=>(k.grow g b).elim (λa=>h.grow g a) (λa=>.inr (Nat.le_trans h.kept.size a))⟩
def dP.pre(h:dP A B w0 w1)(a:Below w.heap.size w w0):dP A B w w1:=(dP.of_below a).trans h
def dP.later(h:dP A B w w1)(a:Below w1.heap.size w1 w2):dP A B w w2:=h.trans (.of_below a)
def dP.but{X:Nat}(h:dP A B w w1)(a:dI X w1 w2)(c:w.heap.size<=X):dP A B w w2:=⟨⟨a.os.trans h.kept.os,a.tape.trans h.kept.tape,a.output.trans h.kept.output,by rw[a.size];exact h.kept.size,λk b d=>(a.block k (λe=>absurd b (Nat.not_lt.2 (e ▸ c)))).trans (h.kept.block k b d)⟩,h.grow⟩
def dP.node{X:Nat}(a:dI X w w')(d:A X):dP A A w w':=⟨⟨a.os,a.tape,a.output,by rw[a.size];exact Nat.le_refl _,λk f e=>a.block k (λb=>e (b ▸ d))⟩,λ_ c=>.inl c⟩
def dP.apart{X:Nat}(h:dP A B w w')(c:X<w.heap.size)(d:¬A X):¬B X:=λa=>(h.grow X a).elim d (λb=>absurd c (Nat.not_lt.2 b))
def dP.blk{X:Nat}{cs:Array Value}{ty:TypeId}(h:dP A B w w')(a:dC w X cs ty)(b:¬A X):dC w' X cs ty:=a.same (h.kept.block X a.lt b)
def gF.fresh{X:Nat}(h:gF w P x d fs left L A)(a:w.heap.size<=X):¬A X:=λb=>absurd (h.lt X b) (Nat.not_lt.2 a)
end
def eA(t:Nat):Nat:=301*(3*t+2)
structure BG(t:Nat)(d:SD):Prop where
 ne:0<d.recs.length
 recs:d.recs.length<=t+1
 dw:d.dw.length<=t
 l0:0<=d.lines
 l1:d.lines<=3*(t:Int)+2
 re:∀r∈d.recs,0<=r.E/\r.E<=10000000000000
 id:0<=d.id/\d.id<5
def BG.next{t:Nat}{d:SD}(h:BG t d):BG (t+1) d:=⟨h.ne,by have:=h.recs;omega,by have:=h.dw;omega,h.l0,by have:=h.l1;omega,h.re,h.id⟩
def pP(d:SD)(k e b p s q bl v:Int)(c:List Int):d.recs.length<=(d.step k e b p s q bl v c).recs.length/\(d.step k e b p s q bl v c).recs.length<=d.recs.length+1/\(d.step k e b p s q bl v c).dw.length<=d.dw.length+1/\(d.step k e b p s q bl v c).lines=d.lines/\(d.step k e b p s q bl v c).id=d.id/\(∀r∈(d.step k e b p s q bl v c).recs,r∈d.recs∨r.E=e+1):=by
 unfold SD.step;split;·exact⟨Nat.le_refl _,sG,AK _ _ _,rfl,rfl,λr a=>.inl a⟩
 split;·exact⟨Nat.le_refl _,sG,AK _ _ _,rfl,rfl,λr a=>.inl a⟩
 split
 ·refine⟨by simp[SD.learn],by simp[SD.learn],?_,rfl,rfl,?_⟩;·have:=I5 d.dw (e+1 - 1);show(gM d.dw (e+1 - 1)).length<=_;omega
  ·intro r a;simp[SD.learn]at a;rcases a with a|rfl;·exact .inl a
   ·exact .inr rfl
 split
 ·unfold SD.jy;split;·exact⟨Nat.le_refl _,sG,sG,rfl,rfl,λr a=>.inl a⟩
  split;·exact⟨Nat.le_refl _,sG,sG,rfl,rfl,λr a=>.inl a⟩
  split;·exact⟨Nat.le_refl _,sG,sG,rfl,rfl,λr a=>.inl a⟩
  ·exact⟨Nat.le_refl _,sG,sG,rfl,rfl,λr a=>.inl a⟩
 ·exact⟨Nat.le_refl _,sG,sG,rfl,rfl,λr a=>.inl a⟩
def BG.wrote{t:Nat}{d:SD}{fs:List FD}{left:Int}{m:dK}{ok:Bool}{fs':List FD}{left':Int}{d':SD}(h:BG t d)(a:lV d fs left m ok fs' left' d'):d'.recs=d.recs/\d'.dw=d.dw/\d'.id=d.id/\0<=d'.lines/\d'.lines<=3*(t:Int)+3:=by
 have e:=h.recs;have b:=h.dw;have f:=h.l0;have c:=h.l1;rcases a with⟨_,_,_,_,rfl⟩|⟨_,_,_,_,_,rfl⟩;·exact⟨rfl,rfl,rfl,by show 0<=d.lines+1;omega,by show d.lines+1<=_;omega⟩
 ·exact⟨rfl,rfl,rfl,by show 0<=(d.recs.length:Int)+2*(d.dw.length:Int)+1;omega,by show(d.recs.length:Int)+2*(d.dw.length:Int)+1<=_;omega⟩
def SD.stepM(d:SD)(m:dK):SD:=d.step m.k m.e m.b m.p m.s m.q m.bl m.v m.zs
def BG.step{t:Nat}{d:SD}{fs:List FD}{left:Int}{m:dK}{ok:Bool}{fs':List FD}{left':Int}{d':SD}(h:BG t d)(i:lV d fs left m ok fs' left' d')(w:e_ m.e):BG (t+1) (bif ok then d'.stepM m else d'):=by
 obtain⟨a,g,c,n,o⟩:=h.wrote i;have x:=h.recs;have u:=h.dw;have l:=h.ne;cases ok;·exact⟨by simpa[a] using l,by simp[a];omega,by simp[g];omega,n,by simp;omega,by simpa[a] using h.re,by simpa[c] using h.id⟩
 ·obtain⟨s0,s1,s2,s3,s4,s5⟩:=pP d' m.k m.e m.b m.p m.s m.q m.bl m.v m.zs;rw[a]at s0 s1 s5;rw[g]at s2;rw[c]at s4;refine⟨by show 0<(d'.step _ _ _ _ _ _ _ _ _).recs.length;omega,by show(d'.step _ _ _ _ _ _ _ _ _).recs.length<=_;omega,by show(d'.step _ _ _ _ _ _ _ _ _).dw.length<=_;omega,by show 0<=(d'.step _ _ _ _ _ _ _ _ _).lines;omega,by show(d'.step _ _ _ _ _ _ _ _ _).lines<=_;omega,?_,by show 0<=(d'.step _ _ _ _ _ _ _ _ _).id/\_;rw[show(bif true then d'.stepM m else d').id=d.id from s4,s4];exact h.id⟩;intro r j;rcases s5 r j with f|f;·exact h.re r f
  ·omega
def iW(P:Pl)(x:NB)(d:SD)(fs:List FD)(left:Int)(t:Nat)(A:Nat->Prop)(m:dK)(ok:Bool)(w w':World):Prop:=∃fs' left' d' A',lV d fs left m ok fs' left' d'/\gF w' P x (bif ok then d'.stepM m else d') fs' left' (eA (t+1)) A'/\dP A A' w w'
def iW.pre{P:Pl}{x:NB}{d:SD}{fs:List FD}{left:Int}{t:Nat}{A:Nat->Prop}{m:dK}{ok:Bool}{w w0 w':World}(h:iW P x d fs left t A m ok w0 w')(c:Below w.heap.size w w0):iW P x d fs left t A m ok w w':=by obtain⟨fs',left',d',A',e,a,b⟩:=h;exact⟨fs',left',d',A',e,a,b.pre c⟩
def iW.later{P:Pl}{x:NB}{d:SD}{fs:List FD}{left:Int}{t:Nat}{A:Nat->Prop}{m:dK}{ok:Bool}{w w1 w':World}(h:iW P x d fs left t A m ok w w1)(a:Below w1.heap.size w1 w'):iW P x d fs left t A m ok w w':=by obtain⟨fs',left',d',A',e,b,c⟩:=h;exact⟨fs',left',d',A',e,b.later a,c.later a⟩
def iW.blk{P:Pl}{x:NB}{d:SD}{fs:List FD}{left:Int}{t:Nat}{A:Nat->Prop}{m:dK}{ok:Bool}{w w':World}{X:Nat}{cs:Array Value}{ty:TypeId}(h:iW P x d fs left t A m ok w w')(b:dC w X cs ty)(c:¬A X):dC w' X cs ty:=by obtain⟨fs',left',d',A',f,e,a⟩:=h;exact a.blk b c
def iW.node{P:Pl}{x x':NB}{d:SD}{fs:List FD}{left:Int}{t:Nat}{A:Nat->Prop}{m:dK}{ok:Bool}{w w1 w2:World}(h:iW P x d fs left t A m ok w w1)(b:dI P.Nd w1 w2)(e:dC w2 P.Nd x'.arr 192)(hs:x'.St=x.St):iW P x' d fs left t A m ok w w2:=by obtain⟨fs',left',d',A',f,a,c⟩:=h;exact⟨fs',left',d',A',f,a.node b e hs,c.trans (.node b a.nd)⟩
def iW.at{P:Pl}{x:NB}{d:SD}{fs:List FD}{left:Int}{t:Nat}{A:Nat->Prop}{m:dK}{ok:Bool}{w w':World}(h:iW P x d fs left t A m ok w w'):dC w' P.Nd x.arr 192:=by obtain⟨fs',left',d',A',c,a,b⟩:=h;exact a.blk
def qH(hSO:fA)(hBW:fC)(hBS:fD)(P:Pl)(x:NB)(d:SD)(fs:List FD)(left:Int)(t:Nat)(A:Nat->Prop)(k f e b wa p s q bl v:Int)(a:Option Addr)(E:List Int)(c:Nat)(w:World)(h:gF w P x d fs left (eA t) A)(z:BG t d)(ht:t<=1000000)(hz:fB w a E)(K:∀C,a=Y C->¬A C.block)(he:e_ e)(L:iE k bl E.length)(M:x.down=false):Calls pG 139 #[P0 (Y ⟨P.Nd,0,Z⟩),.agg (mA k f e b wa p s q bl v (J a E.length c))] w λr w'=>∃ok,r=.returned (.bool ok)/\iW P (x.after ok) d fs left t A (⟨k,f,e,b,wa,p,s,q,bl,v,a,c,E⟩:dK) ok w w':=by
 obtain⟨vr,va,W,R,m⟩:=h.ex;have b1:=z.recs;have b2:=z.dw;have U:=z.l0;have b4:=z.l1;refine(JC hSO hBW hBS P.Nd x P.low d vr P.Mp P.D P.H P.S va fs left (eA t) k f e b wa p s q bl v a E c w W R h.tabs hz h.tabs.two h.low (by unfold eA;omega) oG oG ⟨U,oG⟩ (h.two _ (m _ (.inl rfl))) (λC B u=>K C B (u ▸ m _ (.inl rfl))) z.ne z.re z.id he L (λC B u=>K C B (m _ u)) h.blk M).mono ?_;rintro r w' ⟨ok,fs',left',d',o,n,rfl,g1,V,O,N,g5,Q,X⟩;have hs':(x.after ok).St=x.St:=by cases ok<;>rfl
 have l:dM A w w':=X.wide (λg F=>F.elim (λi=>i ▸ h.nd) (λi=>m g i));have y:∀g,kP x.St o P.Mp P.S n g->A g∨(w.heap.size<=g/\g<w'.heap.size):=by
  rintro g (i|i|i|i|i);·exact .inl (m g (.inl i))
  ·exact .inl (m g (.inr (.inl i)))
  ·rcases Q g i with j|j;·exact .inl (m g (.inr (.inr (.inl j))))
   ·exact .inr ⟨j,(O.rcs.lt g i).2⟩
  ·exact .inl (m g (.inr (.inr (.inr (.inl i)))))
  ·rcases g5 g i with j|j;·exact .inl (m g (.inr (.inr (.inr (.inr j)))))
   ·exact .inr ⟨j,(N.ds.row.lt g i).2⟩
 refine⟨ok,rfl,fs',left',d',λg=>A g∨kP x.St o P.Mp P.S n g,g1,⟨V,⟨o,n,?_,N.mono (Nat.max_le.2 (by unfold eA;constructor<;>omega)),?_⟩,.inl h.nd,.inl h.pd,.inl h.ph,?_,?_,Nat.le_trans h.low l.size,h.tabs.kept l (λu=>absurd (h.two _ u) oG) (λu=>absurd (h.two _ u) oG)⟩,⟨l,λg F=>F.elim .inl (λi=>(y g i).imp id (λj=>j.1))⟩⟩;·rw[hs'];exact O
 ·rw[hs'];exact λg F=>.inr F
 ·rintro g (i|i);·exact h.two g i
  ·rcases y g i with j|j;·exact h.two g j
   ·have:=h.tabs.two;omega
 ·rintro g (i|i);·exact Nat.lt_of_lt_of_le (h.lt g i) l.size
  ·rcases y g i with j|j;·exact Nat.lt_of_lt_of_le (h.lt g j) l.size
   ·exact j.2
end Go.Proofs.YtdcainmlcpafbaaGreatDoor
