import Derived.Test.YtdcainmlcpafbaaGreatDoorJ13
import Derived.Deep.MidRow
set_option linter.all false
set_option maxHeartbeats 8000000
set_option maxRecDepth 20000
namespace Go.Proofs.YtdcainmlcpafbaaGreatDoor
open Go.RowKit
open Value renaming int->I,slice->J,pointer->P0
open Tryz
open Tryz renaming prog->pG
open IntKind renaming i64->T
open Option renaming none->Z,some->Y
open Obj renaming cells->G
open Value (bool)
def gQ(w:World)(base:Nat):List (Int×List UInt8)->List Value->Prop
 | [],cs=>cs=[]
 |z::ps,cs=>∃x cs',cs=I T z.1::x::cs'/\gC w base x z.2/\gQ w base ps cs'
theorem gQ.nil{w:World}{base:Nat}:gQ w base [] []:=rfl
theorem gQ.cons{w:World}{base:Nat}{t:Int}{a:List UInt8}{x:Value}{ps:List (Int×List UInt8)}{cs:List Value}(h:gC w base x a)(k:gQ w base ps cs):gQ w base ((t,a)::ps) (I T t::x::cs):=⟨x,cs,rfl,h,k⟩
theorem gQ.ind{w:World}{base:Nat}{a:∀ps cs,gQ w base ps cs->Prop}(nil:a [] [] gQ.nil)(cons:∀{t bs x ps cs} (h:gC w base x bs) (k:gQ w base ps cs),a ps cs k->a ((t,bs)::ps) (I T t::x::cs) (.cons h k)):∀{ps cs} (h:gQ w base ps cs),a ps cs h
 | [],_,h=>by have e:_=[]:=h;subst e;exact nil
 |(t,bs)::ps,_,h=>by obtain⟨x,cs,rfl,c,b⟩:=h;exact cons c b (gQ.ind nil cons b)
def dW(w:World)(base:Nat)(l:Value)(ps:List (Int×List UInt8)):Prop:=∃cs,w.ownsRow base 172 2 l ps.length cs/\gQ w base ps cs
theorem gQ.append{w:World}{base:Nat}{ps qs:List (Int×List UInt8)}{cs ds:List Value}(h:gQ w base ps cs)(k:gQ w base qs ds):gQ w base (ps++qs) (cs++ds):=by
 induction h using gQ.ind with
 |nil=>exact k
 |cons h1 h2 ih=>exact .cons h1 ih
theorem eT{w:World}{base:Nat}{e:TypeId}{size n:Nat}{v:Value}{xs:List Value}{g:Nat}(h:w.ownsRow base e size v n xs)(b:v.ownBlock=some g):∃a,w.heap[g]?=some (.cells a e (0,0)):=by
 rcases h.2 with⟨c,_⟩|⟨i,f,a,c,_,d,_⟩;·rw[c]at b;simp[Value.ownBlock]at b
 ·rw[c]at b;simp[Value.ownBlock]at b;subst b;exact⟨a,d⟩
theorem gQ.same{w w':World}{base:Nat}{ps:List (Int×List UInt8)}{cs:List Value}(h:gQ w base ps cs)(d:∀g a,base<=g->w.heap[g]?=some (.cells a 5 (0,0))->w'.heap[g]?=w.heap[g]?):gQ w' base ps cs:=by
 induction h using gQ.ind with
 |nil=>exact .nil
 |cons h1 h2 ih=>exact .cons (dO h1 (fun g b=>by obtain⟨a,c⟩:=eT h1 b;exact d g a (h1.lt g b).1 c)) ih
theorem gQ.mono{w:World}{base a:Nat}{ps:List (Int×List UInt8)}{cs:List Value}(h:gQ w base ps cs)(b:a<=base):gQ w a ps cs:=by
 induction h using gQ.ind with
 |nil=>exact .nil
 |cons h1 h2 ih=>exact .cons (mW h1 b) ih
theorem dW.mono{w:World}{base a:Nat}{l:Value}{ps:List (Int×List UInt8)}(h:dW w base l ps)(b:a<=base):dW w a l ps:=by obtain⟨cs,d,c⟩:=h;exact⟨cs,mW d b,c.mono b⟩
theorem mH{w:World}{g:Nat}{o:Obj}(h:w.heap[g]?=some o):g<w.heap.size:=(Array.getElem?_eq_some_iff.1 h).1
theorem dW.later{w w':World}{base:Nat}{l:Value}{ps:List (Int×List UInt8)}(h:dW w base l ps)(c:Below w.heap.size w w'):dW w' base l ps:=by obtain⟨cs,b,e⟩:=h;exact⟨cs,dO b (fun g a=>c.block g (b.lt g a).2),e.same (fun g d _ a=>c.block g (mH a))⟩
theorem dW.nil(w:World)(base:Nat):dW w base (J Z 0 0) []:=⟨[],World.ownsRow_nil _ _ _ _,.nil⟩
def fH(s:Int)(i:Nat):Bool:=s / 2^i%2==1
def fQ(s:Int)(bs:List UInt8):Nat->List (Int×List UInt8)
 |0=>[]
 |t+1=>fQ s bs t++(bif fH s t then[((t:Int),bs)] else[])
theorem tI(s:Int)(a:List UInt8):∀t,(fQ s a t).length<=t
 |0=>Nat.le_refl 0
 |t+1=>by have:=tI s a t;simp only[fQ,List.length_append];cases fH s t<;>simp<;>omega
theorem DF(n:Int)(h:0<=n/\n<=31):bits BinOp.and IntKind.i64 n 1=n%2:=by
 obtain⟨m,rfl⟩:=Int.eq_ofNat_of_zero_le h.1;have a:∀m:Nat,m<32->bits BinOp.and IntKind.i64 (m:Int) 1=(m:Int)%2:=by decide
 exact a m (by omega)
theorem wJ{s:Int}(h:0<=s/\s<=31)(t:Nat):0<=s/2^t/\s/2^t<=31:=by have a:(0:Int)<2^t:=Int.pow_pos (by omega);refine⟨Int.ediv_nonneg h.1 (by omega),?_⟩;exact Int.le_trans (Int.ediv_le_self _ h.1) h.2
theorem BR:(Tryz.prog.info? 172).map (fun i=>(i.zero,i.size,i.bytes))=Y (Y (.agg #[I T 0,J Z 0 0]),2,32):=by kernel_rfl
theorem oA(Nd:Nat)(id nodes set:Int)(k f e b wa p s q bl v:Int)(a:Option Addr)(B:List Int)(c:Nat)(w:World)(aj:w.cell? ⟨Nd,0,Z⟩=Y (I T id))(ao:w.cell? ⟨Nd,1,Z⟩=Y (I T nodes))(am:Nd<w.heap.size)(ht:dU w)(N:eX w a B)(ai:0<=nodes/\nodes<=5)(ab:0<=set/\set<=31)(hm:fD k id [0,e,b,wa,p,s,q,bl,v,(B.length:Int)]=true):Calls pG 140 #[P0 (Y ⟨Nd,0,Z⟩),I T set,.agg #[I T k,I T f,I T e,I T b,I T wa,I T p,I T s,I T q,I T bl,I T v,J a B.length c]] w fun r w'=>∃l,r=.returned l/\dW w' w.heap.size l (fQ set (gJ k id e b wa p s q bl v B) nodes.toNat)/\Below w.heap.size w w':=by
 obtain⟨i0,a8,aa,ac,a4⟩:=info_parts BR;have V:=a_ w (G #[I T k,I T id,I T e,I T b,I T wa,I T p,I T s,I T q,I T bl,I T v,J a B.length c] 136);have HM:=dA (dC.new w #[I T k,I T id,I T e,I T b,I T wa,I T p,I T s,I T q,I T bl,I T v,J a B.length c] 136);have HB:=dA V;have HT:=dA ht;have a9:=dA hm;have HZ:=dA N;have a2:=ht.two;clear V ht hm N;go_enter func140,ntmps140;go_upto_region 4 with fail;generalize World.alloc _ _=W1 at*;have al:=HB.out.size;generalize hBS:gJ k id e b wa p s q bl v B=d at*;have a0:=dA hBS;clear hBS;go_loopw [7,20] (fun s7 s20 wr=>∃t:Nat,(t:Int)<=nodes/\s20=I T (t:Int)/\dW wr w.heap.size s7 (fQ set d t)/\dC wr w.heap.size #[I T k,I T id,I T e,I T b,I T wa,I T p,I T s,I T q,I T bl,I T v,J a B.length c] 136/\Below w.heap.size w wr) (fun s7 s20 wr=>nodes.toNat - (intOf s20).toNat);case atStart=>exact⟨0,by omega,rfl,dW.nil _ _,HM,HB⟩
 case round=>
  obtain⟨t,ak,rfl,⟨cs,o,X⟩,W,K⟩:=hrel;have z:=dA K;have E:=dA W;have N:=K.size;clear W K;obtain⟨la,lc,rfl⟩:=eB o;have C:=dA o;have H:=dA X;clear o X;generalize O:(fQ set d t).length=ln at*;have D:=dA O;clear O;by_cases an:(t:Int)<nodes
  ·obtain⟨bt,m⟩:∃y,fH set t=y:=⟨_,rfl⟩;have ah:(bits BinOp.and IntKind.i64 (set/2^t) 1==1)=bt:=by rw[DF _ (wJ ab t)];exact m
   cases bt
   ·go_wp2_with fail;go_roundw;case rel=>exact⟨t+1,by omega,rfl,⟨cs,by simp only[fQ,m,cond_false,List.append_nil];rw[D.out];exact C,by simp only[fQ,m,cond_false,List.append_nil];exact H⟩,E,z⟩
    case measure=>simp[intOf];omega
   obtain⟨m0,m1,m2,m3,m4,m5,m6,m7,m8,m9,ae⟩:=E.out.c11;go_wp2_with fail;refine(uO k id e b wa p s q bl v a B c wr (HT.out.below z a2) (HZ.out.later z) a9).mono ?_;rintro r w3 ⟨x,rfl,Q,A⟩;have hx:gC w3 wr.heap.size x (gJ k id e b wa p s q bl v B):=Q;rw[a0.out]at hx;clear Q;obtain⟨xa,xc,rfl⟩:=eB hx;have HX:=dA (mW hx N);have M:Hid (Below w.heap.size w w3):=z.out.trans (A.mono N);have U:=dA (E.out.later A);have h:Hid (w3.ownsRow w.heap.size 172 2 (J la ln lc) ln cs):=dO C (fun g i=>A.block g (C.out.lt g i).2);have S:=dA (H.out.same (w':=w3) (fun g n _ i=>A.block g (mH i)));have a5:=M.out.size;clear hx A m0 m1 m2 m3 m4 m5 m6 m7 m8 m9 ae;have ag:ln<=4:=by have:=tI set d t;rw[D.out]at this;omega
   go_wp2_with(at_builtin;go_loud (refine wpList_append_own _ rfl _ _ 118 rfl w.heap.size 172 i0 (.agg #[I T 0,J Z 0 0]) 2 32 underlying118 a8 aa ac a4 rfl (by decide) _ ln cs rfl ?c0 ⟨w3.heap.size,0,Z⟩ 1 1 [I T (t:Int),J xa d.length xc] rfl rfl ?c1 ?c2 ?c3 ?c4 ?c5 ?_));case c0=>exact dO h (fun g i=>heap_alloc_old _ _ (h.out.lt g i).2)
   case c1=>first|exact fun j u hu=>hu|exact qW w3 w3.heap.size rfl _ 172
   case c2=>intro u hu;simp at hu;rcases hu with rfl|rfl<;>rfl
   case c3=>unfold maxLen;omega
   case c4=>omega
   case c5=>first|omega|(simp;omega)
   intro v' w4 ad F af;have a1:∀g n,g<w3.heap.size->w3.heap[g]?=Y (.cells n 5 (0,0))->w4.heap[g]?=w3.heap[g]?:=fun g n hl i=>(F.block g (by simp;omega) (fun hh=>by obtain⟨c9,L⟩:=eT h hh.symm;rw[i]at L;simp at L)).trans (heap_alloc_old _ _ hl);have a6:Hid (Below w.heap.size w w4):=(M.out.alloc a5 _).grown F (by simp;omega) (fun g i=>(h.out.lt g i).1);have a3:=dA ((U.out.old (G #[I T (t:Int),J xa d.length xc] 172)).grown F (fun hh=>by obtain⟨c9,L⟩:=eT h hh;have h8:=U.out.blk;rw[L]at h8;simp at h8));have a7:Hid (gC w4 w.heap.size (J xa d.length xc) d):=dO HX (fun g i=>by obtain⟨c9,L⟩:=eT HX i;exact a1 g c9 (HX.out.lt g i).2 L);have R:=dA (S.out.same (w':=w4) (fun g n _ i=>a1 g n (mH i) i));go_wp2_with fail;go_roundw;case rel=>exact⟨t+1,by omega,rfl,⟨cs++[I T (t:Int),J xa d.length xc],by simp only[fQ,m,cond_true,List.length_append,D.out];exact ad,by simp only[fQ,m,cond_true];exact R.out.append (.cons a7 .nil)⟩,a3,a6⟩
   case measure=>simp[intOf];omega
  obtain rfl:nodes=(t:Int):=by omega
  go_wp2;go_ret;refine⟨_,rfl,?_,z⟩;rw[a0.out];exact⟨cs,by rw[D.out];exact C,H⟩
def pN(m:iC)(id F:Int):List (Int×List UInt8):=bif m.k==0 then[] else[(F,gJ m.k id m.e m.b m.wa m.p m.s m.q m.bl m.v [])]
theorem BS(a:List UInt8)(F n:Nat)(e:F<n)(d:n<=5):fQ (2^F:Int) a n=[((F:Int),a)]:=by
 have c:F=0∨F=1∨F=2∨F=3∨F=4:=by omega
 have b:n=1∨n=2∨n=3∨n=4∨n=5:=by omega
 rcases c with rfl|rfl|rfl|rfl|rfl<;>rcases b with rfl|rfl|rfl|rfl|rfl<;>first|omega|(simp[fQ,fH])
theorem IG(Nd:Nat)(id nodes K F E B o t n Q j V:Int)(ms:Value)(m:iC)(w:World)(u:w.cell? ⟨Nd,0,Z⟩=Y (I T id))(y:w.cell? ⟨Nd,1,Z⟩=Y (I T nodes))(h:Nd<w.heap.size)(H:dU w)(A:nodes<=5)(hF:0<=F/\F<nodes)(hm:m.k=0∨fD m.k id [0,m.e,m.b,m.wa,m.p,m.s,m.q,m.bl,m.v,0]=true):Calls pG 195 #[P0 (Y ⟨Nd,0,Z⟩),.agg #[I T K,I T F,I T E,I T B,I T o,I T t,I T n,I T Q,I T j,I T V,ms],m.ag] w fun r w'=>∃l,r=.returned l/\dW w' w.heap.size l (pN m id F)/\Below w.heap.size w w':=by
 have a:=(a_ w (G #[I T K,I T F,I T E,I T B,I T o,I T t,I T n,I T Q,I T j,I T V,ms] 136)).alloc (by simp) (G #[I T m.k,I T m.f,I T m.e,I T m.b,I T m.wa,I T m.p,I T m.s,I T m.q,I T m.bl,I T m.v,J Z 0 0] 136);have HA:Hid (dC ((w.alloc (G #[I T K,I T F,I T E,I T B,I T o,I T t,I T n,I T Q,I T j,I T V,ms] 136)).alloc (G #[I T m.k,I T m.f,I T m.e,I T m.b,I T m.wa,I T m.p,I T m.s,I T m.q,I T m.bl,I T m.v,J Z 0 0] 136)) w.heap.size #[I T K,I T F,I T E,I T B,I T o,I T t,I T n,I T Q,I T j,I T V,ms] 136):=(dC.new _ _ _).old _;have D:Hid (dC ((w.alloc (G #[I T K,I T F,I T E,I T B,I T o,I T t,I T n,I T Q,I T j,I T V,ms] 136)).alloc (G #[I T m.k,I T m.f,I T m.e,I T m.b,I T m.wa,I T m.p,I T m.s,I T m.q,I T m.bl,I T m.v,J Z 0 0] 136)) (w.heap.size+1) #[I T m.k,I T m.f,I T m.e,I T m.b,I T m.wa,I T m.p,I T m.s,I T m.q,I T m.bl,I T m.v,J Z 0 0] 136):=by have h9:=dC.new (w.alloc (G #[I T K,I T F,I T E,I T B,I T o,I T t,I T n,I T Q,I T j,I T V,ms] 136)) #[I T m.k,I T m.f,I T m.e,I T m.b,I T m.wa,I T m.p,I T m.s,I T m.q,I T m.bl,I T m.v,J Z 0 0] 136;unfold Hid;simpa using h9
 have U:=dA a;have HT:=dA (H.below a H.two);have N:=(a.cell (p:=⟨Nd,0,Z⟩) h).trans u;have W:=(a.cell (p:=⟨Nd,1,Z⟩) h).trans y;have L:=dA N;have a3:=dA W;by_cases c:m.k=0
 ·have g:(m.k==0)=true:=by simp[c]
  have HK:Hid (pN m id F=[]):=by unfold Hid pN;rw[g];rfl
  clear c a N W;go_enter func195,ntmps195;go_upto_region 1 with fail;generalize World.alloc _ _=W0 at*;obtain⟨m0,m1,m2,m3,m4,m5,m6,m7,m8,m9,a0⟩:=D.out.c11;go_wp2;go_ret;rw[HK.out];exact⟨_,rfl,dW.nil _ _,U⟩
 have g:(m.k==0)=false:=by simp[c]
 have R:=dA (hm.resolve_left c);obtain⟨f,rfl⟩:=Int.eq_ofNat_of_zero_le hF.1;have HK:Hid (pN m id (f:Int)=fQ (2^f:Int) (gJ m.k id m.e m.b m.wa m.p m.s m.q m.bl m.v []) nodes.toNat):=by unfold Hid pN;rw[g,BS _ f _ (by omega) (by omega)];rfl
 clear c hm H a u y N W;have h5:f=0∨f=1∨f=2∨f=3∨f=4:=by omega
 rcases h5 with rfl|rfl|rfl|rfl|rfl;all_goals
  go_enter func195,ntmps195
  go_upto_region 1 with fail
  generalize World.alloc _ _=W0 at*
  have i:=U.out.size
  obtain⟨m0,m1,m2,m3,m4,m5,m6,m7,m8,m9,a0⟩:=D.out.c11;have a1:=HA.out.cell 1;simp at a1
  go_upto_region 3 with fail
  refine eR (S:=(fun w'=>w'.cell? ⟨w.heap.size,1,Z⟩=Y (I T _)/\w'.cell? ⟨w.heap.size+1,0,Z⟩=Y (I T m.k)/\w'.cell? ⟨w.heap.size+1,1,Z⟩=Y (I T m.f)/\w'.cell? ⟨w.heap.size+1,2,Z⟩=Y (I T m.e)/\w'.cell? ⟨w.heap.size+1,3,Z⟩=Y (I T m.b)/\w'.cell? ⟨w.heap.size+1,4,Z⟩=Y (I T m.wa)/\w'.cell? ⟨w.heap.size+1,5,Z⟩=Y (I T m.p)/\w'.cell? ⟨w.heap.size+1,6,Z⟩=Y (I T m.s)/\w'.cell? ⟨w.heap.size+1,7,Z⟩=Y (I T m.q)/\w'.cell? ⟨w.heap.size+1,8,Z⟩=Y (I T m.bl)/\w'.cell? ⟨w.heap.size+1,9,Z⟩=Y (I T m.v)/\w'.cell? ⟨w.heap.size+1,10,Z⟩=Y (J Z 0 0))) fun _=>?_;refine tk 0 ?_;refine tk 1 ?_;refine tk 2 ?_;refine tk 3 ?_;refine tk 4 ?_;refine dE 5 fun K x=>?_
  (try go_simp)
  go_at_call 140
  refine(oA Nd id nodes _ m.k m.f m.e m.b m.wa m.p m.s m.q m.bl m.v none [] 0 W0.drew (by exact L) (by exact a3) (by exact Nat.lt_of_lt_of_le h i) HT.out.qx (.inl rfl) ⟨by omega,A⟩ (by decide) R).mono ?_;rintro r w3 ⟨l,rfl,O,d⟩;have HL:=dA (O.mono (by exact i));have a2:∃la ln z,l=J la ln z:=(by obtain⟨cs,h9,_⟩:=O;obtain⟨la,z,h8⟩:=eB h9;exact⟨la,_,z,h8⟩);obtain⟨la,ln,z,rfl⟩:=a2;have M:Hid (Below w.heap.size w w3):=U.out.drew.trans (d.mono i);have C:=dA (HA.out.drew.later d);have X:=dA (D.out.drew.later d);clear O d;obtain⟨y0,y1,y2,y3,y4,y5,y6,y7,y8,y9,a4⟩:=X.out.c11;have a1:=C.out.cell 1;simp at a1;refine k1 x fun _=>?_;clear x K;refine dE 6 fun K x=>?_
  (try go_simp)
  refine k1 x fun _=>?_;clear x K;refine dn ?_;go_wp2;go_ret
  rw[HK.out]
  exact⟨_,rfl,HL,M⟩
theorem kC.put{P:Pl}{x x':NB}{d:SD}{fs:List FD}{left:Int}{t:Nat}{A:Nat->Prop}{m:dI}{a ok:Bool}{w0 w w1 w2:World}{X:Nat}(h:kC a P x x' d fs left t A m ok w w1)(f:Below w0.heap.size w0 w)(b:dH X w1 w2)(i:w0.heap.size<=X)(k:X<w.heap.size)(j:¬A X)(g:2<=X):kC a P x x' d fs left t A m ok w0 w2:=by
 rcases h with⟨e,c,l,n⟩|⟨e,c⟩;·exact .inl ⟨e,c,l.but b j g,(n.pre f).but b i⟩
 ·exact .inr ⟨e,c.put f b i k j g⟩
theorem kC.later{P:Pl}{x x':NB}{d:SD}{fs:List FD}{left:Int}{t:Nat}{A:Nat->Prop}{m:dI}{a ok:Bool}{w w1 w2:World}(h:kC a P x x' d fs left t A m ok w w1)(c:Below w1.heap.size w1 w2):kC a P x x' d fs left t A m ok w w2:=by
 rcases h with⟨e,b,f,g⟩|⟨e,b⟩;·exact .inl ⟨e,b,f.later c,g.later c⟩
 ·exact .inr ⟨e,b.later c⟩
theorem kC.pre{P:Pl}{x x':NB}{d:SD}{fs:List FD}{left:Int}{t:Nat}{A:Nat->Prop}{m:dI}{a ok:Bool}{w0 w w1:World}(h:kC a P x x' d fs left t A m ok w w1)(e:Below w0.heap.size w0 w):kC a P x x' d fs left t A m ok w0 w1:=by
 rcases h with⟨c,b,f,g⟩|⟨c,b⟩;·exact .inl ⟨c,b,f,g.pre e⟩
 ·exact .inr ⟨c,b.pre e⟩
theorem kC.blk{P:Pl}{x x':NB}{d:SD}{fs:List FD}{left:Int}{t:Nat}{A:Nat->Prop}{m:dI}{a ok:Bool}{w w':World}{X:Nat}{cs:Array Value}{ty:TypeId}(h:kC a P x x' d fs left t A m ok w w')(c:dC w X cs ty)(e:¬A X):dC w' X cs ty:=by
 rcases h with⟨f,b,i,g⟩|⟨f,b⟩;·exact g.blk c e
 ·exact b.blk c e
theorem kC.at{P:Pl}{x x':NB}{d:SD}{fs:List FD}{left:Int}{t:Nat}{A:Nat->Prop}{m:dI}{a ok:Bool}{w w':World}(h:kC a P x x' d fs left t A m ok w w'):dC w' P.Nd (bif a then x' else x).arr 192:=by
 rcases h with⟨rfl,b,c,e⟩|⟨rfl,b⟩;·exact c.blk
 ·exact b.at
theorem NB.qo(x:NB)(n ok:Bool):(bif n then x.after ok else x).id=x.id:=by cases n<;>cases ok<;>rfl
theorem kC.size{P:Pl}{x x':NB}{d:SD}{fs:List FD}{left:Int}{t:Nat}{A:Nat->Prop}{m:dI}{a ok:Bool}{w w':World}(h:kC a P x x' d fs left t A m ok w w'):w.heap.size<=w'.heap.size:=by
 rcases h with⟨rfl,e,c,b⟩|⟨rfl,_,_,_,_,_,_,b⟩;·exact b.kept.size
 ·exact b.kept.size
theorem xW(hSO:eW)(hBW:eZ)(hBS:fA)(P:Pl)(x:NB)(d:SD)(fs:List FD)(left:Int)(t:Nat)(A:Nat->Prop)(k f e b wa p s q bl v:Int)(a:Option Addr)(l:List Int)(c:Nat)(w:World)(h:gA w P x d fs left (dX t) A)(hB:BG t d)(ht:t<=1000000)(F:eX w a l)(S:∀ad,a=Y ad->¬A ad.block)(N:e_ e)(L:k=1∨k=3)(u:x.down=false):Calls pG 187 #[P0 (Y ⟨P.Nd,0,Z⟩),.agg #[I T k,I T f,I T e,I T b,I T wa,I T p,I T s,I T q,I T bl,I T v,J a l.length c]] w fun r w'=>pM (iT d k e b p s) P x x.after d fs left t A (⟨k,f,e,b,wa,p,s,q,bl,v,a,c,l⟩:dI) (fun ok=>({(bif ok then eH d k e b else .nil) with f:=x.id}:iC).ag) r w w':=by
 have z:=(a_ w (G #[I T k,I T f,I T e,I T b,I T wa,I T p,I T s,I T q,I T bl,I T v,J a l.length c] 136)).alloc (by simp) (G #[I T 0,I T 0,I T 0,I T 0,I T 0,I T 0,I T 0,I T 0,I T 0,I T 0,J Z 0 0] 136);have K:Hid (dC ((w.alloc (G #[I T k,I T f,I T e,I T b,I T wa,I T p,I T s,I T q,I T bl,I T v,J a l.length c] 136)).alloc (G #[I T 0,I T 0,I T 0,I T 0,I T 0,I T 0,I T 0,I T 0,I T 0,I T 0,J Z 0 0] 136)) w.heap.size #[I T k,I T f,I T e,I T b,I T wa,I T p,I T s,I T q,I T bl,I T v,J a l.length c] 136):=(dC.new _ _ _).old _;have X:Hid (dC ((w.alloc (G #[I T k,I T f,I T e,I T b,I T wa,I T p,I T s,I T q,I T bl,I T v,J a l.length c] 136)).alloc (G #[I T 0,I T 0,I T 0,I T 0,I T 0,I T 0,I T 0,I T 0,I T 0,I T 0,J Z 0 0] 136)) (w.heap.size+1) #[I T 0,I T 0,I T 0,I T 0,I T 0,I T 0,I T 0,I T 0,I T 0,I T 0,J Z 0 0] 136):=by have m:=dC.new (w.alloc (G #[I T k,I T f,I T e,I T b,I T wa,I T p,I T s,I T q,I T bl,I T v,J a l.length c] 136)) #[I T 0,I T 0,I T 0,I T 0,I T 0,I T 0,I T 0,I T 0,I T 0,I T 0,J Z 0 0] 136;unfold Hid;simpa using m
 have H:=dA z;have HH:=dA h;have a3:=dA F;have a7:=dA hB;have ae:=dA u;have y:Hid (∀g,w.heap.size<=g->¬A g):=fun g hg=>h.fresh hg;have aa:=h.tabs.two;have a2:Hid (∀w,gA w P x d fs left (dX t) A->eX w a l->Calls pG 196 #[P0 (Y ⟨P.Nd,0,Z⟩),.agg #[I T k,I T f,I T e,I T b,I T wa,I T p,I T s,I T q,I T bl,I T v,J a l.length c]] w fun r w'=>pM (iT d k e b p s) P x x.after d fs left t A (⟨k,f,e,b,wa,p,s,q,bl,v,a,c,l⟩:dI) (fun ok=>(bif ok then eH d k e b else .nil).ag) r w w'):=fun w h F=>zZ hSO hBW hBS P x d fs left t A k f e b wa p s q bl v a l c w h hB ht F S N L u;clear z h F hB u;go_enter func187,ntmps187;go_upto_region 1 with fail;generalize World.alloc _ _=W0 at*;have aj:=H.out.size;obtain⟨m0,m1,m2,m3,m4,m5,m6,m7,m8,m9,B⟩:=K.out.c11;have a6:=X.out.lt;go_wp2_with fail;refine(a2.out W0 (HH.out.later H) (a3.out.later H)).mono ?_;rintro r w1 ⟨ok,E,j⟩;dsimp only at E;subst E;have ap:=dA (j.blk K (y.out _ r_));have a1:=dA (j.blk X (y.out _ (Nat.le_succ _)));have R:=dA j;have hn:=j.at;have a4:w1.cell? ⟨P.Nd,0,Z⟩=Y (I T x.id):=by have m:=hn.cell 0;simp at m;rw[NB.qo]at m;exact m
 have a0:=hn.lt;have ac:=j.size;clear j hn m0 m1 m2 m3 m4 m5 m6 m7 m8 m9 B K X;generalize ho:(bif ok then eH d k e b else .nil)=o;have HO:=dA ho;clear ho;have n:Hid (dC (w1.alloc (G #[I T o.k,I T o.f,I T o.e,I T o.b,I T o.wa,I T o.p,I T o.s,I T o.q,I T o.bl,I T o.v,J Z 0 0] 136)) w1.heap.size #[I T o.k,I T o.f,I T o.e,I T o.b,I T o.wa,I T o.p,I T o.s,I T o.q,I T o.bl,I T o.v,J Z 0 0] 136):=dC.new _ _ _;have V:=dA (a1.out.old (G #[I T o.k,I T o.f,I T o.e,I T o.b,I T o.wa,I T o.p,I T o.s,I T o.q,I T o.bl,I T o.v,J Z 0 0] 136));have D:Hid (Below w1.heap.size w1 (w1.alloc (G #[I T o.k,I T o.f,I T o.e,I T o.b,I T o.wa,I T o.p,I T o.s,I T o.q,I T o.bl,I T o.v,J Z 0 0] 136))):=a_ _ _;have n0:=(D.out.cell (p:=⟨P.Nd,0,Z⟩) a0).trans a4;go_upto_region 2 with fail;generalize World.alloc _ _=W2 at*;have o1:=n.out.cell 1;simp at o1;have an:=n.out.free 1;have W:Hid (dC (W2.setCell ⟨w1.heap.size,1,Z⟩ (I T x.id)) w1.heap.size #[I T o.k,I T x.id,I T o.e,I T o.b,I T o.wa,I T o.p,I T o.s,I T o.q,I T o.bl,I T o.v,J Z 0 0] 136):=by have m:=n.out.set 1 (I T x.id);unfold Hid;simpa using m
 have i:=dA (V.out.setO (C:=w1.heap.size) (by omega) 1 (I T x.id));have M:Hid (Below w1.heap.size w1 (W2.setCell ⟨w1.heap.size,1,Z⟩ (I T x.id))):=gW D r_ _ _;go_upto_region 3 with fail;generalize World.setCell _ _ _=W3 at*;obtain⟨m0,m1,m2,m3,m4,m5,m6,m7,m8,m9,B⟩:=W.out.c11;obtain⟨r0,r1,r2,r3,r4,r5,r6,r7,r8,r9,ab⟩:=i.out.c11;have ak:=i.out.free 0;have aq:=i.out.free 1;have ao:=i.out.free 2;have ai:=i.out.free 3;have am:=i.out.free 4;have al:=i.out.free 5;have ah:=i.out.free 6;have a9:=i.out.free 7;have af:=i.out.free 8;have a8:=i.out.free 9;have a5:=i.out.free 10;have O:=dA (lK W3 (w.heap.size+1) (I T o.k) (I T x.id) (I T o.e) (I T o.b) (I T o.wa) (I T o.p) (I T o.s) (I T o.q) (I T o.bl) (I T o.v) (J Z 0 0));have U:=dA (i.out.s11 (I T o.k) (I T x.id) (I T o.e) (I T o.b) (I T o.wa) (I T o.p) (I T o.s) (I T o.q) (I T o.bl) (I T o.v) (J Z 0 0));go_wp2;generalize World.setCell _ _ _=W9 at*;obtain⟨q0,q1,q2,q3,q4,q5,q6,q7,q8,q9,Q⟩:=U.out.c11;exact bodyPost_ret (v:=.agg #[I T o.k,I T x.id,I T o.e,I T o.b,I T o.wa,I T o.p,I T o.s,I T o.q,I T o.bl,I T o.v,J Z 0 0]) (by simp[results,results187,go_sem,q0,q1,q2,q3,q4,q5,q6,q7,q8,q9,Q]) rfl ⟨ok,by have m:=HO.out;subst m;rfl,(R.out.later M).put H O (Nat.le_succ _) (by omega) (y.out _ (Nat.le_succ _)) (by omega)⟩
structure dJ where
 op:Int
 bl:Int
 v:Int
 e:Int
 q:Int
def dJ.cells(r:dJ):List Value:=[I T r.op,I T r.bl,I T r.v,I T r.e,I T r.q]
def iD(w:World)(o:Option Nat)(l:List Ky):Prop:=(o=none/\l=[])∨∃B,o=some B/\fW w B l
def NB.own(x:NB)(g:Nat):Prop:=x.an=some g∨x.oa=some g∨x.res.ownBlock=some g
structure dM(w:World)(P:Pl)(x:NB)(d:SD)(fs:List FD)(left:Int)(L:Nat)(C:Nat->Prop)(la lo:List Ky)(rs:List dJ):Prop where
 nod:∃A,gA w P x d fs left L A/\(∀g,A g->C g)/\(∀g,x.own g->¬A g)
 an:iD w x.an la
 oa:iD w x.oa lo
 ne:∀g,x.an=some g->x.oa≠some g
 row:w.ownsRow P.low 76 5 x.res rs.length (rs.flatMap dJ.cells)
 jm:∀g,x.own g->C g
 lt:∀g,C g->2<=g/\g<w.heap.size
section
variable {w w' w1 w2:World} {P:Pl} {x x':NB} {d d':SD} {fs fs':List FD} {left left':Int} {L L':Nat} {A A' C C':Nat->Prop} {la lo:List Ky} {rs:List dJ}
theorem iD.same{o:Option Nat}{l:List Ky}(h:iD w o l)(c:∀g,o=some g->w'.heap[g]?=w.heap[g]?):iD w' o l:=by
 rcases h with h|⟨B,a,b⟩;·exact .inl h
 ·exact .inr ⟨B,a,b.same (c B a)⟩
theorem dM.same(h:dM w P x d fs left L C la lo rs)(hs:w.heap.size<=w'.heap.size)(b:∀g,C g->w'.heap[g]?=w.heap[g]?)(f:dU w'):dM w' P x d fs left L C la lo rs:=by obtain⟨A,e,c,i⟩:=h.nod;exact⟨⟨A,e.same hs (fun g a=>b g (c g a)) f,c,i⟩,h.an.same (fun g a=>b g (h.jm g (.inl a))),h.oa.same (fun g a=>b g (h.jm g (.inr (.inl a)))),h.ne,dO h.row (fun g a=>b g (h.jm g (.inr (.inr a)))),h.jm,fun g a=>⟨(h.lt g a).1,Nat.lt_of_lt_of_le (h.lt g a).2 hs⟩⟩
theorem dM.tabs(h:dM w P x d fs left L C la lo rs):dU w:=by obtain⟨A,a,c,b⟩:=h.nod;exact a.tabs
theorem dM.blk(h:dM w P x d fs left L C la lo rs):dC w P.Nd x.arr 192:=by obtain⟨A,a,c,b⟩:=h.nod;exact a.blk
theorem dM.later(h:dM w P x d fs left L C la lo rs)(a:Below w.heap.size w w'):dM w' P x d fs left L C la lo rs:=h.same a.size (fun g b=>a.block g (h.lt g b).2) (h.tabs.below a h.tabs.two)
theorem dM.but{X:Nat}(h:dM w P x d fs left L C la lo rs)(a:dH X w w')(c:¬C X)(e:2<=X):dM w' P x d fs left L C la lo rs:=h.same (by rw[a.size];exact Nat.le_refl _) (fun g b=>a.block g (fun f=>c (f ▸ b))) (h.tabs.below (a.below e) (Nat.le_refl 2))
theorem dM.fresh{X:Nat}(h:dM w P x d fs left L C la lo rs)(a:w.heap.size<=X):¬C X:=fun b=>absurd (h.lt X b).2 (Nat.not_lt.2 a)
theorem dM.nC(h:dM w P x d fs left L C la lo rs):C P.Nd:=by obtain⟨A,a,b,c⟩:=h.nod;exact b _ a.nd
theorem dM.turn(h:dM w P x d fs left L C la lo rs)(e:∀g,A g->C g)(c:∀g,x.own g->¬A g)(m:gA w' P x' d' fs' left' L' A')(f:dN A A' w w')(k:x'.an=x.an)(l:x'.oa=x.oa)(n:x'.res=x.res):dM w' P x' d' fs' left' L' (fun g=>C g∨A' g) la lo rs/\dN C (fun g=>C g∨A' g) w w':=by
 have j:∀g,x'.own g↔x.own g:=fun g=>by unfold NB.own;rw[k,l,n]
 have i:∀g,x.own g->w'.heap[g]?=w.heap[g]?:=fun g a=>f.kept.block g (h.lt g (h.jm g a)).2 (c g a);refine⟨⟨⟨A',m,fun g a=>.inr a,fun g a o=>?_⟩,?_,?_,?_,?_,fun g a=>.inl (h.jm g ((j g).1 a)),?_⟩,⟨f.kept.wide e,?_⟩⟩;·exact f.apart (h.lt g (h.jm g ((j g).1 a))).2 (c g ((j g).1 a)) o
 ·rw[k];exact h.an.same (fun g a=>i g (.inl a))
 ·rw[l];exact h.oa.same (fun g a=>i g (.inr (.inl a)))
 ·rw[k,l];exact h.ne
 ·rw[n];exact dO h.row (fun g a=>i g (.inr (.inr a)))
 ·rintro g (b|b);·exact⟨(h.lt g b).1,Nat.lt_of_lt_of_le (h.lt g b).2 f.kept.size⟩
  ·exact⟨m.two g b,m.lt g b⟩
 ·rintro g (b|b);·exact .inl b
  ·exact(f.grow g b).imp (e g) id
theorem dM.turn0(h:dM w P x d fs left L C la lo rs)(e:∀g,A g->C g)(c:∀g,x.own g->¬A g)(k:gA w' P x' d' fs' left' L' A')(f:dN A A' w w')(j:x'.an=none)(m:x'.oa=none)(l:x'.res=x.res):dM w' P x' d' fs' left' L' (fun g=>C g∨A' g) [] [] rs/\dN C (fun g=>C g∨A' g) w w':=by
 have i:∀g,x'.own g->x.own g:=fun g b=>by
  rcases b with a|a|a;·rw[j]at a;cases a
  ·rw[m]at a;cases a
  ·exact .inr (.inr (l ▸ a))
 have n:∀g,x.own g->w'.heap[g]?=w.heap[g]?:=fun g b=>f.kept.block g (h.lt g (h.jm g b)).2 (c g b);refine⟨⟨⟨A',k,fun g b=>.inr b,fun g b o=>?_⟩,.inl ⟨j,rfl⟩,.inl ⟨m,rfl⟩,?_,?_,fun g b=>.inl (h.jm g (i g b)),?_⟩,⟨f.kept.wide e,?_⟩⟩;·exact f.apart (h.lt g (h.jm g (i g b))).2 (c g (i g b)) o
 ·intro g b;rw[j]at b;cases b
 ·rw[l];exact dO h.row (fun g b=>n g (.inr (.inr b)))
 ·rintro g (a|a);·exact⟨(h.lt g a).1,Nat.lt_of_lt_of_le (h.lt g a).2 f.kept.size⟩
  ·exact⟨k.two g a,k.lt g a⟩
 ·rintro g (a|a);·exact .inl a
  ·exact(f.grow g a).imp (e g) id
theorem dM.node(h:dM w P x d fs left L C la lo rs)(c:dH P.Nd w w')(k:dC w' P.Nd x'.arr 192)(hs:x'.St=x.St)(e:x'.an=x.an)(j:x'.oa=x.oa)(f:x'.res=x.res):dM w' P x' d fs left L C la lo rs:=by obtain⟨A,i,l,m⟩:=h.nod;obtain⟨b,n⟩:=h.turn l m (i.node c k hs) (.node c i.nd) e j f;refine⟨⟨A,i.node c k hs,l,fun g a=>m g (by unfold NB.own at a⊢;rw[e,j,f]at a;exact a)⟩,b.an,b.oa,b.ne,b.row,fun g a=>h.jm g (by unfold NB.own at a⊢;rw[e,j,f]at a;exact a),fun g a=>⟨(h.lt g a).1,by rw[c.size];exact(h.lt g a).2⟩⟩
end
def eI(P:Pl)(x:NB)(d:SD)(fs:List FD)(left:Int)(t:Nat)(C:Nat->Prop)(la lo:List Ky)(rs:List dJ)(m:dI)(ok:Bool)(w w':World):Prop:=∃fs' left' d' C',lF d fs left m ok fs' left' d'/\dM w' P x (bif ok then d'.stepM m else d') fs' left' (dX (t+1)) C' la lo rs/\dN C C' w w'
section
variable {w w0 w1 w2:World} {P:Pl} {x x':NB} {d:SD} {fs:List FD} {left:Int} {t:Nat} {C:Nat->Prop} {la lo:List Ky} {rs:List dJ} {m:dI} {ok:Bool}
theorem eI.pre(h:eI P x d fs left t C la lo rs m ok w0 w1)(e:Below w.heap.size w w0):eI P x d fs left t C la lo rs m ok w w1:=by obtain⟨fs',left',d',C',b,a,c⟩:=h;exact⟨fs',left',d',C',b,a,c.pre e⟩
theorem eI.later(h:eI P x d fs left t C la lo rs m ok w w1)(a:Below w1.heap.size w1 w2):eI P x d fs left t C la lo rs m ok w w2:=by obtain⟨fs',left',d',C',c,b,e⟩:=h;exact⟨fs',left',d',C',c,b.later a,e.later a⟩
theorem eI.put{X:Nat}(h:eI P x d fs left t C la lo rs m ok w w1)(c:Below w0.heap.size w0 w)(b:dH X w1 w2)(i:w0.heap.size<=X)(k:X<w.heap.size)(e:¬C X)(f:2<=X):eI P x d fs left t C la lo rs m ok w0 w2:=by obtain⟨fs',left',d',C',j,g,a⟩:=h;exact⟨fs',left',d',C',j,g.but b (a.apart k e) f,(a.pre c).but b i⟩
theorem eI.at(h:eI P x d fs left t C la lo rs m ok w w1):dC w1 P.Nd x.arr 192:=by obtain⟨fs',left',d',C',c,a,b⟩:=h;exact a.blk
theorem eI.blk{X:Nat}{cs:Array Value}{ty:TypeId}(h:eI P x d fs left t C la lo rs m ok w w1)(c:dC w X cs ty)(a:¬C X):dC w1 X cs ty:=by obtain⟨fs',left',d',C',f,e,b⟩:=h;exact b.blk c a
end
theorem dM.saved{w w':World}{P:Pl}{x:NB}{d:SD}{fs:List FD}{left:Int}{L t:Nat}{A C:Nat->Prop}{la lo:List Ky}{rs:List dJ}{m:dI}{ok:Bool}{x':NB}(h:dM w P x d fs left L C la lo rs)(b:∀g,A g->C g)(a:∀g,x.own g->¬A g)(hs:iP P x' d fs left t A m ok w w')(k:x'.an=x.an)(f:x'.oa=x.oa)(l:x'.res=x.res):eI P x' d fs left t C la lo rs m ok w w':=by obtain⟨fs',left',d',A',n,e,i⟩:=hs;obtain⟨c,j⟩:=h.turn b a e i k f l;exact⟨fs',left',d',_,n,c,j⟩
theorem dM.je{w w':World}{P:Pl}{x:NB}{d:SD}{fs:List FD}{left:Int}{L t:Nat}{A C:Nat->Prop}{la lo:List Ky}{rs:List dJ}{m:dI}{ok:Bool}{x':NB}(h:dM w P x d fs left L C la lo rs)(b:∀g,A g->C g)(a:∀g,x.own g->¬A g)(hs:iP P x' d fs left t A m ok w w')(k:x'.an=none)(f:x'.oa=none)(l:x'.res=x.res):eI P x' d fs left t C [] [] rs m ok w w':=by obtain⟨fs',left',d',A',n,e,i⟩:=hs;obtain⟨c,j⟩:=h.turn0 b a e i k f l;exact⟨fs',left',d',_,n,c,j⟩
section
variable {w w1 w2 w3:World} {P:Pl} {x x':NB} {d:SD} {fs:List FD} {left:Int} {L t:Nat} {C:Nat->Prop} {la lo la' lo':List Ky} {rs rs':List dJ} {m:dI} {ok:Bool}
theorem iD.lt{o:Option Nat}{l:List Ky}{g:Nat}(h:iD w o l)(a:o=some g):g<w.heap.size:=by
 rcases h with⟨b,_⟩|⟨B,b,c⟩;·rw[b]at a;cases a
 ·rw[b]at a;cases a;exact c.lt
theorem iD.node{X:Nat}{cs:Array Value}{ty:TypeId}{o:Option Nat}{l:List Ky}(h:iD w o l)(c:dC w X cs ty)(d:dH X w w1):iD w1 o l:=by
 rcases h with h|⟨B,b,a⟩;·exact .inl h
 ·exact .inr ⟨B,b,a.same (d.block B (a.ne c))⟩
theorem gA.nodeK{A:Nat->Prop}(h:gA w P x d fs left L A)(e:dK (fun g=>g=P.Nd) w w1)(n:dC w1 P.Nd x'.arr 192)(hs:x'.St=x.St):gA w1 P x' d fs left L A:=by obtain⟨vr,k,j,a,l⟩:=h.ex;have f:∀g,jZ x.St vr P.Mp P.S k g->w1.heap[g]?=w.heap[g]?:=fun g b=>e.block g (h.lt g (l g b)) (fun c=>qF j a h.blk (by decide) (by decide) (by decide) (by decide) (c ▸ b));have o:w1.heap[P.D]?=w.heap[P.D]?:=e.block _ (h.lt _ h.pd) (fun c=>by have i:=a.hands.d;rw[c,h.blk.blk]at i;simp at i);have m:w1.heap[P.H]?=w.heap[P.H]?:=e.block _ (h.lt _ h.ph) (fun c=>by have i:=a.hands.h;rw[c,h.blk.blk]at i;simp at i);refine⟨n,⟨vr,k,?_,⟨a.hands.later o m,a.ds.kept (f _ (.inr (.inr (.inr (.inl rfl))))) (fun g b=>f g (.inr (.inr (.inr (.inr b))))),a.dS,a.hS,a.lf,a.fl,a.bd⟩,by rw[hs];exact l⟩,h.nd,h.pd,h.ph,h.two,fun g b=>Nat.lt_of_lt_of_le (h.lt g b) e.size,Nat.le_trans h.low e.size,h.tabs.kept e (fun c=>absurd (h.two _ h.nd) (by omega)) (fun c=>absurd (h.two _ h.nd) (by omega))⟩;rw[hs];exact⟨j.blk.same (f _ (.inl rfl)),dO j.ja (fun g b=>f g (.inr (.inr (.inl b)))),j.iy.same (f _ (.inr (.inl rfl)))⟩
theorem dM.reset(h:dM w1 P x d fs left L C la lo rs)(l:dK (fun g=>g=P.Nd) w1 w3)(q:dC w3 P.Nd x'.arr 192)(hs:x'.St=x.St)(b:∀g,x'.own g->x.own g∨w1.heap.size<=g)(i:iD w3 x'.an la')(f:iD w3 x'.oa lo')(k:∀g,x'.an=some g->x'.oa≠some g)(c:w3.ownsRow P.low 76 5 x'.res rs'.length (rs'.flatMap dJ.cells)):dM w3 P x' d fs left L (fun g=>C g∨x'.own g) la' lo' rs'/\dN C (fun g=>C g∨x'.own g) w1 w3:=by
 obtain⟨A,n,p,r⟩:=h.nod;have j:∀g,x'.own g->g<w3.heap.size:=by
  rintro g (a|a|a);·exact i.lt a
  ·exact f.lt a
  ·exact(c.lt g a).2
 refine⟨⟨⟨A,n.nodeK l q hs,fun g e=>.inl (p g e),fun g e o=>?_⟩,i,f,k,c,fun g e=>.inr e,?_⟩,?_,?_⟩
 ·rcases b g e with a|a;·exact r g a o
  ·exact absurd (n.lt g o) (Nat.not_lt.2 a)
 ·rintro g (a|a);·exact⟨(h.lt g a).1,Nat.lt_of_lt_of_le (h.lt g a).2 l.size⟩
  ·refine⟨?_,j g a⟩;rcases b g a with m|m;·exact(h.lt g (h.jm g m)).1
   ·have:=h.tabs.two;omega
 ·exact l.wide (fun g e=>e ▸ h.nC)
 ·rintro g (a|a);·exact .inl a
  ·exact(b g a).imp (h.jm g) id
theorem eI.reset(h:eI P x d fs left t C la lo rs m ok w w1)(l:dK (fun g=>g=P.Nd) w1 w3)(j:dC w3 P.Nd x'.arr 192)(hs:x'.St=x.St)(b:∀g,x'.own g->x.own g∨w1.heap.size<=g)(f:iD w3 x'.an la')(c:iD w3 x'.oa lo')(e:∀g,x'.an=some g->x'.oa≠some g)(a:w3.ownsRow P.low 76 5 x'.res rs'.length (rs'.flatMap dJ.cells)):eI P x' d fs left t C la' lo' rs' m ok w w3:=by obtain⟨fs',left',d',C',k,o,p⟩:=h;obtain⟨i,n⟩:=o.reset l j hs b f c e a;exact⟨fs',left',d',_,k,i,p.trans n⟩
theorem eI.oa(h:eI P x d fs left t C la lo rs m ok w w1)(e:dK (fun g=>g=P.Nd) w1 w3):iD w3 x.oa lo:=by
 obtain⟨fs',left',d',C',l,b,k⟩:=h;have j:=b.blk;exact b.oa.same (fun g a=>e.block g (b.oa.lt a) (fun f=>by
  rcases b.oa with⟨c,_⟩|⟨B,c,i⟩;·rw[c]at a;cases a
  ·rw[c]at a;cases a;exact i.ne j f))
theorem eI.row(h:eI P x d fs left t C la lo rs m ok w w1)(f:dK (fun g=>g=P.Nd) w1 w3):w3.ownsRow P.low 76 5 x.res rs.length (rs.flatMap dJ.cells):=by obtain⟨fs',left',d',C',l,a,k⟩:=h;have j:=a.blk.blk;exact dO a.row (fun g c=>f.block g (a.row.lt g c).2 (fun i=>by obtain⟨e,b⟩:=eT a.row c;rw[i,j]at b;simp at b))
theorem eI.lt(h:eI P x d fs left t C la lo rs m ok w w1){g:Nat}(b:x.own g):g<w1.heap.size:=by obtain⟨fs',left',d',C',e,a,c⟩:=h;exact(a.lt g (a.jm g b)).2
theorem dK.ji{B X:Nat}{cs:Array Value}{ty:TypeId}(b:dK (fun g=>g=B) w w1)(a:dC w X cs ty)(h:X≠B):dC w1 X cs ty:=a.same (b.block X a.lt h)
theorem dM.jw{B:Nat}{m:List Ky}(h:dM w P x d fs left L C la lo rs)(b:x.an=some B)(f:dK (fun g=>g=B) w w1)(q:fW w1 B m):dM w1 P x d fs left L C m lo rs:=by
 obtain⟨A,n,p,k⟩:=h.nod;have c:∀g,g<w.heap.size->g≠B->w1.heap[g]?=w.heap[g]?:=fun g a j=>f.block g a j;refine⟨⟨A,n.same f.size (fun g a=>c g (n.lt g a) (fun e=>k g (.inl (e ▸ b)) a)) (h.tabs.kept f (fun e=>absurd (h.lt B (h.jm B (.inl b))).1 (by omega)) (fun e=>absurd (h.lt B (h.jm B (.inl b))).1 (by omega))),p,k⟩,.inr ⟨B,b,q⟩,h.oa.same (fun g a=>c g (h.oa.lt a) (fun e=>h.ne g (e ▸ b) a)),h.ne,dO h.row (fun g a=>c g (h.row.lt g a).2 (fun e=>?_)),h.jm,fun g a=>⟨(h.lt g a).1,Nat.lt_of_lt_of_le (h.lt g a).2 f.size⟩⟩;obtain⟨o,r⟩:=eT h.row a;rcases h.an with⟨i,_⟩|⟨u,i,t⟩;·rw[i]at b;cases b
 ·rw[i]at b;cases b;obtain⟨es,s,l,_⟩:=t.obj;rw[←e,r]at l;simp at l
theorem dM.addOa{B:Nat}{m:List Ky}(h:dM w P x d fs left L C la lo rs)(b:x.oa=some B)(f:dK (fun g=>g=B) w w1)(q:fW w1 B m):dM w1 P x d fs left L C la m rs:=by
 obtain⟨A,n,p,k⟩:=h.nod;have c:∀g,g<w.heap.size->g≠B->w1.heap[g]?=w.heap[g]?:=fun g a j=>f.block g a j;refine⟨⟨A,n.same f.size (fun g a=>c g (n.lt g a) (fun e=>k g (.inr (.inl (e ▸ b))) a)) (h.tabs.kept f (fun e=>absurd (h.lt B (h.jm B (.inr (.inl b)))).1 (by omega)) (fun e=>absurd (h.lt B (h.jm B (.inr (.inl b)))).1 (by omega))),p,k⟩,h.an.same (fun g a=>c g (h.an.lt a) (fun e=>h.ne g a (e ▸ b))),.inr ⟨B,b,q⟩,h.ne,dO h.row (fun g a=>c g (h.row.lt g a).2 (fun e=>?_)),h.jm,fun g a=>⟨(h.lt g a).1,Nat.lt_of_lt_of_le (h.lt g a).2 f.size⟩⟩;obtain⟨o,r⟩:=eT h.row a;rcases h.oa with⟨i,_⟩|⟨u,i,t⟩;·rw[i]at b;cases b
 ·rw[i]at b;cases b;obtain⟨es,s,l,_⟩:=t.obj;rw[←e,r]at l;simp at l
theorem eI.jw{B:Nat}{e:List Ky}(h:eI P x d fs left t C la lo rs m ok w w1)(f:x.an=some B)(b:dK (fun g=>g=B) w1 w2)(i:fW w2 B e):eI P x d fs left t C e lo rs m ok w w2:=by obtain⟨fs',left',d',C',k,c,j⟩:=h;refine⟨fs',left',d',C',k,c.jw f b i,j.trans ⟨b.wide (fun g a=>a ▸ c.jm B (.inl f)),fun _ a=>.inl a⟩⟩
end
theorem mI(k:Nat)(f:Int)(a:List Int)(b:1<=k/\k<=10)(c:0<=f/\f<5)(h:iG k a=true):fD (k:Int) f a=true:=by
 unfold fD;rw[Int.toNat_natCast,h];have:nK (k:Int) f=false:=by unfold nK;simp;omega
 rw[this];rfl
theorem qI(f e p s:Int)(b:0<=f/\f<5)(c:e_ e)(a:0<=p/\p<=5)(hs:0<=s/\s<=31):fD 6 f [0,e,0,0,p,s,0,0,0,0]=true:=mI 6 f _ (by omega) b ((mY e 0 0 p s 0 0 0 0).2 ⟨c,a,hs,rfl,rfl,rfl,rfl,rfl,rfl⟩)
theorem O8(f e b wa:Int)(c:0<=f/\f<5)(g:e_ e)(d:e_ b)(a:e_ wa):fD 5 f [0,e,b,wa,0,0,0,0,0,0]=true:=mI 5 f _ (by omega) c ((rG e b wa 0 0 0 0 0 0).2 ⟨g,d,a,rfl,rfl,rfl,rfl,rfl,rfl⟩)
theorem O9(f e b:Int)(a:0<=f/\f<5)(d:e_ e)(c:e_ b):fD 4 f [0,e,b,0,0,0,0,0,0,0]=true:=mI 4 f _ (by omega) a ((rF e b 0 0 0 0 0 0 0).2 ⟨d,c,rfl,rfl,rfl,rfl,rfl,rfl,rfl⟩)
theorem PA(f e b wa p s:Int)(d:0<=f/\f<5)(g:e_ e)(h:e_ b)(a:e_ wa)(c:0<=p/\p<=5)(hs:0<=s/\s<=31):fD 2 f [0,e,b,wa,p,s,0,0,0,0]=true:=mI 2 f _ (by omega) d ((rD e b wa p s 0 0 0 0).2 ⟨g,h,a,c,hs,rfl,rfl,rfl,rfl⟩)
theorem PB(f e q:Int)(a:0<=f/\f<5)(c:e_ e)(b:e_ q):fD 8 f [0,e,0,0,0,0,q,0,0,0]=true:=mI 8 f _ (by omega) a ((rH e 0 0 0 0 q 0 0 0).2 ⟨c,b,rfl,rfl,rfl,rfl,rfl,rfl,rfl⟩)
theorem NY(f e q:Int)(a:0<=f/\f<5)(c:e_ e)(b:e_ q):fD 10 f [0,e,0,0,0,0,q,0,0,0]=true:=mI 10 f _ (by omega) a ((sX e 0 0 0 0 q 0 0 0).2 ⟨c,b,rfl,rfl,rfl,rfl,rfl,rfl,rfl⟩)
theorem qJ(f e b:Int)(a:0<=f/\f<5)(d:e_ e)(c:e_ b):fD 1 f [0,e,b,0,0,0,0,0,0,0]=true:=mI 1 f _ (by omega) a ((mJ e b 0 0 0 0 0 0 0).2 ⟨d,c,rfl,rfl,rfl,rfl,rfl,rfl,rfl⟩)
theorem tZ(f e b p s:Int)(c:0<=f/\f<5)(d:e_ e)(g:e_ b)(a:0<=p/\p<=5)(hs:0<=s/\s<=31):fD 3 f [0,e,b,0,p,s,0,0,0,0]=true:=mI 3 f _ (by omega) c ((mK e b 0 p s 0 0 0 0).2 ⟨d,g,a,hs,rfl,rfl,rfl,rfl,rfl⟩)
section
variable {P:Program} {ops:Array Oper} {Q:Exit->Act->World->Prop} {md:Region.Mode} {S:World->Prop} {fuel:Nat} {listed:Array Bool} {a:Act} {w:World}
theorem dB(i:Nat){b:Oper}{e:Tmp}{v:Value}{g:Act}(h:wpAnyH P md ops Q S fuel (listed.setIfInBounds i true) g w)(hi:ops[i]?=some b:=by exact rfl)(f:b.dst=some e:=by exact rfl)(hs:Region.noSelect ops=true:=by kernel_rfl)(j:Region.free md ops listed i=true:=by kernel_rfl)(k:(Region.ready md ops listed).contains i=true:=by kernel_rfl)(m:Region.wanted b (yielded ops a.tmps)=true:=by kernel_rfl)(hy:∀w,S w->(execOp a.eval b).run P w=.ok (.value v) w:=by intro w d;(try dsimp only at d);go_simp;(try with_reducible rfl))(l:∀c a w,Q (.panic c) (a.put (some e) v) w->Q (.panic c) a w:=by exact fun _ _ _ h=>h)(hS:S w:=by assumption)(n:a.put (some e) v=g:=by(try simp only[qs]);exact rfl):wpAnyH P md ops Q S (fuel+1) listed a w:=wpAnyH_take hi hs j k (f ▸ l) (.inl ⟨m,hy⟩) hS (by rw[f,n];exact h)
theorem NZ{c:Oper}(ty:TypeId)(y:Operand)(g:c.op=.load ty y)(b o:Nat)(j:a.eval y=.pointer (some ⟨b,o,none⟩))(cs:List Value)(d:TypeDesc)(i:w.rangeAt b o cs)(h:P.underlying ty=some d)(e:d.isRow=true)(hi:(P.info? ty).map (·.size)=some cs.length):(execOp a.eval c).run P w=.ok (.value (.agg cs.toArray)) w:=by have f:=run_loadAt_mid (P:=P) w b o ty cs d i h e hi;simp[execOp,g,j,f]
theorem dC.range{B:Nat}{arr:Array Value}{ty:TypeId}{o:Nat}{cs:List Value}(h:dC w B arr ty)(b:(arr.toList.drop o).take cs.length=cs):w.rangeAt B o cs:=by intro j v a;rw[h.cell];have c:j<cs.length:=(List.getElem?_eq_some_iff.1 a).1;rw[←b,List.getElem?_take]at a;simpa[c] using a
theorem iV(i b o:Nat)(cs:List Value){e:Oper}{j:Tmp}{ty:TypeId}{y:Operand}{d:TypeDesc}{l:Act}(h:wpAnyH P md ops Q S fuel (listed.setIfInBounds i true) l w)(x:∀w,S w->w.rangeAt b o cs)(hi:ops[i]?=some e:=by exact rfl)(n:e.op=.load ty y:=by exact rfl)(t:a.eval y=.pointer (some ⟨b,o,none⟩):=by kernel_rfl)(q:P.underlying ty=some d:=by exact rfl)(f:d.isRow=true:=by rfl)(u:(P.info? ty).map (·.size)=some cs.length:=by kernel_rfl)(k:e.dst=some j:=by exact rfl)(hs:Region.noSelect ops=true:=by kernel_rfl)(m:Region.free md ops listed i=true:=by kernel_rfl)(p:(Region.ready md ops listed).contains i=true:=by kernel_rfl)(r:Region.wanted e (yielded ops a.tmps)=true:=by kernel_rfl)(s:∀c a w,Q (.panic c) (a.put (some j) (.agg cs.toArray)) w->Q (.panic c) a w:=by exact fun _ _ _ h=>h)(hS:S w:=by assumption)(v:a.put (some j) (.agg cs.toArray)=l:=by(try simp only[qs]);exact rfl):wpAnyH P md ops Q S (fuel+1) listed a w:=wpAnyH_take hi hs m p (k ▸ s) (.inl ⟨r,fun w g=>NZ ty y n b o t cs d (x w g) q f u⟩) hS (by rw[k,v];exact h)
end
theorem eI.tabs{w w1:World}{P:Pl}{x:NB}{d:SD}{fs:List FD}{left:Int}{t:Nat}{C:Nat->Prop}{la lo:List Ky}{rs:List dJ}{m:dI}{ok:Bool}(h:eI P x d fs left t C la lo rs m ok w w1):dU w1:=by obtain⟨_,_,_,_,_,a,_⟩:=h;exact a.tabs
theorem eI.size{w w1:World}{P:Pl}{x:NB}{d:SD}{fs:List FD}{left:Int}{t:Nat}{C:Nat->Prop}{la lo:List Ky}{rs:List dJ}{m:dI}{ok:Bool}(h:eI P x d fs left t C la lo rs m ok w w1):w.heap.size<=w1.heap.size:=by obtain⟨_,_,_,_,_,_,a⟩:=h;exact a.kept.size
theorem dW.shape{w:World}{base:Nat}{l:Value}{ps:List (Int×List UInt8)}(h:dW w base l ps):∃a n c,l=J a n c:=by obtain⟨cs,b,_⟩:=h;obtain⟨a,c,d⟩:=eB b;exact⟨a,_,c,d⟩
theorem dH.self(X:Nat)(a:World):dH X a a:=⟨rfl,rfl,rfl,rfl,fun _ _=>rfl⟩
theorem tJ(n i:Int)(c:2<=n/\n<=5)(hi:0<=i/\i<n):(0:Int)<=2^n.toNat - 1 - 2^i.toNat/\(2:Int)^n.toNat - 1 - 2^i.toNat<=31:=by
 have a:n=2∨n=3∨n=4∨n=5:=by omega
 have b:i=0∨i=1∨i=2∨i=3∨i=4:=by omega
 rcases a with rfl|rfl|rfl|rfl<;>rcases b with rfl|rfl|rfl|rfl|rfl<;>first|omega|decide
theorem rQ(a rf id:Int)(d:0<=a)(f:0<=rf)(b:0<=id):a<mO a rf id/\rf<mO a rf id/\0<mO a rf id:=by unfold mO;have c:a<=max a rf:=Int.le_max_left _ _;have e:rf<=max a rf:=Int.le_max_right _ _;generalize max a rf=l at*;split<;>omega
theorem uP(d:SD)(b:Int)(a:¬b<(dG d.di d.ep).pr):eH d 1 d.ep b=⟨2,0,d.ep,b,(dG d.di d.ep).ac,(dG d.di d.ep).pm,(dG d.di d.ep).st,0,0,0⟩:=by simp only[eH,if_neg (show¬d.ep<d.ep by omega),if_neg a,if_neg (show¬(1:Int)=3 by omega)]
theorem yQ(d:SD)(b:Int)(e:(dG d.di d.ep).pr<b):iT d 1 d.ep b 0 0=true:=by
 have a:¬b<(dG d.di d.ep).pr:=by omega
 have c:¬b=(dG d.di d.ep).pr:=by omega
 simp[iT,PV.after,PV.qj,a,c]
end Go.Proofs.YtdcainmlcpafbaaGreatDoor
