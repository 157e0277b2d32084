import Derived.Test.YtdcainmlcpafbaaGreatDoorJ15
import Derived.Deep.MidRow
set_option linter.all false
set_option maxHeartbeats 8000000
set_option maxRecDepth 20000
namespace Go.Proofs.YtdcainmlcpafbaaGreatDoor
open Go.RowKit
open Value renaming slice->J,pointer->P0
open Tryz
open Tryz renaming prog->pG
open IntKind renaming i64->T
open Option renaming none->Z,some->Y
open Obj renaming cells->G
open Value (bool)
def iA(w:World)(base:Nat):List (Int×List UInt8)->List Value->Prop
 | [],cs=>cs=[]
 |z::ps,cs=>∃x cs',cs=I z.1::x::cs'/\gJ w base x z.2/\iA w base ps cs'
def iA.nil{w:World}{base:Nat}:iA w base [] []:=rfl
def iA.cons{w:World}{base:Nat}{t:Int}{a:List UInt8}{x:Value}{ps:List (Int×List UInt8)}{cs:List Value}(h:gJ w base x a)(k:iA w base ps cs):iA w base ((t,a)::ps) (I t::x::cs):=⟨x,cs,rfl,h,k⟩
def iA.ind{w:World}{base:Nat}{a:∀ps cs,iA w base ps cs->Prop}(nil:a [] [] iA.nil)(cons:∀{t bs x ps cs} (h:gJ w base x bs) (k:iA w base ps cs),a ps cs k->a ((t,bs)::ps) (I t::x::cs) (.cons h k)):∀{ps cs} (h:iA w base ps cs),a ps cs h
 | [],_,h=>by have e:_=[]:=h;subst e;exact nil
 |(t,bs)::ps,_,h=>by obtain⟨x,cs,rfl,c,b⟩:=h;exact cons c b (iA.ind nil cons b)
def dZ(w:World)(base:Nat)(l:Value)(ps:List (Int×List UInt8)):Prop:=∃cs,w.ownsRow base 172 2 l ps.length cs/\iA w base ps cs
def iA.append{w:World}{base:Nat}{ps qs:List (Int×List UInt8)}{cs ds:List Value}(h:iA w base ps cs)(k:iA w base qs ds):iA w base (ps++qs) (cs++ds):=by
 induction h using iA.ind with
 |nil=>exact k
 |cons h1 h2 ih=>exact .cons h1 ih
def fC{w:World}{base:Nat}{e:TypeId}{size n:Nat}{v:Value}{xs:List Value}{g:Nat}(h:w.ownsRow base e size v n xs)(b:v.ownBlock=some g):∃a,w.1[g]?=some (.cells a e (0,0)):=by
 rcases h.2 with⟨c,_⟩|⟨i,f,a,c,_,d,_⟩;·rw[c]at b;simp[Value.ownBlock]at b
 ·rw[c]at b;simp[Value.ownBlock]at b;subst b;exact⟨a,d⟩
def iA.same{w w':World}{base:Nat}{ps:List (Int×List UInt8)}{cs:List Value}(h:iA w base ps cs)(d:∀g a,base<=g->w.1[g]?=some (.cells a 5 (0,0))->w'.1[g]?=w.1[g]?):iA w' base ps cs:=by
 induction h using iA.ind with
 |nil=>exact .nil
 |cons h1 h2 ih=>exact .cons (dW h1 (λg b=>by obtain⟨a,c⟩:=fC h1 b;exact d g a (h1.lt g b).1 c)) ih
def iA.mono{w:World}{base a:Nat}{ps:List (Int×List UInt8)}{cs:List Value}(h:iA w base ps cs)(b:a<=base):iA w a ps cs:=by
 induction h using iA.ind with
 |nil=>exact .nil
 |cons h1 h2 ih=>exact .cons (pB h1 b) ih
def dZ.mono{w:World}{base a:Nat}{l:Value}{ps:List (Int×List UInt8)}(h:dZ w base l ps)(b:a<=base):dZ w a l ps:=by obtain⟨cs,d,c⟩:=h;exact⟨cs,pB d b,c.mono b⟩
def nM{w:World}{g:Nat}{o:Obj}(h:w.1[g]?=some o):g<w.1.size:=(Array.getElem?_eq_some_iff.1 h).1
def dZ.later{w w':World}{base:Nat}{l:Value}{ps:List (Int×List UInt8)}(h:dZ w base l ps)(c:Bw w w'):dZ w' base l ps:=by obtain⟨cs,b,e⟩:=h;exact⟨cs,dW b (λg a=>c.block g (b.lt g a).2),e.same (λg d _ a=>c.block g (nM a))⟩
def dZ.nil(w:World)(base:Nat):dZ w base (J Z 0 0) []:=⟨[],World.ownsRow_nil _ _ _ _,.nil⟩
def eU(s:Int)(i:Nat):Bool:=s / 2^i%2==1
def fZ(s:Int)(bs:List UInt8):Nat->List (Int×List UInt8)
 |0=>[]
 |t+1=>fZ s bs t++(bif eU s t then[((t:Int),bs)] else[])
def uT(s:Int)(a:List UInt8):∀t,(fZ s a t).length<=t
 |0=>Nat.le_refl 0
 |t+1=>by have:=uT s a t;simp only[fZ,List.length_append];cases eU s t<;>simp<;>omega
def FQ(n:Int)(h:0<=n/\n<=31):bits BinOp.and IntKind.i64 n 1=n%2:=by obtain⟨m,rfl⟩:=Int.eq_ofNat_of_zero_le h.1;have a:∀m:Nat,m<32->bits BinOp.and IntKind.i64 (m:Int) 1=(m:Int)%2:=dG;exact a m oG
def yQ{s:Int}(h:0<=s/\s<=31)(t:Nat):0<=s/2^t/\s/2^t<=31:=by have a:(0:Int)<2^t:=Int.pow_pos oG;refine⟨Int.ediv_nonneg h.1 oG,?_⟩;exact Int.le_trans (Int.ediv_le_self _ h.1) h.2
def D2:(Tryz.prog.info? 172).map (λi=>(i.zero,i.size,i.bytes))=Y (Y (.agg #[I 0,J Z 0 0]),2,32):=kG
def pE(Nd:Nat)(id nodes set:Int)(k f e b wa p s q bl v:Int)(a:Option Addr)(B:List Int)(c:Nat)(w:World)(aj:w.cell? ⟨Nd,0,Z⟩=Y (I id))(ao:w.cell? ⟨Nd,1,Z⟩=Y (I nodes))(am:Nd<w.1.size)(ht:dY w)(N:fK w a B)(ai:0<=nodes/\nodes<=5)(ab:0<=set/\set<=31)(hm:fP k id [0,e,b,wa,p,s,q,bl,v,(B.length:Int)]=true):Calls pG 140 #[P0 (Y ⟨Nd,0,Z⟩),I set,.agg (mA k f e b wa p s q bl v (J a B.length c))] w λr w'=>∃l,r=.returned l/\dZ w' w.1.size l (fZ set (gR k id e b wa p s q bl v B) nodes.toNat)/\Bw w w':=by
 obtain⟨i0,a8,aa,ac,a4⟩:=info_parts D2;have V:=(Below.refl w.1.size w).alloc r_ (G (mA k id e b wa p s q bl v (J a B.length c)) 136);have HM:=dF (dI.new w (mA k id e b wa p s q bl v (J a B.length c)) 136);have HB:=dF V;have HT:=dF ht;have a9:=dF hm;have HZ:=dF N;have a2:=ht.two;clear V ht hm N;go_enter func140,ntmps140;go_upto_region 4 with fail;generalize World.alloc _ _=W1 at*;have al:=HB.size;generalize hBS:gR k id e b wa p s q bl v B=d at*;have a0:=dF hBS;clear hBS;go_loopw [7,20] (λs7 s20 wr=>∃t:Nat,(t:Int)<=nodes/\s20=I (t:Int)/\dZ wr w.1.size s7 (fZ set d t)/\dI wr w.1.size (mA k id e b wa p s q bl v (J a B.length c)) 136/\Bw w wr) (λs7 s20 wr=>nodes.toNat - (intOf s20).toNat);case atStart=>exact⟨0,oG,rfl,dZ.nil _ _,HM,HB⟩
 case round=>
  obtain⟨t,ak,rfl,⟨cs,o,X⟩,W,K⟩:=hrel;have z:=dF K;have E:=dF W;have N:=K.size;clear W K;obtain⟨la,lc,rfl⟩:=eK o;have C:=dF o;have H:=dF X;clear o X;generalize O:(fZ set d t).length=ln at*;have D:=dF O;clear O;by_cases an:(t:Int)<nodes
  ·obtain⟨bt,m⟩:∃y,eU set t=y:=⟨_,rfl⟩;have ah:(bits BinOp.and IntKind.i64 (set/2^t) 1==1)=bt:=by rw[FQ _ (yQ ab t)];exact m
   cases bt
   ·go_wp2_with fail;go_roundw;case rel=>exact⟨t+1,oG,rfl,⟨cs,by simp only[fZ,m,cond_false,List.append_nil];rw[D.out];exact C,by simp only[fZ,m,cond_false,List.append_nil];exact H⟩,E,z⟩
    case measure=>simp[intOf];omega
   have ae:=E.cell;go_wp2_with fail;refine(wL k id e b wa p s q bl v a B c wr (HT.below z a2) (HZ.later z) a9).mono ?_;rintro r w3 ⟨x,rfl,Q,A⟩;have hx:gJ w3 wr.1.size x (gR k id e b wa p s q bl v B):=Q;rw[a0.out]at hx;clear Q;obtain⟨xa,xc,rfl⟩:=eK hx;have HX:=dF (pB hx N);have M:Hid (Bw w w3):=z.trans (A.mono N);have U:=dF (E.later A);have h:Hid (w3.ownsRow w.1.size 172 2 (J la ln lc) ln cs):=dW C (λg i=>A.block g (C.lt g i).2);have S:=dF (H.same (w':=w3) (λg n _ i=>A.block g (nM i)));have a5:=M.size;clear hx A ae;have ag:ln<=4:=by have:=uT set d t;rw[D.out]at this;omega
   go_wp2_with(at_builtin;go_loud (refine wpList_append_own _ rfl _ _ 118 rfl w.1.size 172 i0 (.agg #[I 0,J Z 0 0]) 2 32 underlying118 a8 aa ac a4 rfl dG _ ln cs rfl ?c0 ⟨w3.1.size,0,Z⟩ 1 1 [I (t:Int),J xa d.length xc] rfl rfl ?c1 ?c2 ?c3 ?c4 ?c5 ?_));case c0=>exact dW h (λg i=>heap_alloc_old _ _ (h.lt g i).2)
   case c1=>first|exact λj u hu=>hu|exact sS w3 w3.1.size rfl _ 172
   case c2=>intro u hu;simp at hu;rcases hu with rfl|rfl<;>rfl
   case c3=>unfold maxLen;omega
   case c4=>omega
   case c5=>first|omega|(simp;omega)
   intro v' w4 ad F af;have a1:∀g n,g<w3.1.size->w3.1[g]?=Y (.cells n 5 (0,0))->w4.1[g]?=w3.1[g]?:=λg n hl i=>(F.block g nG (λhh=>by obtain⟨c9,L⟩:=fC h hh.symm;rw[i]at L;simp at L)).trans (heap_alloc_old _ _ hl);have a6:Hid (Bw w w4):=(M.alloc a5 _).grown F nG (λg i=>(h.lt g i).1);have a3:=dF ((U.old (G #[I (t:Int),J xa d.length xc] 172)).grown F (λhh=>by obtain⟨c9,L⟩:=fC h hh;have h8:=U.blk;rw[L]at h8;simp at h8));have a7:Hid (gJ w4 w.1.size (J xa d.length xc) d):=dW HX (λg i=>by obtain⟨c9,L⟩:=fC HX i;exact a1 g c9 (HX.lt g i).2 L);have R:=dF (S.same (w':=w4) (λg n _ i=>a1 g n (nM i) i));go_wp2_with fail;go_roundw;case rel=>exact⟨t+1,oG,rfl,⟨cs++[I (t:Int),J xa d.length xc],by simp only[fZ,m,cond_true,List.length_append,D.out];exact ad,by simp only[fZ,m,cond_true];exact R.append (.cons a7 .nil)⟩,a3,a6⟩
   case measure=>simp[intOf];omega
  obtain rfl:nodes=(t:Int):=oG;go_wp2;go_ret;refine⟨_,rfl,?_,z⟩;rw[a0.out];exact⟨cs,by rw[D.out];exact C,H⟩
def qV(m:iO)(id F:Int):List (Int×List UInt8):=bif m.k==0 then[] else[(F,gR m.k id m.e m.b m.wa m.p m.s m.q m.bl m.v [])]
def D3(a:List UInt8)(F n:Nat)(e:F<n)(d:n<=5):fZ (2^F:Int) a n=[((F:Int),a)]:=by have c:F=0∨F=1∨F=2∨F=3∨F=4:=oG;have b:n=1∨n=2∨n=3∨n=4∨n=5:=oG;rcases c with rfl|rfl|rfl|rfl|rfl<;>rcases b with rfl|rfl|rfl|rfl|rfl<;>first|omega|(simp[fZ,eU])
def KO(Nd:Nat)(id nodes K F E B o t n Q j V:Int)(ms:Value)(m:iO)(w:World)(u:w.cell? ⟨Nd,0,Z⟩=Y (I id))(x:w.cell? ⟨Nd,1,Z⟩=Y (I nodes))(h:Nd<w.1.size)(D:dY w)(z:nodes<=5)(hF:0<=F/\F<nodes)(hm:m.k=0∨fP m.k id [0,m.e,m.b,m.wa,m.p,m.s,m.q,m.bl,m.v,0]=true):Calls pG 195 #[P0 (Y ⟨Nd,0,Z⟩),.agg (mA K F E B o t n Q j V ms),m.ag] w λr w'=>∃l,r=.returned l/\dZ w' w.1.size l (qV m id F)/\Bw w w':=by
 have a:=((Below.refl w.1.size w).alloc r_ (G (mA K F E B o t n Q j V ms) 136)).alloc sG (G (mA m.k m.f m.e m.b m.wa m.p m.s m.q m.bl m.v (J Z 0 0)) 136);have HA:Hid (dI ((w.alloc (G (mA K F E B o t n Q j V ms) 136)).alloc (G (mA m.k m.f m.e m.b m.wa m.p m.s m.q m.bl m.v (J Z 0 0)) 136)) w.1.size (mA K F E B o t n Q j V ms) 136):=(dI.new _ _ _).old _;have C:Hid (dI ((w.alloc (G (mA K F E B o t n Q j V ms) 136)).alloc (G (mA m.k m.f m.e m.b m.wa m.p m.s m.q m.bl m.v (J Z 0 0)) 136)) (w.1.size+1) (mA m.k m.f m.e m.b m.wa m.p m.s m.q m.bl m.v (J Z 0 0)) 136):=by have h9:=dI.new (w.alloc (G (mA K F E B o t n Q j V ms) 136)) (mA m.k m.f m.e m.b m.wa m.p m.s m.q m.bl m.v (J Z 0 0)) 136;unfold Hid;simpa using h9
 have R:=dF a;have HT:=dF (D.below a D.two);have M:=(a.cell (p:=⟨Nd,0,Z⟩) h).trans u;have U:=(a.cell (p:=⟨Nd,1,Z⟩) h).trans x;have H:=dF M;have a2:=dF U;by_cases c:m.k=0
 ·have g:(m.k==0)=true:=by simp[c]
  have HK:Hid (qV m id F=[]):=by unfold Hid qV;rw[g];rfl
  clear c a M U;go_enter func195,ntmps195;go_upto_region 1 with fail;generalize World.alloc _ _=W0 at*;obtain⟨m0,m1,m2,m3,m4,m5,m6,m7,m8,m9,gF⟩:=C.c11;go_wp2;go_ret;rw[HK.out];exact⟨_,rfl,dZ.nil _ _,R⟩
 have g:(m.k==0)=false:=by simp[c]
 have O:=dF (hm.resolve_left c);obtain⟨f,rfl⟩:=Int.eq_ofNat_of_zero_le hF.1;have HK:Hid (qV m id (f:Int)=fZ (2^f:Int) (gR m.k id m.e m.b m.wa m.p m.s m.q m.bl m.v []) nodes.toNat):=by unfold Hid qV;rw[g,D3 _ f _ oG oG];rfl
 clear c hm D a u x M U;have h5:f=0∨f=1∨f=2∨f=3∨f=4:=oG;rcases h5 with rfl|rfl|rfl|rfl|rfl;all_goals
  go_enter func195,ntmps195
  go_upto_region 1 with fail
  generalize World.alloc _ _=W0 at*
  have i:=R.size
  obtain⟨m0,m1,m2,m3,m4,m5,m6,m7,m8,m9,gF⟩:=C.c11;have a1:=HA.cell 1;simp at a1
  go_upto_region 3 with fail
  refine eZ (S:=(λw'=>w'.cell? ⟨w.1.size,1,Z⟩=Y (I _)/\w'.cell? ⟨w.1.size+1,0,Z⟩=Y (I m.k)/\w'.cell? ⟨w.1.size+1,1,Z⟩=Y (I m.f)/\w'.cell? ⟨w.1.size+1,2,Z⟩=Y (I m.e)/\w'.cell? ⟨w.1.size+1,3,Z⟩=Y (I m.b)/\w'.cell? ⟨w.1.size+1,4,Z⟩=Y (I m.wa)/\w'.cell? ⟨w.1.size+1,5,Z⟩=Y (I m.p)/\w'.cell? ⟨w.1.size+1,6,Z⟩=Y (I m.s)/\w'.cell? ⟨w.1.size+1,7,Z⟩=Y (I m.q)/\w'.cell? ⟨w.1.size+1,8,Z⟩=Y (I m.bl)/\w'.cell? ⟨w.1.size+1,9,Z⟩=Y (I m.v)/\w'.cell? ⟨w.1.size+1,10,Z⟩=Y (J Z 0 0))) λ_=>?_;refine tk 0 ?_;refine tk 1 ?_;refine tk 2 ?_;refine tk 3 ?_;refine tk 4 ?_;refine dT 5 λK W=>?_
  (try go_simp)
  go_at_call 140
  refine(pE Nd id nodes _ m.k m.f m.e m.b m.wa m.p m.s m.q m.bl m.v none [] 0 W0.drew (by exact H) (by exact a2) (by exact Nat.lt_of_lt_of_le h i) HT.qj (.inl rfl) ⟨oG,z⟩ dG O).mono ?_;rintro r w3 ⟨l,rfl,N,d⟩;have HL:=dF (N.mono (by exact i));have a0:∃la ln y,l=J la ln y:=(by obtain⟨cs,h9,_⟩:=N;obtain⟨la,y,h8⟩:=eK h9;exact⟨la,_,y,h8⟩);obtain⟨la,ln,y,rfl⟩:=a0;have L:Hid (Bw w w3):=R.drew.trans (d.mono i);have A:=dF (HA.drew.later d);have X:=dF (C.drew.later d);clear N d;obtain⟨y0,y1,y2,y3,y4,y5,y6,y7,y8,y9,a3⟩:=X.c11;have a1:=A.cell 1;simp at a1;refine kr W 6 λK W=>?_
  (try go_simp)
  refine kd W ?_;go_wp2;go_ret
  rw[HK.out]
  exact⟨_,rfl,HL,L⟩
def kY.put{P:Pl}{x x':NB}{d:SD}{fs:List FD}{left:Int}{t:Nat}{A:Nat->Prop}{m:dN}{a ok:Bool}{w0 w w1 w2:World}{X:Nat}(h:kY a P x x' d fs left t A m ok w w1)(f:Bw w0 w)(b:dM X w1 w2)(i:w0.1.size<=X)(k:X<w.1.size)(j:¬A X)(g:2<=X):kY a P x x' d fs left t A m ok w0 w2:=by
 rcases h with⟨e,c,l,n⟩|⟨e,c⟩;·exact .inl ⟨e,c,l.but b j g,(n.pre f).but b i⟩
 ·exact .inr ⟨e,c.put f b i k j g⟩
def kY.later{P:Pl}{x x':NB}{d:SD}{fs:List FD}{left:Int}{t:Nat}{A:Nat->Prop}{m:dN}{a ok:Bool}{w w1 w2:World}(h:kY a P x x' d fs left t A m ok w w1)(c:Bw w1 w2):kY a P x x' d fs left t A m ok w w2:=by
 rcases h with⟨e,b,f,g⟩|⟨e,b⟩;·exact .inl ⟨e,b,f.later c,g.later c⟩
 ·exact .inr ⟨e,b.later c⟩
def kY.pre{P:Pl}{x x':NB}{d:SD}{fs:List FD}{left:Int}{t:Nat}{A:Nat->Prop}{m:dN}{a ok:Bool}{w0 w w1:World}(h:kY a P x x' d fs left t A m ok w w1)(e:Bw w0 w):kY a P x x' d fs left t A m ok w0 w1:=by
 rcases h with⟨c,b,f,g⟩|⟨c,b⟩;·exact .inl ⟨c,b,f,g.pre e⟩
 ·exact .inr ⟨c,b.pre e⟩
def kY.blk{P:Pl}{x x':NB}{d:SD}{fs:List FD}{left:Int}{t:Nat}{A:Nat->Prop}{m:dN}{a ok:Bool}{w w':World}{X:Nat}{cs:Array Value}{ty:TypeId}(h:kY a P x x' d fs left t A m ok w w')(c:dI w X cs ty)(e:¬A X):dI w' X cs ty:=by
 rcases h with⟨f,b,i,g⟩|⟨f,b⟩;·exact g.blk c e
 ·exact b.blk c e
def kY.at{P:Pl}{x x':NB}{d:SD}{fs:List FD}{left:Int}{t:Nat}{A:Nat->Prop}{m:dN}{a ok:Bool}{w w':World}(h:kY a P x x' d fs left t A m ok w w'):dI w' P.Nd (bif a then x' else x).arr 192:=by
 rcases h with⟨rfl,b,c,e⟩|⟨rfl,b⟩;·exact c.blk
 ·exact b.at
def NB.qm(x:NB)(n ok:Bool):(bif n then x.after ok else x).id=x.id:=by cases n<;>cases ok<;>rfl
def kY.size{P:Pl}{x x':NB}{d:SD}{fs:List FD}{left:Int}{t:Nat}{A:Nat->Prop}{m:dN}{a ok:Bool}{w w':World}(h:kY a P x x' d fs left t A m ok w w'):w.1.size<=w'.1.size:=by
 rcases h with⟨rfl,e,c,b⟩|⟨rfl,_,_,_,_,_,_,b⟩;·exact b.kept.size
 ·exact b.kept.size
def AD(hSO:fB)(hBW:fH)(hBS:fI)(P:Pl)(x:NB)(d:SD)(fs:List FD)(left:Int)(t:Nat)(A:Nat->Prop)(k f e b wa p s q bl v:Int)(a:Option Addr)(j:List Int)(c:Nat)(w:World)(h:gI w P x d fs left (eB t) A)(hB:BG t d)(ht:t<=20000000)(E:fK w a j)(R:∀ad,a=Y ad->¬A ad.block)(M:e_ e)(K:k=1∨k=3)(u:x.5=false):Calls pG 187 #[P0 (Y ⟨P.Nd,0,Z⟩),.agg (mA k f e b wa p s q bl v (J a j.length c))] w λr w'=>qU (jA d k e b p s) P x x.after d fs left t A (⟨k,f,e,b,wa,p,s,q,bl,v,a,c,j⟩:dN) (λok=>({(bif ok then eP d k e b else .nil) with f:=x.id}:iO).ag) r w w':=by
 have z:=((Below.refl w.1.size w).alloc r_ (G (mA k f e b wa p s q bl v (J a j.length c)) 136)).alloc sG (G mz 136);have H:Hid (dI ((w.alloc (G (mA k f e b wa p s q bl v (J a j.length c)) 136)).alloc (G mz 136)) w.1.size (mA k f e b wa p s q bl v (J a j.length c)) 136):=(dI.new _ _ _).old _;have W:Hid (dI ((w.alloc (G (mA k f e b wa p s q bl v (J a j.length c)) 136)).alloc (G mz 136)) (w.1.size+1) mz 136):=by have l:=dI.new (w.alloc (G (mA k f e b wa p s q bl v (J a j.length c)) 136)) mz 136;unfold Hid;simpa using l
 have F:=dF z;have HH:=dF h;have a2:=dF E;have a6:=dF hB;have a9:=dF u;have y:Hid (∀g,w.1.size<=g->¬A g):=λg hg=>h.fresh hg;have a7:=h.tabs.two;have a1:Hid (∀w,gI w P x d fs left (eB t) A->fK w a j->Calls pG 196 #[P0 (Y ⟨P.Nd,0,Z⟩),.agg (mA k f e b wa p s q bl v (J a j.length c))] w λr w'=>qU (jA d k e b p s) P x x.after d fs left t A (⟨k,f,e,b,wa,p,s,q,bl,v,a,c,j⟩:dN) (λok=>(bif ok then eP d k e b else .nil).ag) r w w'):=λw h E=>CW hSO hBW hBS P x d fs left t A k f e b wa p s q bl v a j c w h hB ht E R M K u;clear z h E hB u;go_enter func187,ntmps187;go_upto_region 1 with fail;generalize World.alloc _ _=W0 at*;have ac:=F.size;have Q:=H.cell;have a5:=W.lt;go_wp2_with fail;refine(a1.out W0 (HH.later F) (a2.later F)).mono ?_;rintro r w1 ⟨ok,D,i⟩;dsimp only at D;subst D;have ah:=dF (i.blk H (y.out _ r_));have a0:=dF (i.blk W (y.out _ (Nat.le_succ _)));have O:=dF i;have hn:=i.at;have a3:w1.cell? ⟨P.Nd,0,Z⟩=Y (I x.id):=by have l:=hn.cell 0;simp at l;rw[NB.qm]at l;exact l
 have X:=hn.lt;have a8:=i.size;clear i hn H W Q;generalize ho:(bif ok then eP d k e b else .nil)=o;have HO:=dF ho;clear ho;have n:Hid (dI (w1.alloc (G (mA o.k o.f o.e o.b o.wa o.p o.s o.q o.bl o.v (J Z 0 0)) 136)) w1.1.size (mA o.k o.f o.e o.b o.wa o.p o.s o.q o.bl o.v (J Z 0 0)) 136):=dI.new _ _ _;have U:=dF (a0.old (G (mA o.k o.f o.e o.b o.wa o.p o.s o.q o.bl o.v (J Z 0 0)) 136));have B:Hid (Bw w1 (w1.alloc (G (mA o.k o.f o.e o.b o.wa o.p o.s o.q o.bl o.v (J Z 0 0)) 136))):=a_ _ _;have n0:=(B.cell (p:=⟨P.Nd,0,Z⟩) X).trans a3;go_upto_region 2 with fail;generalize World.alloc _ _=W2 at*;have o1:=n.cell 1;simp at o1;have af:=n.free 1;have V:Hid (dI (W2.setCell ⟨w1.1.size,1,Z⟩ (I x.id)) w1.1.size (mA o.k x.id o.e o.b o.wa o.p o.s o.q o.bl o.v (J Z 0 0)) 136):=by have l:=n.set 1 (I x.id);unfold Hid;simpa using l
 have m:=dF (U.setO (C:=w1.1.size) oG 1 (I x.id));have L:Hid (Bw w1 (W2.setCell ⟨w1.1.size,1,Z⟩ (I x.id))):=iH B r_ _ _;go_upto_region 3 with fail;generalize World.setCell _ _ _=W3 at*;have aa:=V.cell;have ae:=m.cell;have ab:=m.free;have N:=dF (pN W3 (w.1.size+1) (I o.k) (I x.id) (I o.e) (I o.b) (I o.wa) (I o.p) (I o.s) (I o.q) (I o.bl) (I o.v) (J Z 0 0));have S:=dF (m.s11 (I o.k) (I x.id) (I o.e) (I o.b) (I o.wa) (I o.p) (I o.s) (I o.q) (I o.bl) (I o.v) (J Z 0 0));go_wp2;generalize World.setCell _ _ _=W9 at*;obtain⟨q0,q1,q2,q3,q4,q5,q6,q7,q8,q9,a4⟩:=S.c11;exact bodyPost_ret (v:=.agg (mA o.k x.id o.e o.b o.wa o.p o.s o.q o.bl o.v (J Z 0 0))) (by simp[results,results187,go_sem,q0,q1,q2,q3,q4,q5,q6,q7,q8,q9,a4]) rfl ⟨ok,by have l:=HO.out;subst l;rfl,(O.later L).put F N (Nat.le_succ _) oG (y.out _ (Nat.le_succ _)) oG⟩
structure dO where
 op:Int
 bl:Int
 v:Int
 e:Int
 q:Int
def dO.cells(r:dO):List Value:=[I r.op,I r.bl,I r.v,I r.e,I r.q]
def iP(w:World)(o:Option Nat)(l:List Ky):Prop:=(o=none/\l=[])∨∃B,o=some B/\gH w B l
def NB.own(x:NB)(g:Nat):Prop:=x.an=some g∨x.oa=some g∨x.res.ownBlock=some g
structure dP(w:World)(P:Pl)(x:NB)(d:SD)(fs:List FD)(left:Int)(L:Nat)(C:Nat->Prop)(la lo:List Ky)(rs:List dO):Prop where
 nod:∃A,gI w P x d fs left L A/\(∀g,A g->C g)/\(∀g,x.own g->¬A g)
 an:iP w x.an la
 oa:iP w x.oa lo
 ne:∀g,x.an=some g->x.oa≠some g
 row:w.ownsRow P.low 76 5 x.res rs.length (rs.flatMap dO.cells)
 inC:∀g,x.own g->C g
 lt:∀g,C g->2<=g/\g<w.1.size
section
variable {w w' w1 w2:World} {P:Pl} {x x':NB} {d d':SD} {fs fs':List FD} {left left':Int} {L L':Nat} {A A' C C':Nat->Prop} {la lo:List Ky} {rs:List dO}
def iP.same{o:Option Nat}{l:List Ky}(h:iP w o l)(c:∀g,o=some g->w'.1[g]?=w.1[g]?):iP w' o l:=by
 rcases h with h|⟨B,a,b⟩;·exact .inl h
 ·exact .inr ⟨B,a,b.same (c B a)⟩
def dP.same(h:dP w P x d fs left L C la lo rs)(hs:w.1.size<=w'.1.size)(b:∀g,C g->w'.1[g]?=w.1[g]?)(f:dY w'):dP w' P x d fs left L C la lo rs:=by obtain⟨A,e,c,i⟩:=h.1;exact⟨⟨A,e.same hs (λg a=>b g (c g a)) f,c,i⟩,h.an.same (λg a=>b g (h.6 g (.inl a))),h.oa.same (λg a=>b g (h.6 g (.inr (.inl a)))),h.ne,dW h.row (λg a=>b g (h.6 g (.inr (.inr a)))),h.6,λg a=>⟨(h.lt g a).1,Nat.lt_of_lt_of_le (h.lt g a).2 hs⟩⟩
def dP.tabs(h:dP w P x d fs left L C la lo rs):dY w:=by obtain⟨A,a,c,b⟩:=h.1;exact a.tabs
def dP.blk(h:dP w P x d fs left L C la lo rs):dI w P.Nd x.arr 192:=by obtain⟨A,a,c,b⟩:=h.1;exact a.blk
def dP.later(h:dP w P x d fs left L C la lo rs)(a:Bw w w'):dP w' P x d fs left L C la lo rs:=h.same a.size (λg b=>a.block g (h.lt g b).2) (h.tabs.below a h.tabs.two)
def dP.but{X:Nat}(h:dP w P x d fs left L C la lo rs)(a:dM X w w')(c:¬C X)(e:2<=X):dP w' P x d fs left L C la lo rs:=h.same (by rw[a.size];exact Nat.le_refl _) (λg b=>a.block g (λf=>c (f ▸ b))) (h.tabs.below (a.below e) (Nat.le_refl 2))
def dP.fresh{X:Nat}(h:dP w P x d fs left L C la lo rs)(a:w.1.size<=X):¬C X:=λb=>absurd (h.lt X b).2 (Nat.not_lt.2 a)
def dP.nC(h:dP w P x d fs left L C la lo rs):C P.Nd:=by obtain⟨A,a,b,c⟩:=h.1;exact b _ a.nd
def dP.turn(h:dP w P x d fs left L C la lo rs)(e:∀g,A g->C g)(c:∀g,x.own g->¬A g)(m:gI w' P x' d' fs' left' L' A')(f:dR A A' w w')(k:x'.an=x.an)(l:x'.oa=x.oa)(n:x'.res=x.res):dP w' P x' d' fs' left' L' (λg=>C g∨A' g) la lo rs/\dR C (λg=>C g∨A' g) w w':=by
 have j:∀g,x'.own g↔x.own g:=λg=>by unfold NB.own;rw[k,l,n]
 have i:∀g,x.own g->w'.1[g]?=w.1[g]?:=λg a=>f.kept.block g (h.lt g (h.6 g a)).2 (c g a);refine⟨⟨⟨A',m,λg a=>.inr a,λg a o=>?_⟩,?_,?_,?_,?_,λg a=>.inl (h.6 g ((j g).1 a)),?_⟩,⟨f.kept.wide e,?_⟩⟩;·exact f.apart (h.lt g (h.6 g ((j g).1 a))).2 (c g ((j g).1 a)) o
 ·rw[k];exact h.an.same (λg a=>i g (.inl a))
 ·rw[l];exact h.oa.same (λg a=>i g (.inr (.inl a)))
 ·rw[k,l];exact h.ne
 ·rw[n];exact dW h.row (λg a=>i g (.inr (.inr a)))
 ·rintro g (b|b);·exact⟨(h.lt g b).1,Nat.lt_of_lt_of_le (h.lt g b).2 f.kept.size⟩
  ·exact⟨m.two g b,m.lt g b⟩
 ·rintro g (b|b);·exact .inl b
  ·exact(f.2 g b).imp (e g) id
def dP.turn0(h:dP w P x d fs left L C la lo rs)(e:∀g,A g->C g)(c:∀g,x.own g->¬A g)(k:gI w' P x' d' fs' left' L' A')(f:dR A A' w w')(j:x'.an=none)(m:x'.oa=none)(l:x'.res=x.res):dP w' P x' d' fs' left' L' (λg=>C g∨A' g) [] [] rs/\dR C (λg=>C g∨A' g) w w':=by
 have i:∀g,x'.own g->x.own g:=λg b=>by
  rcases b with a|a|a;·rw[j]at a;cases a
  ·rw[m]at a;cases a
  ·exact .inr (.inr (l ▸ a))
 have n:∀g,x.own g->w'.1[g]?=w.1[g]?:=λg b=>f.kept.block g (h.lt g (h.6 g b)).2 (c g b);refine⟨⟨⟨A',k,λg b=>.inr b,λg b o=>?_⟩,.inl ⟨j,rfl⟩,.inl ⟨m,rfl⟩,?_,?_,λg b=>.inl (h.6 g (i g b)),?_⟩,⟨f.kept.wide e,?_⟩⟩;·exact f.apart (h.lt g (h.6 g (i g b))).2 (c g (i g b)) o
 ·intro g b;rw[j]at b;cases b
 ·rw[l];exact dW h.row (λg b=>n g (.inr (.inr b)))
 ·rintro g (a|a);·exact⟨(h.lt g a).1,Nat.lt_of_lt_of_le (h.lt g a).2 f.kept.size⟩
  ·exact⟨k.two g a,k.lt g a⟩
 ·rintro g (a|a);·exact .inl a
  ·exact(f.2 g a).imp (e g) id
def dP.node(h:dP w P x d fs left L C la lo rs)(c:dM P.Nd w w')(k:dI w' P.Nd x'.arr 192)(hs:x'.St=x.St)(e:x'.an=x.an)(j:x'.oa=x.oa)(f:x'.res=x.res):dP w' P x' d fs left L C la lo rs:=by obtain⟨A,i,l,m⟩:=h.1;obtain⟨b,n⟩:=h.turn l m (i.node c k hs) (.node c i.nd) e j f;refine⟨⟨A,i.node c k hs,l,λg a=>m g (by unfold NB.own at a⊢;rw[e,j,f]at a;exact a)⟩,b.an,b.oa,b.ne,b.row,λg a=>h.6 g (by unfold NB.own at a⊢;rw[e,j,f]at a;exact a),λg a=>⟨(h.lt g a).1,by rw[c.size];exact(h.lt g a).2⟩⟩
end
def eQ(P:Pl)(x:NB)(d:SD)(fs:List FD)(left:Int)(t:Nat)(C:Nat->Prop)(la lo:List Ky)(rs:List dO)(m:dN)(ok:Bool)(w w':World):Prop:=∃fs' left' d' C',mB d fs left m ok fs' left' d'/\dP w' P x (bif ok then d'.stepM m else d') fs' left' (eB (t+1)) C' la lo rs/\dR C C' w w'
section
variable {w w0 w1 w2:World} {P:Pl} {x x':NB} {d:SD} {fs:List FD} {left:Int} {t:Nat} {C:Nat->Prop} {la lo:List Ky} {rs:List dO} {m:dN} {ok:Bool}
def eQ.pre(h:eQ P x d fs left t C la lo rs m ok w0 w1)(e:Bw w w0):eQ P x d fs left t C la lo rs m ok w w1:=by obtain⟨fs',left',d',C',b,a,c⟩:=h;exact⟨fs',left',d',C',b,a,c.pre e⟩
def eQ.later(h:eQ P x d fs left t C la lo rs m ok w w1)(a:Bw w1 w2):eQ P x d fs left t C la lo rs m ok w w2:=by obtain⟨fs',left',d',C',c,b,e⟩:=h;exact⟨fs',left',d',C',c,b.later a,e.later a⟩
def eQ.put{X:Nat}(h:eQ P x d fs left t C la lo rs m ok w w1)(c:Bw w0 w)(b:dM X w1 w2)(i:w0.1.size<=X)(k:X<w.1.size)(e:¬C X)(f:2<=X):eQ P x d fs left t C la lo rs m ok w0 w2:=by obtain⟨fs',left',d',C',j,g,a⟩:=h;exact⟨fs',left',d',C',j,g.but b (a.apart k e) f,(a.pre c).but b i⟩
def eQ.at(h:eQ P x d fs left t C la lo rs m ok w w1):dI w1 P.Nd x.arr 192:=by obtain⟨fs',left',d',C',c,a,b⟩:=h;exact a.blk
def eQ.blk{X:Nat}{cs:Array Value}{ty:TypeId}(h:eQ P x d fs left t C la lo rs m ok w w1)(c:dI w X cs ty)(a:¬C X):dI w1 X cs ty:=by obtain⟨fs',left',d',C',f,e,b⟩:=h;exact b.blk c a
end
def dP.saved{w w':World}{P:Pl}{x:NB}{d:SD}{fs:List FD}{left:Int}{L t:Nat}{A C:Nat->Prop}{la lo:List Ky}{rs:List dO}{m:dN}{ok:Bool}{x':NB}(h:dP w P x d fs left L C la lo rs)(b:∀g,A g->C g)(a:∀g,x.own g->¬A g)(hs:i2 P x' d fs left t A m ok w w')(k:x'.an=x.an)(f:x'.oa=x.oa)(l:x'.res=x.res):eQ P x' d fs left t C la lo rs m ok w w':=by obtain⟨fs',left',d',A',n,e,i⟩:=hs;obtain⟨c,j⟩:=h.turn b a e i k f l;exact⟨fs',left',d',_,n,c,j⟩
def dP.jk{w w':World}{P:Pl}{x:NB}{d:SD}{fs:List FD}{left:Int}{L t:Nat}{A C:Nat->Prop}{la lo:List Ky}{rs:List dO}{m:dN}{ok:Bool}{x':NB}(h:dP w P x d fs left L C la lo rs)(b:∀g,A g->C g)(a:∀g,x.own g->¬A g)(hs:i2 P x' d fs left t A m ok w w')(k:x'.an=none)(f:x'.oa=none)(l:x'.res=x.res):eQ P x' d fs left t C [] [] rs m ok w w':=by obtain⟨fs',left',d',A',n,e,i⟩:=hs;obtain⟨c,j⟩:=h.turn0 b a e i k f l;exact⟨fs',left',d',_,n,c,j⟩
section
variable {w w1 w2 w3:World} {P:Pl} {x x':NB} {d:SD} {fs:List FD} {left:Int} {L t:Nat} {C:Nat->Prop} {la lo la' lo':List Ky} {rs rs':List dO} {m:dN} {ok:Bool}
def iP.lt{o:Option Nat}{l:List Ky}{g:Nat}(h:iP w o l)(a:o=some g):g<w.1.size:=by
 rcases h with⟨b,_⟩|⟨B,b,c⟩;·rw[b]at a;cases a
 ·rw[b]at a;cases a;exact c.lt
def iP.node{X:Nat}{cs:Array Value}{ty:TypeId}{o:Option Nat}{l:List Ky}(h:iP w o l)(c:dI w X cs ty)(d:dM X w w1):iP w1 o l:=by
 rcases h with h|⟨B,b,a⟩;·exact .inl h
 ·exact .inr ⟨B,b,a.same (d.block B (a.ne c))⟩
def gI.nodeK{A:Nat->Prop}(h:gI w P x d fs left L A)(e:dQ (λg=>g=P.Nd) w w1)(n:dI w1 P.Nd x'.arr 192)(hs:x'.St=x.St):gI w1 P x' d fs left L A:=by obtain⟨vr,k,j,a,l⟩:=h.ex;have f:∀g,kW x.St vr P.Mp P.S k g->w1.1[g]?=w.1[g]?:=λg b=>e.block g (h.lt g (l g b)) (λc=>rR j a h.blk dG dG dG dG (c ▸ b));have o:w1.1[P.D]?=w.1[P.D]?:=e.block _ (h.lt _ h.pd) (λc=>by have i:=a.hands.d;rw[c,h.blk.blk]at i;simp at i);have m:w1.1[P.H]?=w.1[P.H]?:=e.block _ (h.lt _ h.ph) (λc=>by have i:=a.hands.h;rw[c,h.blk.blk]at i;simp at i);refine⟨n,⟨vr,k,?_,⟨a.hands.later o m,a.ds.kept (f _ (.inr (.inr (.inr (.inl rfl))))) (λg b=>f g (.inr (.inr (.inr (.inr b))))),a.dS,a.hS,a.lf,a.fl,a.bd⟩,by rw[hs];exact l⟩,h.nd,h.pd,h.ph,h.two,λg b=>Nat.lt_of_lt_of_le (h.lt g b) e.size,Nat.le_trans h.low e.size,h.tabs.kept e (λc=>absurd (h.two _ h.nd) oG) (λc=>absurd (h.two _ h.nd) oG)⟩;rw[hs];exact⟨j.blk.same (f _ (.inl rfl)),dW j.ji (λg b=>f g (.inr (.inr (.inl b)))),j.jg.same (f _ (.inr (.inl rfl)))⟩
def dP.reset(h:dP w1 P x d fs left L C la lo rs)(l:dQ (λg=>g=P.Nd) w1 w3)(q:dI w3 P.Nd x'.arr 192)(hs:x'.St=x.St)(b:∀g,x'.own g->x.own g∨w1.1.size<=g)(i:iP w3 x'.an la')(f:iP w3 x'.oa lo')(k:∀g,x'.an=some g->x'.oa≠some g)(c:w3.ownsRow P.low 76 5 x'.res rs'.length (rs'.flatMap dO.cells)):dP w3 P x' d fs left L (λg=>C g∨x'.own g) la' lo' rs'/\dR C (λg=>C g∨x'.own g) w1 w3:=by
 obtain⟨A,n,p,r⟩:=h.1;have j:∀g,x'.own g->g<w3.1.size:=by
  rintro g (a|a|a);·exact i.lt a
  ·exact f.lt a
  ·exact(c.lt g a).2
 refine⟨⟨⟨A,n.nodeK l q hs,λg e=>.inl (p g e),λg e o=>?_⟩,i,f,k,c,λg e=>.inr e,?_⟩,?_,?_⟩
 ·rcases b g e with a|a;·exact r g a o
  ·exact absurd (n.lt g o) (Nat.not_lt.2 a)
 ·rintro g (a|a);·exact⟨(h.lt g a).1,Nat.lt_of_lt_of_le (h.lt g a).2 l.size⟩
  ·refine⟨?_,j g a⟩;rcases b g a with m|m;·exact(h.lt g (h.6 g m)).1
   ·have:=h.tabs.two;omega
 ·exact l.wide (λg e=>e ▸ h.nC)
 ·rintro g (a|a);·exact .inl a
  ·exact(b g a).imp (h.6 g) id
def eQ.reset(h:eQ P x d fs left t C la lo rs m ok w w1)(l:dQ (λg=>g=P.Nd) w1 w3)(j:dI w3 P.Nd x'.arr 192)(hs:x'.St=x.St)(b:∀g,x'.own g->x.own g∨w1.1.size<=g)(f:iP w3 x'.an la')(c:iP w3 x'.oa lo')(e:∀g,x'.an=some g->x'.oa≠some g)(a:w3.ownsRow P.low 76 5 x'.res rs'.length (rs'.flatMap dO.cells)):eQ P x' d fs left t C la' lo' rs' m ok w w3:=by obtain⟨fs',left',d',C',k,o,p⟩:=h;obtain⟨i,n⟩:=o.reset l j hs b f c e a;exact⟨fs',left',d',_,k,i,p.trans n⟩
def eQ.oa(h:eQ P x d fs left t C la lo rs m ok w w1)(e:dQ (λg=>g=P.Nd) w1 w3):iP w3 x.oa lo:=by
 obtain⟨fs',left',d',C',l,b,k⟩:=h;have j:=b.blk;exact b.oa.same (λg a=>e.block g (b.oa.lt a) (λf=>by
  rcases b.oa with⟨c,_⟩|⟨B,c,i⟩;·rw[c]at a;cases a
  ·rw[c]at a;cases a;exact i.ne j f))
def eQ.row(h:eQ P x d fs left t C la lo rs m ok w w1)(f:dQ (λg=>g=P.Nd) w1 w3):w3.ownsRow P.low 76 5 x.res rs.length (rs.flatMap dO.cells):=by obtain⟨fs',left',d',C',l,a,k⟩:=h;have j:=a.blk.blk;exact dW a.row (λg c=>f.block g (a.row.lt g c).2 (λi=>by obtain⟨e,b⟩:=fC a.row c;rw[i,j]at b;simp at b))
def eQ.lt(h:eQ P x d fs left t C la lo rs m ok w w1){g:Nat}(b:x.own g):g<w1.1.size:=by obtain⟨fs',left',d',C',e,a,c⟩:=h;exact(a.lt g (a.6 g b)).2
def dQ.jv{B X:Nat}{cs:Array Value}{ty:TypeId}(b:dQ (λg=>g=B) w w1)(a:dI w X cs ty)(h:X≠B):dI w1 X cs ty:=a.same (b.block X a.lt h)
def dP.lu{B:Nat}{m:List Ky}(h:dP w P x d fs left L C la lo rs)(b:x.an=some B)(f:dQ (λg=>g=B) w w1)(q:gH w1 B m):dP w1 P x d fs left L C m lo rs:=by
 obtain⟨A,n,p,k⟩:=h.1;have c:∀g,g<w.1.size->g≠B->w1.1[g]?=w.1[g]?:=λg a j=>f.block g a j;refine⟨⟨A,n.same f.size (λg a=>c g (n.lt g a) (λe=>k g (.inl (e ▸ b)) a)) (h.tabs.kept f (λe=>absurd (h.lt B (h.6 B (.inl b))).1 oG) (λe=>absurd (h.lt B (h.6 B (.inl b))).1 oG)),p,k⟩,.inr ⟨B,b,q⟩,h.oa.same (λg a=>c g (h.oa.lt a) (λe=>h.ne g (e ▸ b) a)),h.ne,dW h.row (λg a=>c g (h.row.lt g a).2 (λe=>?_)),h.6,λg a=>⟨(h.lt g a).1,Nat.lt_of_lt_of_le (h.lt g a).2 f.size⟩⟩;obtain⟨o,r⟩:=fC h.row a;rcases h.an with⟨i,_⟩|⟨u,i,t⟩;·rw[i]at b;cases b
 ·rw[i]at b;cases b;obtain⟨es,s,l,_⟩:=t.1;rw[←e,r]at l;simp at l
def dP.addOa{B:Nat}{m:List Ky}(h:dP w P x d fs left L C la lo rs)(b:x.oa=some B)(f:dQ (λg=>g=B) w w1)(q:gH w1 B m):dP w1 P x d fs left L C la m rs:=by
 obtain⟨A,n,p,k⟩:=h.1;have c:∀g,g<w.1.size->g≠B->w1.1[g]?=w.1[g]?:=λg a j=>f.block g a j;refine⟨⟨A,n.same f.size (λg a=>c g (n.lt g a) (λe=>k g (.inr (.inl (e ▸ b))) a)) (h.tabs.kept f (λe=>absurd (h.lt B (h.6 B (.inr (.inl b)))).1 oG) (λe=>absurd (h.lt B (h.6 B (.inr (.inl b)))).1 oG)),p,k⟩,h.an.same (λg a=>c g (h.an.lt a) (λe=>h.ne g a (e ▸ b))),.inr ⟨B,b,q⟩,h.ne,dW h.row (λg a=>c g (h.row.lt g a).2 (λe=>?_)),h.6,λg a=>⟨(h.lt g a).1,Nat.lt_of_lt_of_le (h.lt g a).2 f.size⟩⟩;obtain⟨o,r⟩:=fC h.row a;rcases h.oa with⟨i,_⟩|⟨u,i,t⟩;·rw[i]at b;cases b
 ·rw[i]at b;cases b;obtain⟨es,s,l,_⟩:=t.1;rw[←e,r]at l;simp at l
def eQ.lu{B:Nat}{e:List Ky}(h:eQ P x d fs left t C la lo rs m ok w w1)(f:x.an=some B)(b:dQ (λg=>g=B) w1 w2)(i:gH w2 B e):eQ P x d fs left t C e lo rs m ok w w2:=by obtain⟨fs',left',d',C',k,c,j⟩:=h;refine⟨fs',left',d',C',k,c.lu f b i,j.trans ⟨b.wide (λg a=>a ▸ c.6 B (.inl f)),λ_ a=>.inl a⟩⟩
end
def nN(k:Nat)(f:Int)(a:List Int)(b:1<=k/\k<=10)(c:0<=f/\f<5)(h:iS k a=true):fP (k:Int) f a=true:=by
 unfold fP;rw[Int.toNat_natCast,h];have:oN (k:Int) f=false:=by unfold oN;simp;omega
 rw[this];rfl
def rZ(f e p s:Int)(b:0<=f/\f<5)(c:e_ e)(a:0<=p/\p<=5)(hs:0<=s/\s<=31):fP 6 f [0,e,0,0,p,s,0,0,0,0]=true:=nN 6 f _ oG b ((oD e 0 0 p s 0 0 0 0).2 ⟨c,a,hs,rfl,rfl,rfl,rfl,rfl,rfl⟩)
def SE(f e b wa:Int)(c:0<=f/\f<5)(g:e_ e)(d:e_ b)(a:e_ wa):fP 5 f [0,e,b,wa,0,0,0,0,0,0]=true:=nN 5 f _ oG c ((tB e b wa 0 0 0 0 0 0).2 ⟨g,d,a,rfl,rfl,rfl,rfl,rfl,rfl⟩)
def SF(f e b:Int)(a:0<=f/\f<5)(d:e_ e)(c:e_ b):fP 4 f [0,e,b,0,0,0,0,0,0,0]=true:=nN 4 f _ oG a ((tA e b 0 0 0 0 0 0 0).2 ⟨d,c,rfl,rfl,rfl,rfl,rfl,rfl,rfl⟩)
def SG(f e b wa p s:Int)(d:0<=f/\f<5)(g:e_ e)(h:e_ b)(a:e_ wa)(c:0<=p/\p<=5)(hs:0<=s/\s<=31):fP 2 f [0,e,b,wa,p,s,0,0,0,0]=true:=nN 2 f _ oG d ((sZ e b wa p s 0 0 0 0).2 ⟨g,h,a,c,hs,rfl,rfl,rfl,rfl⟩)
def SH(f e q:Int)(a:0<=f/\f<5)(c:e_ e)(b:e_ q):fP 8 f [0,e,0,0,0,0,q,0,0,0]=true:=nN 8 f _ oG a ((tC e 0 0 0 0 q 0 0 0).2 ⟨c,b,rfl,rfl,rfl,rfl,rfl,rfl,rfl⟩)
def Q2(f e q:Int)(a:0<=f/\f<5)(c:e_ e)(b:e_ q):fP 10 f [0,e,0,0,0,0,q,0,0,0]=true:=nN 10 f _ oG a ((uI e 0 0 0 0 q 0 0 0).2 ⟨c,b,rfl,rfl,rfl,rfl,rfl,rfl,rfl⟩)
def sA(f e b:Int)(a:0<=f/\f<5)(d:e_ e)(c:e_ b):fP 1 f [0,e,b,0,0,0,0,0,0,0]=true:=nN 1 f _ oG a ((nQ e b 0 0 0 0 0 0 0).2 ⟨d,c,rfl,rfl,rfl,rfl,rfl,rfl,rfl⟩)
def vT(f e b p s:Int)(c:0<=f/\f<5)(d:e_ e)(g:e_ b)(a:0<=p/\p<=5)(hs:0<=s/\s<=31):fP 3 f [0,e,b,0,p,s,0,0,0,0]=true:=nN 3 f _ oG c ((nR e b 0 p s 0 0 0 0).2 ⟨d,g,a,hs,rfl,rfl,rfl,rfl,rfl⟩)
section
variable {P:Program} {ops:Array Oper} {Q:Exit->Act->World->Prop} {md:Region.Mode} {S:World->Prop} {fuel:Nat} {listed:Array Bool} {a:Act} {w:World}
def dH(i:Nat){b:Oper}{e:Tmp}{v:Value}{g:Act}(h:wpAnyH P md ops Q S fuel (listed.setIfInBounds i true) g w)(hi:ops[i]?=some b:=by exact rfl)(f:b.dst=some e:=by exact rfl)(hs:Region.noSelect ops=true:=by kernel_rfl)(j:Region.free md ops listed i=true:=by kernel_rfl)(k:(Region.ready md ops listed).contains i=true:=by kernel_rfl)(m:Region.wanted b (yielded ops a.tmps)=true:=by kernel_rfl)(hy:∀w,S w->(execOp a.eval b).run P w=.ok (.value v) w:=by intro w d;(try dsimp only at d);go_simp;(try with_reducible rfl))(l:∀c a w,Q (.panic c) (a.put (some e) v) w->Q (.panic c) a w:=by exact λ_ _ _ h=>h)(hS:S w:=by assumption)(n:a.put (some e) v=g:=by(try simp only[qs]);exact rfl):wpAnyH P md ops Q S (fuel+1) listed a w:=wpAnyH_take hi hs j k (f ▸ l) (.inl ⟨m,hy⟩) hS (by rw[f,n];exact h)
def Q3{c:Oper}(ty:TypeId)(y:Operand)(g:c.op=.load ty y)(b o:Nat)(j:a.eval y=.pointer (some ⟨b,o,none⟩))(cs:List Value)(d:TypeDesc)(i:w.rangeAt b o cs)(h:P.underlying ty=some d)(e:d.isRow=true)(hi:(P.info? ty).map (·.size)=some cs.length):(execOp a.eval c).run P w=.ok (.value (.agg cs.toArray)) w:=by have f:=run_loadAt_mid (P:=P) w b o ty cs d i h e hi;simp[execOp,g,j,f]
def dI.range{B:Nat}{arr:Array Value}{ty:TypeId}{o:Nat}{cs:List Value}(h:dI w B arr ty)(b:(arr.toList.drop o).take cs.length=cs):w.rangeAt B o cs:=by intro j v a;rw[h.cell];have c:j<cs.length:=(List.getElem?_eq_some_iff.1 a).1;rw[←b,List.getElem?_take]at a;simpa[c] using a
def i4(i b o:Nat)(cs:List Value){e:Oper}{j:Tmp}{ty:TypeId}{y:Operand}{d:TypeDesc}{l:Act}(h:wpAnyH P md ops Q S fuel (listed.setIfInBounds i true) l w)(x:∀w,S w->w.rangeAt b o cs)(hi:ops[i]?=some e:=by exact rfl)(n:e.op=.load ty y:=by exact rfl)(t:a.eval y=.pointer (some ⟨b,o,none⟩):=by kernel_rfl)(q:P.underlying ty=some d:=by exact rfl)(f:d.isRow=true:=by rfl)(u:(P.info? ty).map (·.size)=some cs.length:=by kernel_rfl)(k:e.dst=some j:=by exact rfl)(hs:Region.noSelect ops=true:=by kernel_rfl)(m:Region.free md ops listed i=true:=by kernel_rfl)(p:(Region.ready md ops listed).contains i=true:=by kernel_rfl)(r:Region.wanted e (yielded ops a.tmps)=true:=by kernel_rfl)(s:∀c a w,Q (.panic c) (a.put (some j) (.agg cs.toArray)) w->Q (.panic c) a w:=by exact λ_ _ _ h=>h)(hS:S w:=by assumption)(v:a.put (some j) (.agg cs.toArray)=l:=by(try simp only[qs]);exact rfl):wpAnyH P md ops Q S (fuel+1) listed a w:=wpAnyH_take hi hs m p (k ▸ s) (.inl ⟨r,λw g=>Q3 ty y n b o t cs d (x w g) q f u⟩) hS (by rw[k,v];exact h)
end
def eQ.tabs{w w1:World}{P:Pl}{x:NB}{d:SD}{fs:List FD}{left:Int}{t:Nat}{C:Nat->Prop}{la lo:List Ky}{rs:List dO}{m:dN}{ok:Bool}(h:eQ P x d fs left t C la lo rs m ok w w1):dY w1:=by obtain⟨_,_,_,_,_,a,_⟩:=h;exact a.tabs
def eQ.size{w w1:World}{P:Pl}{x:NB}{d:SD}{fs:List FD}{left:Int}{t:Nat}{C:Nat->Prop}{la lo:List Ky}{rs:List dO}{m:dN}{ok:Bool}(h:eQ P x d fs left t C la lo rs m ok w w1):w.1.size<=w1.1.size:=by obtain⟨_,_,_,_,_,_,a⟩:=h;exact a.kept.size
def dZ.shape{w:World}{base:Nat}{l:Value}{ps:List (Int×List UInt8)}(h:dZ w base l ps):∃a n c,l=J a n c:=by obtain⟨cs,b,_⟩:=h;obtain⟨a,c,d⟩:=eK b;exact⟨a,_,c,d⟩
def dM.self(X:Nat)(a:World):dM X a a:=⟨rfl,rfl,rfl,rfl,λ_ _=>rfl⟩
def uU(n i:Int)(c:2<=n/\n<=5)(hi:0<=i/\i<n):(0:Int)<=2^n.toNat - 1 - 2^i.toNat/\(2:Int)^n.toNat - 1 - 2^i.toNat<=31:=by have a:n=2∨n=3∨n=4∨n=5:=oG;have b:i=0∨i=1∨i=2∨i=3∨i=4:=oG;rcases a with rfl|rfl|rfl|rfl<;>rcases b with rfl|rfl|rfl|rfl|rfl<;>first|omega|decide
def tI(a rf id:Int)(d:0<=a)(f:0<=rf)(b:0<=id):a<kF a rf id/\rf<kF a rf id/\0<kF a rf id:=by unfold kF;have c:a<=max a rf:=Int.le_max_left _ _;have e:rf<=max a rf:=Int.le_max_right _ _;generalize max a rf=l at*;split<;>omega
def wM(d:SD)(b:Int)(a:¬b<(dJ d.3 d.ep).pr):eP d 1 d.ep b=⟨2,0,d.ep,b,(dJ d.3 d.ep).ac,(dJ d.3 d.ep).pm,(dJ d.3 d.ep).st,0,0,0⟩:=by simp only[eP,if_neg (show¬d.ep<d.ep by omega),if_neg a,if_neg (show¬(1:Int)=3 by omega)]
def A9(d:SD)(b:Int)(e:(dJ d.3 d.ep).pr<b):jA d 1 d.ep b 0 0=true:=by have a:¬b<(dJ d.3 d.ep).pr:=oG;have c:¬b=(dJ d.3 d.ep).pr:=oG;simp[jA,PV.after,PV.nk,a,c]
end Go.Proofs.YtdcainmlcpafbaaGreatDoor
