import Derived.Test.YtdcainmlcpafbaaGreatDoorJ19
set_option linter.all false
set_option maxHeartbeats 8000000
set_option maxRecDepth 20000
namespace Go.Proofs.YtdcainmlcpafbaaGreatDoor
open Go.RowKit
open Value renaming slice->J,pointer->P0
open Tryz
open Tryz renaming prog->pG
open IntKind renaming i64->T
open Option renaming none->Z,some->Y
open Obj renaming cells->G
open Value (bool)
def C4(k f e b wa p s q bl v:Int)(a:List Int)(c:fH k f [0,e,b,wa,p,s,q,bl,v,(a.length:Int)]=true)(n:∀z∈a,i_ z):oA (gO k f e b wa p s q bl v a) k f e b wa p s q bl v a 0:=by
 obtain⟨u,o,r,t,w⟩:=qT c;have m:iO k.toNat [0,e,b,wa,p,s,q,bl,v,(a.length:Int)]=true:=by unfold fH at c;simp at c;exact c.2
 obtain⟨h,i,g,j⟩:=round k.toNat f.toNat e b wa p s q bl v a oG oG oG m n;have l:((k.toNat:Nat):Int)=k:=oG;have d:((f.toNat:Nat):Int)=f:=oG;refine .inl ⟨?_,?_,?_,g,j.symm,rfl⟩;·unfold lT rM qB gO;rw[h,i,g,j,l,d,c];simp
 ·unfold gO;rw[h,l]
 ·unfold gO;rw[i,d]
def K6(low D H S:Nat)(d:Value)(fs:List FD)(left n:Int)(w:World)(c:fQ w D H S)(b:DS 98 107 low w S d fs left)(k:0<=n):Calls pG 44 #[P0 (Y ⟨H,0,Z⟩),I n] w λr w'=>r=.returned (.tuple #[])/\w'.heap[S]?=Y (.cells #[d,I (bif left==0 then 0 else n)] 98 (0,0))/\dI S w w':=by
 have ch:w.cell? ⟨H,0,Z⟩=Y (P0 (Y ⟨S,0,Z⟩)):=by simp[World.cell?,c.h]
 have s1:=b.cell 1;simp at s1;have l:=b.free 1;have e:=dA b.st;have j:max (-1) n=n:=oG;clear c;by_cases a:left=0;·subst a;go_enter func44,ntmps44;go_wp2;refine bodyPost_end (v:=.tuple #[]) (by simp[results,results44,go_sem]) rfl ?_;exact⟨rfl,e,dI.self _ _⟩
 have f:(left != 0)=true:=by simpa using a
 have i:Hid ((left==0)=false):=by unfold Hid;simpa using a
 clear a;go_enter func44,ntmps44;go_wp2;refine bodyPost_end (v:=.tuple #[]) (by simp[results,results44,go_sem]) rfl ?_;refine⟨rfl,?_,dI.setCell w ⟨S,1,Z⟩ _⟩;rw[i.out];have g:=e.out;simp[World.setCell,Array.getElem?_modify,g]
def K7(P:Pl)(x:NB)(d:SD)(fs:List FD)(left:Int)(L t:Nat)(C:Nat->Prop)(la lo:List Ky)(rs:List dJ)(w:World)(h:dO w P x d fs left L C la lo rs)(l:BG t d)(s:t<=1000000):Calls pG 62 #[P0 (Y ⟨P.Nd,0,Z⟩)] w λr w'=>∃v,r=.returned v/\w'.ownsRow w.heap.size 66 3 v d.recs.length (d.recs.flatMap eH.cells)/\Below w.heap.size w w':=by
 obtain⟨A,f,q,k⟩:=h.nod;obtain⟨vr,u,b,i,j⟩:=f.ex;have c:=l.ne;have m:=l.recs;have c3:=h.blk.cell 3;simp at c3;have a:Calls pG 94 #[P0 (Y ⟨x.St,0,Z⟩)] w λr w'=>∃v,r=.returned v/\w'.ownsRow w.heap.size 66 3 v d.recs.length (d.recs.flatMap eH.cells)/\Below w.heap.size w w':=by have o:=b.blk.cell 1;simp at o;have n:=dA (eL.gy b.rcs);clear h f b i j c3;go_enter func94,ntmps94;go_wp2_with(go_at_call 152;refine(IC d.recs vr w n c oG).mono ?_;rintro r w1 ⟨v,rfl,g,e⟩);go_ret;exact⟨_,rfl,g,e⟩
 have p:=dA a;have s0:=b.blk.cell 0;simp at s0;clear h f b i j a;go_enter func62,ntmps62;go_wp2_with(go_at_call 94;refine p.mono ?_;rintro r w1 ⟨v,rfl,g,e⟩);go_ret;exact⟨_,rfl,g,e⟩
def qS(c:List UInt8)(vb:Value)(w:World)(t:dW w)(A:gK w w.heap.size vb c)(k f r s i j h n o q:Int)(a:List Int)(v:oA c k f r s i j h n o q a 0):Calls pG 158 #[vb] w λe w'=>∃la b,e=.returned (.tuple #[.agg (mA k f r s i j h n o q (J la a.length b)),I 0])/\fI w' w.heap.size (J la a.length b) a/\qA (J la a.length b) a/\Below w.heap.size w w':=by
 refine(G5 c vb w t A).mono ?_;rintro e w' ⟨u,z⟩;rcases v with⟨y,rfl,rfl,x,rfl,_⟩|⟨_,_,_,_,_,_,_,_,_,_,_,_,B⟩
 ·rcases z with⟨_,m1,D,E,L,K,C,H,F,l,rfl,g,m,d⟩|⟨p,_⟩;·rw[x]at g;simp only[List.cons.injEq,true_and,and_true]at g;obtain⟨rfl,rfl,rfl,rfl,rfl,rfl,rfl,rfl⟩:=g;obtain⟨la,b,rfl⟩:=dZ m;exact⟨la,b,rfl,m,d,u⟩
  ·rw[y]at p;exact absurd p dG
 ·exact absurd B oG
def qY{w:World}{base:Nat}{e:TypeId}{size n:Nat}{v:Value}{xs:List Value}(h:w.ownsRow base e size v n xs){g:Nat}(a:v.ownBlock=Y g):g<w.heap.size:=(h.lt g a).2
def Q8:Nat->Ending->Value->Prop
 |0,r,l=>r=.returned l
 |1,r,l=>r=.returned (.tuple #[])/\l=J Z 0 0
 |_,r,l=>(∃b,r=.returned (.bool b))/\l=J Z 0 0
def rI(k:Int)(j c:Nat)(hk:(k=2/\j=197/\c=0)∨(k=4/\j=198/\c=0)∨(k=10/\j=203/\c=0)∨(k=5/\j=199/\c=1)∨(k=8/\j=202/\c=1)∨(k=6/\j=200/\c=2))(Nd:Nat)(x:NB)(K:List UInt8)(vb:Value)(f e b wa p s q bl v:Int)(a:List Int)(w:World)(hn:dC w Nd x.arr 192)(ht:dW w)(i:gK w w.heap.size vb K)(hD:oA K k f e b wa p s q bl v a 0)(u:x.down=false)(a1:(f==x.id)=false)(a0:decide (x.nodes<=f)=false)(Q:Value->World->Prop)(hC:∀W la d,Below w.heap.size w W->fI W w.heap.size (J la a.length d) a->qA (J la a.length d) a->Calls pG j #[P0 (Y ⟨Nd,0,Z⟩),.agg (mA k f e b wa p s q bl v (J la a.length d))] W λr W1=>∃l,Q8 c r l/\Q l W1):Calls pG 143 #[P0 (Y ⟨Nd,0,Z⟩),vb] w λr w'=>∃l,r=.returned l/\Q l w':=by
 have HC:=dA hC;have n:=dA hn;have z:=dA (qS K vb w ht i k f e b wa p s q bl v a hD);have U:=dA u;clear hC hn ht i hD u;go_enter func143,ntmps143;go_wp2_with fail;refine z.mono ?_;rintro r w1 ⟨la,d,rfl,C,D,m⟩;have B:=m.size;have H:=dA (dC.new w1 (mA k f e b wa p s q bl v (J la a.length d)) 136);have E:Hid (Below w.heap.size w (w1.alloc (G (mA k f e b wa p s q bl v (J la a.length d)) 136))):=m.alloc B _;have R:Hid (fI (w1.alloc (G (mA k f e b wa p s q bl v (J la a.length d)) 136)) w.heap.size (J la a.length d) a):=World.ownsRow.alloc C _;have F:=dA (n.later E);have M:=dA D;clear C m D z n;go_upto_region 2 with fail;generalize World.alloc _ _=W0 at*;generalize w1.heap.size=X at*;have hX:w.heap.size<=X:=B;have t:=E.size;have m1:=H.cell 1;have c0:=F.cell 0;have c1:=F.cell 1;have V:=F.cell 4;simp at m1 c0 c1 V;rw[U.out]at V;go_cut [37] (λs37 wx=>s37=.bool false/\Below W0.heap.size W0 wx);case first=>go_quiet (fail);go_wp2_with fail;go_meet;exact⟨rfl,below_drewN b_ _⟩
 obtain⟨rfl,h⟩:=hcut;obtain⟨W3,S⟩:∃y,y=wc:=⟨_,rfl⟩;subst S;have L:=dA (E.trans (h.mono t));have A:=dA (H.later h);have N:=dA (dQ R (λg hg=>h.block g (qY R hg)));clear h E H F R t m1 c0 c1 V;have O:=dA (A.range (o:=0) (cs:=[I k,I f,I e,I b,I wa,I p,I s,I q,I bl,I v,J la a.length d]) rfl);have m0:=A.cell 0;simp at m0;rcases hk with⟨rfl,rfl,rfl⟩|⟨rfl,rfl,rfl⟩|⟨rfl,rfl,rfl⟩|⟨rfl,rfl,rfl⟩|⟨rfl,rfl,rfl⟩|⟨rfl,rfl,rfl⟩;all_goals
  go_wp2_with(refine wpList_load_mid rfl 136 _ rfl X 0 rfl [I _,I f,I e,I b,I wa,I p,I s,I q,I bl,I v,J la a.length d] _ O underlying136 rfl kG ?_)
  refine(HC.out W3 la d L N M).mono ?_
  rintro r w4 ⟨l,i,hq⟩
  clear m0
  first|(have i:r=.returned l:=i;subst i)|(obtain⟨⟨bb,rfl⟩,rfl⟩:=i)|(obtain⟨rfl,rfl⟩:=i)
  go_wp2
  go_ret
  exact⟨_,rfl,hq⟩
def u4(k:Int)(M:Nat)(hk:(k=1/\M=196)∨(k=3/\M=196)∨(k=7/\M=201)∨(k=9/\M=201))(Nd:Nat)(x:NB)(bs:List UInt8)(vb:Value)(f e b wa p s q bl v:Int)(a:List Int)(w:World)(hn:dC w Nd x.arr 192)(ht:dW w)(hr:gK w w.heap.size vb bs)(hD:oA bs k f e b wa p s q bl v a 0)(F:x.down=false)(a7:(f==x.id)=false)(a5:decide (x.nodes<=f)=false)(Q:Value->World->Prop)(hC:∀W X la c,Below w.heap.size w W->w.heap.size<=X->dC W X (mA k f e b wa p s q bl v (J la a.length c)) 136->fI W w.heap.size (J la a.length c) a->Calls pG M #[P0 (Y ⟨Nd,0,Z⟩),.agg (mA k f e b wa p s q bl v (J la a.length c))] W λr W1=>∃m:iJ,r=.returned m.ag/\dC W1 X (mA k f e b wa p s q bl v (J la a.length c)) 136/\Calls pG 195 #[P0 (Y ⟨Nd,0,Z⟩),.agg (mA k f e b wa p s q bl v (J la a.length c)),m.ag] W1 λr2 W2=>∃l,r2=.returned l/\dC W2 X (mA k f e b wa p s q bl v (J la a.length c)) 136/\Q l W2):Calls pG 143 #[P0 (Y ⟨Nd,0,Z⟩),vb] w λr w'=>∃l,r=.returned l/\Q l w':=by
 have HC:=dA hC;have t:=dA hn;have z:=dA (qS bs vb w ht hr k f e b wa p s q bl v a hD);have a1:=dA F;clear hC hn ht hr hD F;go_enter func143,ntmps143;go_wp2_with fail;refine z.mono ?_;rintro r w1 ⟨la,c,rfl,C,H,n⟩;have B:=n.size;have R:=dA (dC.new w1 (mA k f e b wa p s q bl v (J la a.length c)) 136);have O:Hid (Below w.heap.size w (w1.alloc (G (mA k f e b wa p s q bl v (J la a.length c)) 136))):=n.alloc B _;have HO:Hid (fI (w1.alloc (G (mA k f e b wa p s q bl v (J la a.length c)) 136)) w.heap.size (J la a.length c) a):=World.ownsRow.alloc C _;have N:=dA (t.later O);have a4:=dA H;clear C n H z t;go_upto_region 2 with fail;generalize World.alloc _ _=W0 at*;generalize w1.heap.size=X at*;have hX:w.heap.size<=X:=B;have E:=O.size;have m1:=R.cell 1;have c0:=N.cell 0;have c1:=N.cell 1;have c4:=N.cell 4;simp at m1 c0 c1 c4;rw[a1.out]at c4;go_cut [37] (λs37 wx=>s37=.bool false/\Below W0.heap.size W0 wx);case first=>go_quiet (fail);go_wp2_with fail;go_meet;exact⟨rfl,below_drewN b_ _⟩
 obtain⟨rfl,d⟩:=hcut;obtain⟨W3,a0⟩:∃y,y=wc:=⟨_,rfl⟩;subst a0;have V:=dA (O.trans (d.mono E));have h:=dA (R.later d);have a3:=dA (dQ HO (λg hg=>d.block g (qY HO hg)));clear d O R N HO E m1 c0 c1 c4;have a6:=dA (h.range (o:=0) (cs:=[I k,I f,I e,I b,I wa,I p,I s,I q,I bl,I v,J la a.length c]) rfl);have m0:=h.cell 0;simp at m0;rcases hk with⟨rfl,rfl⟩|⟨rfl,rfl⟩|⟨rfl,rfl⟩|⟨rfl,rfl⟩;iterate 2
  go_upto_region 7 with fail
  rotate_left
 iterate 2
  go_upto_region 18 with fail
  rotate_left
 all_goals
  clear m0
  refine eY (S:=(λw'=>dC w' X (mA _ f e b wa p s q bl v (J la a.length c)) 136)) (λ_=>?_) (hS:=h.drew)
  refine dB 0 ?_;refine i8 1 X 0 [I _,I f,I e,I b,I wa,I p,I s,I q,I bl,I v,J la a.length c] ?_ (λw j=>j.range rfl);refine dB 2 ?_;refine i8 3 X 0 [I _,I f,I e,I b,I wa,I p,I s,I q,I bl,I v,J la a.length c] ?_ (λw j=>j.range rfl)
  refine dF 4 λK i=>?_
  (try go_simp)
  first|go_at_call 196|go_at_call 201
  refine(HC.out W3.drew X la c V.drew hX h.drew (dQ a3 (λ_ _=>rfl))).mono ?_
  rintro r w4 ⟨m,rfl,A,L⟩
  have U:=dA A;have a2:=dA L
  clear A L
  refine k1 i (λ_=>?_) U
  clear i K
  refine dF 5 λK i=>?_
  (try go_simp)
  go_at_call 195
  refine Calls.mono a2 ?_
  rintro r w5 ⟨l,rfl,D,hq⟩
  have u:=dA D
  clear D
  refine k1 i (λ_=>?_) u
  clear i K
  refine dF 6 λK i=>?_
  (try go_simp)
  refine k1 i (λ_=>?_) u
  clear i K
  refine dn ?_
  go_wp2
  go_ret
  exact⟨_,rfl,hq⟩
def rC(n:Nat):List Nat->Nat
 | []=>0
 |F::l=>(if F=0 then 0 else if F=9 then 1+8*n else 8)+rC n l
def K8(a b:List Int)(l:List Nat):(l.flatMap (jJ a b)).length=rC b.length l:=by
 induction l with
 |nil=>rfl
 |cons F l ih=>
  rw[List.flatMap_cons,List.length_append,ih,rC];congr 1;unfold jJ;split;·rfl
  split;·rw[List.length_append,vG,lP]
  ·rw[lP]
def K9(n:Nat)(a:n<=4):∀l:List Nat,rC n l<=33*l.length:=by
 intro l;induction l with
 |nil=>simp[rC]
 |cons F l ih=>
  rw[rC,List.length_cons];split;·omega
  split<;>omega
def AW(w:World)(s:ByteArray)(hs:s.size<=maxLen)(a:Nat×Nat):gK (w.alloc (Obj.cells (bytesRow s (grownCap w s.size 0 5)) 5 a)).drew (w.alloc (Obj.cells (bytesRow s (grownCap w s.size 0 5)) 5 a)).drew.heap.size (.slice (some ⟨w.heap.size,0,none⟩) s.size (grownCap w s.size 0 5)) s.data.toList:=by
 have e:s.data.toList.length=s.size:=Array.length_toList;refine⟨some ⟨w.heap.size,0,none⟩,grownCap w s.size 0 5,by rw[e],by rw[e];exact grownCap_ge _ _ _ _,grownCap_le_maxLen _ _ _ _ hs,.inr ⟨w.heap.size,0,rfl,?_,λj c=>?_⟩⟩;·show w.heap.size<(w.alloc _).heap.size;simp
 ·have b:(w.alloc (Obj.cells (bytesRow s (grownCap w s.size 0 5)) 5 a)).drew.cell? ⟨w.heap.size,0+j,none⟩=(bytesRow s (grownCap w s.size 0 5))[0+j]?:=cell_of_row (w.alloc (Obj.cells (bytesRow s (grownCap w s.size 0 5)) 5 a)).drew w.heap.size (0+j) _ 5 a (heap_alloc_new w _);rw[b,Nat.zero_add,bytesRow_at s _ j (by simpa using c)];simp
def iP(m:dK):Prop:=fH m.k m.f [0,m.e,m.b,m.wa,m.p,m.s,m.q,m.bl,m.v,(m.zs.length:Int)]=true/\∀z∈m.zs,i_ z
def dK.pk(m:dK):List UInt8:=gO m.k m.f m.e m.b m.wa m.p m.s m.q m.bl m.v m.zs
def xT{m:dK}(h:iP m):m.pk.length<=171/\6<=m.pk.length:=by obtain⟨b,d,c,e,a⟩:=qT h.1;unfold dK.pk gO kB mJ;rw[List.length_append,List.length_append,K8,lP];simp only[List.length_cons,List.length_nil];have:=K9 m.zs.length a (eX m.k.toNat);rw[tO m.k.toNat oG]at this;omega
def B4{m:dK}(h:iP m):eT m=UInt8.ofNat m.pk.length::m.pk:=by unfold eT lF pD;rw[if_pos h.1];rfl
def pI(j:List UInt8):Prop:=j=[]∨∃x t,j=x::t/\t.length<x.toNat
def dK.co(m:dK):dK:={m with a:=none,c:=0}
def yN(w:World)(base:Nat)(l:Value)(ms:List dK):Prop:=∃ms':List dK,w.ownsRow base 136 11 l ms.length (ms'.flatMap dK.cells)/\ms'.map dK.co=ms.map dK.co/\∀m∈ms',fI w base (J m.a m.zs.length m.c) m.zs
def ER(v:Value):Nat:=match v with
 |.string s=>s.size
 |_=>0
def FI(ms:List dK)(i:List UInt8)(w:World)(ht:dW w)(ad:∀m∈ms,iP m)(hj:pI i)(hl:ms.length<=100000000):Calls pG 218 #[.string (dE (ms.flatMap eT++i))] w λr w'=>∃l,r=.returned (.tuple #[l,.bool (i==[])])/\yN w' w.heap.size l ms/\Below w.heap.size w w':=by
 have HT:=dA ht;have aw:=dA ad;have HJ:=dA hj;clear ht ad hj;go_enter func218,ntmps218;go_upto_region 1 with fail;go_loopw [0,2] (λs0 s2 wr=>∃dn M,ms=dn++M/\s0=.string (dE (M.flatMap eT++i))/\yN wr w.heap.size s2 dn/\Below w.heap.size w wr) (λs0 s2 wr=>ER s0);case atStart=>exact⟨[],ms,rfl,rfl,⟨[],World.ownsRow_nil _ _ _ _,rfl,λm D=>by cases D⟩,Below.refl _ _⟩
 case round=>
  obtain⟨dn,M,rfl,rfl,ah,ai⟩:=hrel;have z:=dA ah;have E:=dA ai;clear ah ai;rcases M with _|⟨m,ag⟩
  ·simp only[List.flatMap_nil,List.nil_append];rcases HJ.out with rfl|⟨x,tl,rfl,hx⟩;·obtain⟨t,d,B,C⟩:=z.out;obtain⟨ra,rc,rfl⟩:=dZ d;have S:(dE []).size=0:=rfl;go_wp2;go_ret2;exact⟨_,rfl,by rw[List.append_nil];exact z,E⟩
   ·obtain⟨t,d,B,C⟩:=z.out;obtain⟨ra,rc,rfl⟩:=dZ d;have S:(dE (x::tl)).size=tl.length+1:=rfl;have L:∀h,(dE (x::tl))[0]'h=x:=λ_=>rfl;have H:=x.toNat_lt;have aa:wrap64 (x.toNat:Int)=(x.toNat:Int):=IntWalk.wrap64_in _ oG;have ao:wrap64 (1+(x.toNat:Int))=1+(x.toNat:Int):=IntWalk.wrap64_in _ oG;have ac:decide ((tl.length:Int)+1<1+(x.toNat:Int))=true:=by simp;omega
    have HX:=dA hx;clear hx H d B C;go_wp2;go_ret2;exact⟨_,rfl,by rw[List.append_nil];exact z,E⟩
  have hR:=aw.out m sG;have ab:=dA (C4 m.k m.f m.e m.b m.wa m.p m.s m.q m.bl m.v m.zs hR.1 hR.2);have al:=xT hR;have aE:=dA (qT hR.1).2.2.2.2;simp only[List.flatMap_cons,B4 hR,List.append_assoc,List.cons_append];obtain⟨R,a3⟩:∃y,ag.flatMap eT++i=y:=⟨_,rfl⟩;rw[a3];obtain⟨pk,O⟩:∃y,m.pk=y:=⟨_,rfl⟩;rw[O]at al⊢;have aq:Hid (oA pk m.k m.f m.e m.b m.wa m.p m.s m.q m.bl m.v m.zs 0):=by unfold Hid;rw[←O];exact ab
  have aC:=dA a3;have aF:=dA O;clear a3 O ab hR;obtain⟨t,d,B,C⟩:=z.out;obtain⟨ra,rc,rfl⟩:=dZ d;have V:=dA d;have au:=dA B;have a2:=dA C;clear d B C z;obtain⟨x,hx⟩:∃y,UInt8.ofNat pk.length=y:=⟨_,rfl⟩;have H:(x.toNat:Int)=(pk.length:Int):=by rw[←hx,UInt8.toNat_ofNat'];omega
  rw[hx];have HX:=dA hx;clear hx;have S:(dE (x::(pk++R))).size=(pk++R).length+1:=rfl;have L:∀h,(dE (x::(pk++R)))[0]'h=x:=λ_=>rfl;have aa:wrap64 (x.toNat:Int)=(pk.length:Int):=by rw[H];exact IntWalk.wrap64_in _ oG
  have ao:wrap64 (1+(pk.length:Int))=1+(pk.length:Int):=IntWalk.wrap64_in _ oG;have ac:decide (((pk++R).length:Int)+1<1+(pk.length:Int))=false:=by simp;omega
  have aA:(dE (x::(pk++R))).extract 1 (1+(pk.length:Int)).toNat=dE pk:=by apply ByteArray.ext;have U:(1+(pk.length:Int)).toNat=pk.length+1:=oG;rw[U];simp[dE,ByteArray.data_extract]
  have a0:=λw=>run_bytes_of_string (P:=pG) w 9 148 5 (dE pk) underlying9 underlying148 underlying5;have aD:(dE (x::(pk++R))).extract (1+(pk.length:Int)).toNat (pk.length+R.length+1)=dE R:=by apply ByteArray.ext;have U:(1+(pk.length:Int)).toNat=pk.length+1:=oG;rw[U];simp[dE,ByteArray.data_extract]
  clear H;go_wp2_with fail;have a6:=AW wr (dE pk) (by rw[nN];unfold maxLen;omega) ((bytesRow (dE pk) (grownCap wr (dE pk).size 0 5)).size,(bytesRow (dE pk) (grownCap wr (dE pk).size 0 5)).size+1);have N:=(a_ wr (Obj.cells (bytesRow (dE pk) (grownCap wr (dE pk).size 0 5)) 5 ((bytesRow (dE pk) (grownCap wr (dE pk).size 0 5)).size,(bytesRow (dE pk) (grownCap wr (dE pk).size 0 5)).size+1))).drew;clear a0;generalize (World.alloc _ _).drew=W5 at*;have a4:=E.size;refine(qS pk _ W5 (HT.below (E.trans (N.mono a4)) HT.two) a6 m.k m.f m.e m.b m.wa m.p m.s m.q m.bl m.v m.zs aq).mono ?_;rintro r w6 ⟨la,Q,rfl,ho,az,a1⟩;have af:=N.size;have aj:Below wr.heap.size wr (w6.alloc (G (mA m.k m.f m.e m.b m.wa m.p m.s m.q m.bl m.v (J la m.zs.length Q)) 136)):=(N.trans (a1.mono af)).alloc (by have:=a1.size;omega) _;have ap:=dA (dC.new w6 (mA m.k m.f m.e m.b m.wa m.p m.s m.q m.bl m.v (J la m.zs.length Q)) 136);have aB:Hid (fI (w6.alloc (G (mA m.k m.f m.e m.b m.wa m.p m.s m.q m.bl m.v (J la m.zs.length Q)) 136)) w.heap.size (J la m.zs.length Q) m.zs):=fI.low (World.ownsRow.alloc ho _) oG;have K:=dA aj;clear ho az a1 aj a6 N af aa ac aA L;go_upto_region 8 with fail;generalize World.alloc _ _=F at*;generalize w6.heap.size=X at*;have n:Hid (F.ownsRow w.heap.size 136 11 (J ra dn.length rc) dn.length (t.flatMap dK.cells)):=dQ V (λg A=>K.block g (V.lt g A).2);have a8:Hid (∀m∈t,fI F w.heap.size (J m.a m.zs.length m.c) m.zs):=λm D=>dQ (a2.out m D) (λg A=>K.block g ((a2.out m D).lt g A).2);have an:=dA (ap.range (o:=0) (cs:=[I m.k,I m.f,I m.e,I m.b,I m.wa,I m.p,I m.s,I m.q,I m.bl,I m.v,J la m.zs.length Q]) rfl);have av:w.heap.size<=F.heap.size:=Nat.le_trans a4 K.size;have aG:dn.length<=100000000:=by simp at hl;omega
  obtain⟨i0,L,ax,ay,ar⟩:=info_parts wS;clear V a2;go_wp2_with(first|(refine wpList_load_mid rfl 136 _ rfl X 0 rfl [I m.k,I m.f,I m.e,I m.b,I m.wa,I m.p,I m.s,I m.q,I m.bl,I m.v,J la m.zs.length Q] _ an underlying136 rfl kG ?_)|(at_builtin;go_loud (refine wpList_append_own _ rfl _ _ 22 rfl w.heap.size 136 i0 (.agg mz) 11 104 underlying22 L ax ay ar rfl dG (J ra dn.length rc) dn.length (t.flatMap dK.cells) rfl ?c0 ⟨F.heap.size,0,Z⟩ 1 1 [I m.k,I m.f,I m.e,I m.b,I m.wa,I m.p,I m.s,I m.q,I m.bl,I m.v,J la m.zs.length Q] rfl rfl ?c1 ?c2 ?c3 ?c4 ?c5 ?_)));case c0=>exact dQ n (λg A=>heap_alloc_old _ _ (n.lt g A).2)
  case c1=>first|exact λj u hu=>hu|exact rY F F.heap.size rfl _ 136
  case c2=>intro u hu;simp at hu;rcases hu with rfl|rfl|rfl|rfl|rfl|rfl|rfl|rfl|rfl|rfl|rfl<;>rfl
  case c3=>unfold maxLen;omega
  case c4=>omega
  case c5=>first|omega|(simp;omega)
  intro v' w8 W a5 a9;obtain⟨va,vc,rfl⟩:=dZ W;have ak:∀g a7,g<F.heap.size->F.heap[g]?=Y (.cells a7 3 (0,0))->w8.heap[g]?=F.heap[g]?:=λg a7 hl A=>(a5.block g (by simp;omega) (λhh=>by obtain⟨c9,U⟩:=eU n hh.symm;rw[A]at U;simp at U)).trans (heap_alloc_old _ _ hl);have am:Hid (Below w.heap.size w w8):=((E.trans (K.mono a4)).alloc av _).grown a5 (by simp;omega) (λg A=>(n.lt g A).1);have ae:Hid (yN w8 w.heap.size (J va (dn.length+1) vc) (dn++[m])):=by
   have hi:∀{l:Value} {zs:List Int},fI F w.heap.size l zs->fI w8 w.heap.size l zs:=λh=>dQ h (λg A=>by obtain⟨c9,U⟩:=eU h A;exact ak g c9 (h.lt g A).2 U);refine⟨t++[{m with a:=la,c:=Q}],?_,?_,λm' D=>?_⟩;·simpa[dK.cells] using W
   ·simp[au.out,dK.co]
   ·rcases List.mem_append.1 D with D|D;·exact hi (a8.out m' D)
    ·simp at D;subst D;exact hi aB
  clear W a5 a9 ak;go_wp2_with fail;go_roundw;case rel=>exact⟨dn++[m],ag,sG,by rw[aC.out],ae,am⟩
  case measure=>simp[ER,nN];omega
def uC(w:World)(cs:Array Value)(a:Int):((((w.alloc (G cs 198)).alloc (G #[I 0,I 0,I a] 66)).alloc (Obj.map #[] 0)).ownsRow w.heap.size 66 3 (J (Y ⟨w.heap.size+1,0,Z⟩) 1 1) 1 [I 0,I 0,I a])/\VM (((w.alloc (G cs 198)).alloc (G #[I 0,I 0,I a] 66)).alloc (Obj.map #[] 0)) (w.heap.size+1+1) []/\Below w.heap.size w (((w.alloc (G cs 198)).alloc (G #[I 0,I 0,I a] 66)).alloc (Obj.map #[] 0)):=by
 have s1:(w.alloc (G cs 198)).heap.size=w.heap.size+1:=sG;have s2:((w.alloc (G cs 198)).alloc (G #[I 0,I 0,I a] 66)).heap.size=w.heap.size+1+1:=sG;have d:=(dC.new (w.alloc (G cs 198)) #[I 0,I 0,I a] 66).old (Obj.map #[] 0);rw[s1]at d;have c:=heap_alloc_new ((w.alloc (G cs 198)).alloc (G #[I 0,I 0,I a] 66)) (Obj.map #[] 0);rw[s2]at c;refine⟨⟨rfl,.inr ⟨w.heap.size+1,1,_,rfl,oG,d.blk,Nat.le_refl _,dG,rfl,rfl⟩⟩,⟨#[],0,c,rfl,?_⟩,?_⟩;·exact⟨λb e=>by simp at e,sG⟩
 ·exact((a_ w _).alloc (by rw[s1];omega) _).alloc (by rw[s2];omega) _
def FZ(id:Int)(w:World):Calls pG 219 #[I id,I 2] w λr w'=>∃(vr:Value) (Mp:Nat),r=.returned (.agg #[I id,vr,Value.map (Y Mp),I 0,I 0,I 0,I 0,I 0,I 0])/\w'.ownsRow w.heap.size 66 3 vr 1 [I 0,I 0,I 3]/\VM w' Mp []/\w.heap.size<=Mp/\Below w.heap.size w w':=by have c:Hid (∀cs,_):=λcs=>uC w cs 3;have b:=@run_makeMap pG;go_enter func219,ntmps219;go_wp2;have a:=c.out #[I id,J (Y ⟨w.heap.size+1,0,Z⟩) 1 1,Value.map (Y (w.heap.size+1+1)),I 0,I 0,I 0,I 0,I 0,I 0];exact bodyPost_ret (v:=.agg #[I id,J (Y ⟨w.heap.size+1,0,Z⟩) 1 1,Value.map (Y (w.heap.size+1+1)),I 0,I 0,I 0,I 0,I 0,I 0]) (by simp[results,results219,go_sem]) rfl ⟨_,_,rfl,a.1,a.2.1,oG,a.2.2⟩
def F0(id:Int)(w:World):Calls pG 219 #[I id,I 3] w λr w'=>∃(vr:Value) (Mp:Nat),r=.returned (.agg #[I id,vr,Value.map (Y Mp),I 0,I 0,I 0,I 0,I 0,I 0])/\w'.ownsRow w.heap.size 66 3 vr 1 [I 0,I 0,I 7]/\VM w' Mp []/\w.heap.size<=Mp/\Below w.heap.size w w':=by have c:Hid (∀cs,_):=λcs=>uC w cs 7;have b:=@run_makeMap pG;go_enter func219,ntmps219;go_wp2;have a:=c.out #[I id,J (Y ⟨w.heap.size+1,0,Z⟩) 1 1,Value.map (Y (w.heap.size+1+1)),I 0,I 0,I 0,I 0,I 0,I 0];exact bodyPost_ret (v:=.agg #[I id,J (Y ⟨w.heap.size+1,0,Z⟩) 1 1,Value.map (Y (w.heap.size+1+1)),I 0,I 0,I 0,I 0,I 0,I 0]) (by simp[results,results219,go_sem]) rfl ⟨_,_,rfl,a.1,a.2.1,oG,a.2.2⟩
def F1(id:Int)(w:World):Calls pG 219 #[I id,I 4] w λr w'=>∃(vr:Value) (Mp:Nat),r=.returned (.agg #[I id,vr,Value.map (Y Mp),I 0,I 0,I 0,I 0,I 0,I 0])/\w'.ownsRow w.heap.size 66 3 vr 1 [I 0,I 0,I 15]/\VM w' Mp []/\w.heap.size<=Mp/\Below w.heap.size w w':=by have c:Hid (∀cs,_):=λcs=>uC w cs 15;have b:=@run_makeMap pG;go_enter func219,ntmps219;go_wp2;have a:=c.out #[I id,J (Y ⟨w.heap.size+1,0,Z⟩) 1 1,Value.map (Y (w.heap.size+1+1)),I 0,I 0,I 0,I 0,I 0,I 0];exact bodyPost_ret (v:=.agg #[I id,J (Y ⟨w.heap.size+1,0,Z⟩) 1 1,Value.map (Y (w.heap.size+1+1)),I 0,I 0,I 0,I 0,I 0,I 0]) (by simp[results,results219,go_sem]) rfl ⟨_,_,rfl,a.1,a.2.1,oG,a.2.2⟩
def F2(id:Int)(w:World):Calls pG 219 #[I id,I 5] w λr w'=>∃(vr:Value) (Mp:Nat),r=.returned (.agg #[I id,vr,Value.map (Y Mp),I 0,I 0,I 0,I 0,I 0,I 0])/\w'.ownsRow w.heap.size 66 3 vr 1 [I 0,I 0,I 31]/\VM w' Mp []/\w.heap.size<=Mp/\Below w.heap.size w w':=by have c:Hid (∀cs,_):=λcs=>uC w cs 31;have b:=@run_makeMap pG;go_enter func219,ntmps219;go_wp2;have a:=c.out #[I id,J (Y ⟨w.heap.size+1,0,Z⟩) 1 1,Value.map (Y (w.heap.size+1+1)),I 0,I 0,I 0,I 0,I 0,I 0];exact bodyPost_ret (v:=.agg #[I id,J (Y ⟨w.heap.size+1,0,Z⟩) 1 1,Value.map (Y (w.heap.size+1+1)),I 0,I 0,I 0,I 0,I 0,I 0]) (by simp[results,results219,go_sem]) rfl ⟨_,_,rfl,a.1,a.2.1,oG,a.2.2⟩
def E8(id nodes a:Int)(w:World)(hs:(nodes=2/\a=3)∨(nodes=3/\a=7)∨(nodes=4/\a=15)∨(nodes=5/\a=31)):Calls pG 219 #[I id,I nodes] w λr w'=>∃(vr:Value) (Mp:Nat),r=.returned (.agg #[I id,vr,Value.map (Y Mp),I 0,I 0,I 0,I 0,I 0,I 0])/\w'.ownsRow w.heap.size 66 3 vr 1 [I 0,I 0,I a]/\VM w' Mp []/\w.heap.size<=Mp/\Below w.heap.size w w':=by
 rcases hs with⟨rfl,rfl⟩|⟨rfl,rfl⟩|⟨rfl,rfl⟩|⟨rfl,rfl⟩;·exact FZ id w
 ·exact F0 id w
 ·exact F1 id w
 ·exact F2 id w
def SD.play(d:SD)(ms:List dK):SD:=ms.foldl SD.stepM d
def C6{m a:dK}(h:a.co=m.co)(d:SD):d.stepM a=d.stepM m/\a.k=m.k/\a.bl=m.bl/\a.zs=m.zs/\a.e=m.e:=by unfold dK.co at h;cases m;cases a;simp only[dK.mk.injEq]at h;obtain⟨rfl,rfl,rfl,rfl,rfl,rfl,rfl,rfl,rfl,rfl,_,_,rfl⟩:=h;exact⟨rfl,rfl,rfl,rfl,rfl⟩
def wZ:∀(a ms:List dK) (d:SD),a.map dK.co=ms.map dK.co->d.play a=d.play ms
 | [],[],d,_=>rfl
 | [],_::_,d,h=>by simp at h
 |_::_,[],d,h=>by simp at h
 |m'::a,m::ms,d,h=>by simp only[List.map_cons,List.cons.injEq]at h;unfold SD.play;simp only[List.foldl_cons];rw[(C6 h.1 d).1];exact wZ a ms _ h.2
def rV(d:SD)(ms:List dK)(m:dK):d.play (ms++[m])=(d.play ms).stepM m:=by simp[SD.play]
def JN(d:SD)(ms a:List dK):(d.play ms).recs.length<=(d.play (ms++a)).recs.length:=by
 induction a generalizing ms with
 |nil=>simp
 |cons m a ih=>have h:=ih (ms++[m]);rw[List.append_assoc]at h;refine Nat.le_trans ?_ h;rw[rV];exact(pP _ _ _ _ _ _ _ _ _ _).1
def uI(ms:List dK):∀d:SD,(d.play ms).id=d.id/\(d.play ms).lines=d.lines/\(d.play ms).wh=d.wh:=by
 induction ms with
 |nil=>exact λd=>⟨rfl,rfl,rfl⟩
 |cons m ms ih=>
  intro d;have h:=ih (d.stepM m);have s:=pP d m.k m.e m.b m.p m.s m.q m.bl m.v m.zs;have a:(d.stepM m).wh=d.wh:=by
   unfold SD.stepM SD.step SD.jy SD.learn;repeat' split
   all_goals rfl
  unfold SD.play at h⊢;simp only[List.foldl_cons];exact⟨h.1.trans s.2.2.2.2.1,h.2.1.trans s.2.2.2.1,h.2.2.trans a⟩
def LA(low:Nat)(id nodes F:Int)(D H S:Nat)(va:Value)(fs:List FD)(left:Int)(L:Nat)(ms:List dK)(o:List UInt8)(w:World)(hk:fV w low D H S va fs left L)(hL:L<=1200000000)(am:low<=w.heap.size)(ht:dW w)(hs:(nodes=2/\F=3)∨(nodes=3/\F=7)∨(nodes=4/\F=15)∨(nodes=5/\F=31))(b0:0<=id/\id<5)(ay:(fJ (dX fs eS)).d=ms.flatMap eT++o)(aK:∀m∈ms,iP m)(hj:pI o)(hl:ms.length<=100000000)(aJ:∀m∈ms,iE m.k m.bl m.zs.length/\e_ m.e)(aw:((⟨id,[⟨0,0,F⟩],[],0,0,0,0,0,0,(ms.length:Int),o==[]⟩:SD).play ms).recs.length<=1300000):Calls pG 161 #[I id,I nodes,P0 (Y ⟨D,0,Z⟩)] w λr w'=>∃(St:Nat) (vr:Value) (Mp:Nat),r=.returned (P0 (Y ⟨St,0,Z⟩))/\eE w' low St ((⟨id,[⟨0,0,F⟩],[],0,0,0,0,0,0,(ms.length:Int),o==[]⟩:SD).play ms) vr Mp D/\w.heap.size<=St/\w.heap.size<=Mp/\(∀g,vr.ownBlock=Y g->w.heap.size<=g)/\Below w.heap.size w w':=by
 have HK:=dA hk;have b3:=dA hs;have b5:=dA aJ;have aT:=dA aw;have av:=dA (FI ms o w ht aK hj hl);have ac:=dA (I4 low D H S va fs left eS w hk.hands hk.ds (by have:=hk.fl;omega));rw[ay]at ac;clear hk hs aJ aw aK hj ay ht;generalize (o==[])=N at*;generalize ms.flatMap eT++o=tx at*;go_enter func161,ntmps161;go_wp2_with fail;refine ac.mono ?_;rintro r w0 ⟨rfl,aZ⟩;obtain rfl:=aZ.symm;go_wp2_with fail;refine av.mono ?_;rintro r w1 ⟨l,rfl,⟨h,M,a8,U⟩,al⟩;obtain⟨xa,xc,rfl⟩:=dZ M;have a7:=dA M;have ah:=dA a8;have ag:=dA U;have aE:=dA al;have aC:=al.size;have bd:h.length=ms.length:=by have j:=congrArg List.length a8;simpa using j
 clear M a8 U al ac av;go_wp2_with fail;refine(E8 id nodes F w1 b3).mono ?_;rintro r w2 ⟨vr,Mp,rfl,ho,hv,be,hb⟩;obtain⟨ra,rc,rfl⟩:=dZ ho;have aP:=hb.size;have a1:Below w1.heap.size w1 (w2.alloc (G #[I id,J ra 1 rc,Value.map (Y Mp),I 0,I 0,I 0,I 0,I 0,I 0,P0 (Y ⟨D,0,Z⟩),I (ms.length:Int),bool N] 200)):=hb.alloc aP _;have aL:Hid (eE (w2.alloc (G #[I id,J ra 1 rc,Value.map (Y Mp),I 0,I 0,I 0,I 0,I 0,I 0,P0 (Y ⟨D,0,Z⟩),I (ms.length:Int),bool N] 200)) low w2.heap.size (⟨id,[⟨0,0,F⟩],[],0,0,0,0,0,0,(ms.length:Int),N⟩:SD) (J ra 1 rc) Mp D):=⟨dC.new w2 #[I id,J ra 1 rc,Value.map (Y Mp),I 0,I 0,I 0,I 0,I 0,I 0,P0 (Y ⟨D,0,Z⟩),I (ms.length:Int),bool N] 200,nQ (World.ownsRow.alloc ho _) oG,hv.later (a_ _ _)⟩;have aF:Hid (∀g,Value.ownBlock (J ra 1 rc)=some g->w1.heap.size<=g):=λg x=>(ho.lt g x).1;have a6:Hid ((w2.alloc (G #[I id,J ra 1 rc,Value.map (Y Mp),I 0,I 0,I 0,I 0,I 0,I 0,P0 (Y ⟨D,0,Z⟩),I (ms.length:Int),bool N] 200)).ownsRow w.heap.size 136 11 (J xa ms.length xc) ms.length (h.flatMap dK.cells)):=dQ a7 (λg x=>a1.block g (a7.lt g x).2);have a5:Hid (∀m∈h,fI (w2.alloc (G #[I id,J ra 1 rc,Value.map (Y Mp),I 0,I 0,I 0,I 0,I 0,I 0,P0 (Y ⟨D,0,Z⟩),I (ms.length:Int),bool N] 200)) w.heap.size (J m.a m.zs.length m.c) m.zs):=λm hm=>dQ (ag.out m hm) (λg x=>a1.block g ((ag.out m hm).lt g x).2);have af:Hid (Below w.heap.size w (w2.alloc (G #[I id,J ra 1 rc,Value.map (Y Mp),I 0,I 0,I 0,I 0,I 0,I 0,P0 (Y ⟨D,0,Z⟩),I (ms.length:Int),bool N] 200))):=aE.trans (a1.mono aC);have b6:w.heap.size<=w2.heap.size:=oG;clear ho hv hb a1 a7 ag aE;go_upto_region 4 with fail;generalize World.alloc _ _=W3 at*;generalize w2.heap.size=St at*;have b9:=af.size;go_loopw [29] (λs29 wr=>∃(t:Nat) (vr:Value),t<=ms.length/\s29=I (t:Int)/\eE wr low St ((⟨id,[⟨0,0,F⟩],[],0,0,0,0,0,0,(ms.length:Int),N⟩:SD).play (h.take t)) vr Mp D/\(∀g,vr.ownBlock=some g->w.heap.size<=g)/\wr.ownsRow w.heap.size 136 11 (J xa ms.length xc) ms.length (h.flatMap dK.cells)/\(∀m∈h,fI wr w.heap.size (J m.a m.zs.length m.c) m.zs)/\Below w.heap.size w wr) (λs29 wr=>ms.length - (intOf s29).toNat);case atStart=>exact⟨0,J ra 1 rc,oG,rfl,aL,λg x=>Nat.le_trans aC (aF.out g x),a6,a5,af⟩
 case round=>
  obtain⟨t,vr,ba,rfl,aq,aI,M,U,ab⟩:=hrel;have ai:=dA aq;have a9:=dA aI;have a2:=dA M;have a0:=dA U;have V:=dA ab;have aU:=ab.size;clear aq aI M U ab aL aF a6 a5 af;by_cases aH:t<ms.length
  ·obtain⟨g,bf,h1,x,hc⟩:=(eL.gy a2).at oG;cases h1;have a4:h[t].co=ms[t].co:=by have j:=congrArg (λl:List dK=>l[t]?) ah;simp only[List.getElem?_map,List.getElem?_eq_getElem (show t<h.length by omega),List.getElem?_eq_getElem aH]at j;simpa using j
   have W:=b5.out ms[t] (List.getElem_mem aH);have Q:=C6 a4 (⟨id,[⟨0,0,F⟩],[],0,0,0,0,0,0,(ms.length:Int),N⟩:SD);rw[←Q.2.1,←Q.2.2.1,←Q.2.2.2.1,←Q.2.2.2.2]at W;have O:=a0.out h[t] (List.getElem_mem oG);have aj:h.take (t+1)=h.take t++[h[t]]:=List.take_succ_eq_append_getElem oG;have aA:=JN (⟨id,[⟨0,0,F⟩],[],0,0,0,0,0,0,(ms.length:Int),N⟩:SD) (h.take t) (h.drop t);rw[List.take_append_drop,wZ h ms _ ah.out]at aA;have ae:wr.rangeAt g (t*11) (dK.cells h[t]):=by
    intro k u hu;have hk:k<11:=by have:=(List.getElem?_eq_some_iff.1 hu).1;simpa[dK.cells] using this
    rw[hc _ _ (kE dK.cells 11 EQ h t oG k hk)];rw[List.getD_eq_getElem?_getD,hu];rfl
   obtain⟨m,hm⟩:∃y,h[t]=y:=⟨_,rfl⟩;rw[hm]at W O aj ae;have b1:Hid (wr.rangeAt g (t*11) [I m.k,I m.f,I m.e,I m.b,I m.wa,I m.p,I m.s,I m.q,I m.bl,I m.v,J m.a m.zs.length m.c]):=ae;have aa:=dA O;have aM:=dA aj;have aG:=dA W;have ak:Below wr.heap.size wr (wr.alloc (G (mA m.k m.f m.e m.b m.wa m.p m.s m.q m.bl m.v (J m.a m.zs.length m.c)) 136)):=a_ _ _;have HX:=dA (dC.new wr (mA m.k m.f m.e m.b m.wa m.p m.s m.q m.bl m.v (J m.a m.zs.length m.c)) 136);have z:=dA (ai.later ak);have B:=dA ak;have aY:=dA (uI (h.take t) (⟨id,[⟨0,0,F⟩],[],0,0,0,0,0,0,(ms.length:Int),N⟩:SD));clear a4 Q O aj ae hm W hc ak;go_upto_region 6 with(refine wpList_load_mid rfl 136 _ rfl g (t*11) rfl [I m.k,I m.f,I m.e,I m.b,I m.wa,I m.p,I m.s,I m.q,I m.bl,I m.v,J m.a m.zs.length m.c] _ b1 underlying136 rfl kG ?_);generalize World.alloc _ _=W5 at*;generalize bb:wr.heap.size=X at*;have bc:=B.size;have az:=dA (dQ aa (w':=W5.drew) (λg x=>B.block g (by have:=(aa.lt g x).2;omega)));obtain⟨_,aD⟩:=fI.ints az;have ax:∀ad,m.a=some ad->ad.block≠St:=λad ap i=>by
    rcases aa.2 with⟨j,_⟩|⟨g9,b8,b7,j,_,h8,_⟩;·rw[ap]at j;simp at j
    ·rw[ap]at j;simp at j;rw[j.1]at i;subst i;have h7:=ai.blk.blk;rw[h8]at h7;simp at h7
   have b2:=dA (AP low St _ vr Mp D m.k m.f m.e m.b m.wa m.p m.s m.q m.bl m.v m.a m.zs m.c W5.drew z.drew aD ax (by rw[aY.1];exact b0) (by have:=am;have:=aU;show low<=W5.heap.size;omega) (Nat.le_trans aA aT) aG.2 aG.1);clear aD ax;refine eY (S:=(λw'=>dC w' X (mA m.k m.f m.e m.b m.wa m.p m.s m.q m.bl m.v (J m.a m.zs.length m.c)) 136)) (λ_=>?_) (hS:=HX.drew);refine dB 0 ?_;refine dB 1 ?_;refine dB 2 ?_;refine i8 3 X 0 [I m.k,I m.f,I m.e,I m.b,I m.wa,I m.p,I m.s,I m.q,I m.bl,I m.v,J m.a m.zs.length m.c] ?_ (λw aR=>aR.range rfl);refine dF 4 λK hK=>?_;(try go_simp);go_at_call 220;refine b2.mono ?_;rintro r W6 ⟨rfl,au,a3,R,ao⟩;have aX:=dA (HX.drew.same (R.block X HX.drew.lt (λi=>by
    rcases i with i|i|i;·exact HX.drew.ne z.drew.blk dG i
    ·exact z.drew.jb.ne HX.drew i.symm
    ·obtain⟨c9,j⟩:=eU z.drew.rcs i;rw[HX.drew.blk]at j;simp at j)))
   have C:dM (λg=>g=St∨g=Mp∨vr.ownBlock=some g) W5 W6:=(dM.of_below (A:=λ_=>False) (b_.drew)).trans R (λ_ i=>i.elim) (λ_ _ i=>i);clear R;refine k1 hK (λ_=>?_) aX;clear hK K;refine dn ?_;have an:∀g E,g<X->wr.heap[g]?=some (.cells E 136 (0,0))->W6.heap[g]?=wr.heap[g]?:=λg E hl x=>(C.block g oG (λi=>by
    have n:W5.heap[g]?=some (.cells E 136 (0,0)):=(B.block g hl).trans x;rcases i with i|i|i;·rw[i,z.blk.blk]at n;simp at n
    ·obtain⟨es,aN,h7,_⟩:=z.jb.obj;rw[i,h7]at n;simp at n
    ·obtain⟨c9,j⟩:=eU z.rcs i;rw[j]at n;simp at n)).trans (B.block g hl)
   have ar:∀g E,g<X->wr.heap[g]?=some (.cells E 3 (0,0))->W6.heap[g]?=wr.heap[g]?:=λg E hl x=>(C.block g oG (λi=>by
    have n:W5.heap[g]?=some (.cells E 3 (0,0)):=(B.block g hl).trans x;rcases i with i|i|i;·rw[i,z.blk.blk]at n;simp at n
    ·obtain⟨es,aN,h7,_⟩:=z.jb.obj;rw[i,h7]at n;simp at n
    ·obtain⟨c9,j⟩:=eU z.rcs i;rw[j]at n;simp at n)).trans (B.block g hl)
   have aS:Hid (Below w.heap.size w W6):=⟨C.os.trans (B.os.trans V.os),C.tape.trans (B.tape.trans V.tape),C.output.trans (B.output.trans V.output),by have:=C.size;omega,λk hk=>(C.block k oG (λi=>by
    rcases i with i|i|i;·omega
    ·omega
    ·have:=a9.out k i;omega)).trans ((B.block k oG).trans (V.block k hk))⟩
   have aO:=dA (dQ a2 (w':=W6) (λg x=>by obtain⟨c9,j⟩:=eU a2 x;exact an g c9 (by have:=(a2.lt g x).2;omega) j));have aV:Hid (∀m∈h,fI W6 w.heap.size (J m.a m.zs.length m.c) m.zs):=λm hm=>dQ (a0.out m hm) (λg x=>by obtain⟨c9,j⟩:=eU (a0.out m hm) x;exact ar g c9 (by have:=((a0.out m hm).lt g x).2;omega) j);have aW:=dA a3;have aQ:Hid (∀g,au.ownBlock=some g->w.heap.size<=g):=λg x=>(ao g x).elim (a9.out g) (λj=>by have h8:W5.heap.size<=g:=j;omega);clear a3 C ao an ar;go_wp2_with fail;go_roundw;case rel=>exact⟨t+1,au,oG,rfl,by rw[aM.out,rV];exact aW,aQ,aO,aV,aS⟩
   case measure=>simp[intOf];omega
  obtain aB:h.take t=h:=List.take_of_length_le oG;have b4:Hid (eE wr low St ((⟨id,[⟨0,0,F⟩],[],0,0,0,0,0,0,(ms.length:Int),N⟩:SD).play ms) vr Mp D):=by unfold Hid;rw[←wZ h ms _ ah.out];have j:=ai.out;rw[aB]at j;exact j
  clear aB;go_wp2;go_ret;exact⟨St,vr,Mp,rfl,b4,b6,oG,a9,V⟩
def LB(Nd:Nat)(x:NB)(i:List UInt8)(vb:Value)(k f e b wa p s q bl v:Int)(h:List Int)(w:World)(B:dC w Nd x.arr 192)(u:dW w)(A:gK w w.heap.size vb i)(y:oA i k f e b wa p s q bl v h 0)(d:x.down=false)(H:(f==x.id)=true):Calls pG 143 #[P0 (Y ⟨Nd,0,Z⟩),vb] w λr w'=>r=.returned (J Z 0 0)/\Below w.heap.size w w':=by have c:=dA B;have g:=dA (qS i vb w u A k f e b wa p s q bl v h y);have o:=dA d;clear B u A y d;go_enter func143,ntmps143;go_wp2_with fail;refine g.mono ?_;rintro r w1 ⟨la,t,rfl,l,m,a⟩;have j:=a.size;have D:=dA (dC.new w1 (mA k f e b wa p s q bl v (J la h.length t)) 136);have z:Hid (Below w.heap.size w (w1.alloc (G (mA k f e b wa p s q bl v (J la h.length t)) 136))):=a.alloc j _;have n:=dA (c.later z);clear l a m g c;go_upto_region 2 with fail;generalize World.alloc _ _=K at*;generalize w1.heap.size=X at*;have m1:=D.cell 1;have E:=n.cell 0;have F:=n.cell 1;have C:=n.cell 4;simp at m1 E F C;rw[o.out]at C;go_quiet (fail);go_wp2;go_ret;exact⟨rfl,below_drewN z _⟩
def MU(Nd:Nat)(x:NB)(i:List UInt8)(vb:Value)(k f e b wa p s q bl v:Int)(h:List Int)(w:World)(B:dC w Nd x.arr 192)(u:dW w)(A:gK w w.heap.size vb i)(y:oA i k f e b wa p s q bl v h 0)(d:x.down=false)(K:(f==x.id)=false)(D:decide (x.nodes<=f)=true):Calls pG 143 #[P0 (Y ⟨Nd,0,Z⟩),vb] w λr w'=>r=.returned (J Z 0 0)/\Below w.heap.size w w':=by have c:=dA B;have g:=dA (qS i vb w u A k f e b wa p s q bl v h y);have o:=dA d;clear B u A y d;go_enter func143,ntmps143;go_wp2_with fail;refine g.mono ?_;rintro r w1 ⟨la,t,rfl,l,m,a⟩;have j:=a.size;have E:=dA (dC.new w1 (mA k f e b wa p s q bl v (J la h.length t)) 136);have z:Hid (Below w.heap.size w (w1.alloc (G (mA k f e b wa p s q bl v (J la h.length t)) 136))):=a.alloc j _;have n:=dA (c.later z);clear l a m g c;go_upto_region 2 with fail;generalize World.alloc _ _=L at*;generalize w1.heap.size=X at*;have m1:=E.cell 1;have F:=n.cell 0;have H:=n.cell 1;have C:=n.cell 4;simp at m1 F H C;rw[o.out]at C;go_quiet (fail);go_wp2;go_ret;exact⟨rfl,below_drewN z _⟩
def LC(Nd:Nat)(x:NB)(i:List UInt8)(vb:Value)(k f e b wa p s q bl v:Int)(h:List Int)(w:World)(z:dC w Nd x.arr 192)(o:dW w)(y:gK w w.heap.size vb i)(t:oA i k f e b wa p s q bl v h 0)(d:x.down=true):Calls pG 143 #[P0 (Y ⟨Nd,0,Z⟩),vb] w λr w'=>r=.returned (J Z 0 0)/\Below w.heap.size w w':=by have c:=dA z;have g:=dA (qS i vb w o y k f e b wa p s q bl v h t);have n:=dA d;clear z o y t d;go_enter func143,ntmps143;go_wp2_with fail;refine g.mono ?_;rintro r w1 ⟨la,B,rfl,l,m,a⟩;have j:=a.size;have u:Hid (Below w.heap.size w (w1.alloc (G (mA k f e b wa p s q bl v (J la h.length B)) 136))):=a.alloc j _;have C:=dA (c.later u);clear l a m g c;go_upto_region 2 with fail;generalize World.alloc _ _=D at*;have A:=C.cell 4;simp at A;rw[n.out]at A;go_quiet (fail);go_wp2;go_ret;exact⟨rfl,below_drewN u _⟩
end Go.Proofs.YtdcainmlcpafbaaGreatDoor
