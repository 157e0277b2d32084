import Derived.Test.YtdcainmlcpafbaaGreatDoorJ19
set_option linter.all false
set_option maxHeartbeats 8000000
set_option maxRecDepth 20000
namespace Go.Proofs.YtdcainmlcpafbaaGreatDoor
open Go.RowKit
open Value renaming slice->J,pointer->P0
open Tryz
open Tryz renaming prog->pG
open IntKind renaming i64->T
open Option renaming none->Z,some->Y
open Obj renaming cells->G
open Value (bool)
def D5(k f e b wa p s q bl v:Int)(a:List Int)(c:fP k f [0,e,b,wa,p,s,q,bl,v,(a.length:Int)]=true)(n:∀z∈a,i_ z):pM (gR k f e b wa p s q bl v a) k f e b wa p s q bl v a 0:=by
 obtain⟨u,o,r,t,w⟩:=rD c;have m:iS k.toNat [0,e,b,wa,p,s,q,bl,v,(a.length:Int)]=true:=by unfold fP at c;simp at c;exact c.2
 obtain⟨h,i,g,j⟩:=round k.toNat f.toNat e b wa p s q bl v a oG oG oG m n;have l:((k.toNat:Nat):Int)=k:=oG;have d:((f.toNat:Nat):Int)=f:=oG;refine .inl ⟨?_,?_,?_,g,j.symm,rfl⟩;·unfold l8 sH qO gR;rw[h,i,g,j,l,d,c];simp
 ·unfold gR;rw[h,l]
 ·unfold gR;rw[i,d]
def MM(low D H S:Nat)(d:Value)(fs:List FD)(left n:Int)(w:World)(c:fW w D H S)(b:DS 98 107 low w S d fs left)(k:0<=n):Calls pG 44 #[P0 (Y ⟨H,0,Z⟩),I n] w λr w'=>r=.returned (.tuple #[])/\w'.1[S]?=Y (.cells #[d,I (bif left==0 then 0 else n)] 98 (0,0))/\dM S w w':=by
 have ch:w.cell? ⟨H,0,Z⟩=Y (P0 (Y ⟨S,0,Z⟩)):=by simp[World.cell?,c.h]
 have s1:=b.cell 1;simp at s1;have l:=b.free 1;have e:=dF b.st;have j:max (-1) n=n:=oG;clear c;by_cases a:left=0;·subst a;go_enter func44,ntmps44;go_wp2;refine bodyPost_end (v:=.tuple #[]) (by simp[results,results44,go_sem]) rfl ?_;exact⟨rfl,e,dM.self _ _⟩
 have f:(left != 0)=true:=by simpa using a
 have i:Hid ((left==0)=false):=by unfold Hid;simpa using a
 clear a;go_enter func44,ntmps44;go_wp2;refine bodyPost_end (v:=.tuple #[]) (by simp[results,results44,go_sem]) rfl ?_;refine⟨rfl,?_,dM.setCell w ⟨S,1,Z⟩ _⟩;rw[i.out];have g:=e.out;simp[World.setCell,Array.getElem?_modify,g]
def MN(P:Pl)(x:NB)(d:SD)(fs:List FD)(left:Int)(L t:Nat)(C:Nat->Prop)(la lo:List Ky)(rs:List dO)(w:World)(h:dP w P x d fs left L C la lo rs)(l:BG t d)(s:t<=20000000):Calls pG 62 #[P0 (Y ⟨P.Nd,0,Z⟩)] w λr w'=>∃v,r=.returned v/\w'.ownsRow w.1.size 66 3 v d.recs.length (d.recs.flatMap eM.cells)/\Bw w w':=by
 obtain⟨A,f,q,k⟩:=h.1;obtain⟨vr,u,b,i,j⟩:=f.ex;have c:=l.ne;have m:=l.recs;have c3:=h.blk.cell 3;simp at c3;have a:Calls pG 94 #[P0 (Y ⟨x.St,0,Z⟩)] w λr w'=>∃v,r=.returned v/\w'.ownsRow w.1.size 66 3 v d.recs.length (d.recs.flatMap eM.cells)/\Bw w w':=by have o:=b.blk.cell 1;simp at o;have n:=dF (fM.ig b.ji);clear h f b i j c3;go_enter func94,ntmps94;go_wp2_with(go_at_call 152;refine(JJ d.recs vr w n c oG).mono ?_;rintro r w1 ⟨v,rfl,g,e⟩);go_ret;exact⟨_,rfl,g,e⟩
 have p:=dF a;have s0:=b.blk.cell 0;simp at s0;clear h f b i j a;go_enter func62,ntmps62;go_wp2_with(go_at_call 94;refine p.mono ?_;rintro r w1 ⟨v,rfl,g,e⟩);go_ret;exact⟨_,rfl,g,e⟩
def sP(c:List UInt8)(vb:Value)(w:World)(t:dY w)(A:gU w w.1.size vb c)(k f r s i j h n o q:Int)(a:List Int)(v:pM c k f r s i j h n o q a 0):Calls pG 158 #[vb] w λe w'=>∃la b,e=.returned (.tuple #[.agg (mA k f r s i j h n o q (J la a.length b)),I 0])/\fU w' w.1.size (J la a.length b) a/\qN (J la a.length b) a/\Bw w w':=by
 refine(I7 c vb w t A).mono ?_;rintro e w' ⟨u,z⟩;rcases v with⟨y,rfl,rfl,x,rfl,_⟩|⟨_,_,_,_,_,_,_,_,_,_,_,_,B⟩
 ·rcases z with⟨_,m1,m2,m3,m4,m5,m6,D,C,l,rfl,g,m,d⟩|⟨p,_⟩;·rw[x]at g;simp only[List.cons.injEq,true_and,and_true]at g;obtain⟨rfl,rfl,rfl,rfl,rfl,rfl,rfl,rfl⟩:=g;obtain⟨la,b,rfl⟩:=eK m;exact⟨la,b,rfl,m,d,u⟩
  ·rw[y]at p;exact absurd p dG
 ·exact absurd B oG
def rJ{w:World}{base:Nat}{e:TypeId}{size n:Nat}{v:Value}{xs:List Value}(h:w.ownsRow base e size v n xs){g:Nat}(a:v.ownBlock=Y g):g<w.1.size:=(h.lt g a).2
def TD:Nat->Ending->Value->Prop
 |0,r,l=>r=.returned l
 |1,r,l=>r=.returned (.tuple #[])/\l=J Z 0 0
 |_,r,l=>(∃b,r=.returned (.bool b))/\l=J Z 0 0
def sC(k:Int)(j c:Nat)(hk:(k=2/\j=197/\c=0)∨(k=4/\j=198/\c=0)∨(k=10/\j=203/\c=0)∨(k=5/\j=199/\c=1)∨(k=8/\j=202/\c=1)∨(k=6/\j=200/\c=2))(Nd:Nat)(x:NB)(K:List UInt8)(vb:Value)(f e b wa p s q bl v:Int)(a:List Int)(w:World)(hn:dI w Nd x.arr 192)(ht:dY w)(i:gU w w.1.size vb K)(hD:pM K k f e b wa p s q bl v a 0)(u:x.5=false)(a1:(f==x.id)=false)(a0:decide (x.2<=f)=false)(Q:Value->World->Prop)(hC:∀W la d,Bw w W->fU W w.1.size (J la a.length d) a->qN (J la a.length d) a->Calls pG j #[P0 (Y ⟨Nd,0,Z⟩),.agg (mA k f e b wa p s q bl v (J la a.length d))] W λr W1=>∃l,TD c r l/\Q l W1):Calls pG 143 #[P0 (Y ⟨Nd,0,Z⟩),vb] w λr w'=>∃l,r=.returned l/\Q l w':=by
 have HC:=dF hC;have n:=dF hn;have z:=dF (sP K vb w ht i k f e b wa p s q bl v a hD);have U:=dF u;clear hC hn ht i hD u;go_enter func143,ntmps143;go_wp2_with fail;refine z.mono ?_;rintro r w1 ⟨la,d,rfl,C,D,m⟩;have B:=m.size;have H:=dF (dI.new w1 (mA k f e b wa p s q bl v (J la a.length d)) 136);have E:Hid (Bw w (w1.alloc (G (mA k f e b wa p s q bl v (J la a.length d)) 136))):=m.alloc B _;have R:Hid (fU (w1.alloc (G (mA k f e b wa p s q bl v (J la a.length d)) 136)) w.1.size (J la a.length d) a):=World.ownsRow.alloc C _;have F:=dF (n.later E);have M:=dF D;clear C m D z n;go_upto_region 2 with fail;generalize World.alloc _ _=W0 at*;generalize w1.1.size=X at*;have hX:w.1.size<=X:=B;have t:=E.size;have m1:=H.cell 1;have c0:=F.cell 0;have c1:=F.cell 1;have V:=F.cell 4;simp at m1 c0 c1 V;rw[U.out]at V;go_cut [37] (λs37 wx=>s37=.bool false/\Bw W0 wx);case first=>go_quiet (fail);go_wp2_with fail;go_meet;exact⟨rfl,below_drewN b_ _⟩
 obtain⟨rfl,h⟩:=hcut;obtain⟨W3,S⟩:∃y,y=wc:=⟨_,rfl⟩;subst S;have L:=dF (E.trans (h.mono t));have A:=dF (H.later h);have N:=dF (dW R (λg hg=>h.block g (rJ R hg)));clear h E H F R t m1 c0 c1 V;have O:=dF (A.range (o:=0) (cs:=[I k,I f,I e,I b,I wa,I p,I s,I q,I bl,I v,J la a.length d]) rfl);have m0:=A.cell 0;simp at m0;rcases hk with⟨rfl,rfl,rfl⟩|⟨rfl,rfl,rfl⟩|⟨rfl,rfl,rfl⟩|⟨rfl,rfl,rfl⟩|⟨rfl,rfl,rfl⟩|⟨rfl,rfl,rfl⟩;all_goals
  go_wp2_with(refine wpList_load_mid rfl 136 _ rfl X 0 rfl [I _,I f,I e,I b,I wa,I p,I s,I q,I bl,I v,J la a.length d] _ O underlying136 rfl kG ?_)
  refine(HC.out W3 la d L N M).mono ?_
  rintro r w4 ⟨l,i,hq⟩
  clear m0
  first|(have i:r=.returned l:=i;subst i)|(obtain⟨⟨bb,rfl⟩,rfl⟩:=i)|(obtain⟨rfl,rfl⟩:=i)
  go_wp2
  go_ret
  exact⟨_,rfl,hq⟩
def vV(k:Int)(M:Nat)(hk:(k=1/\M=196)∨(k=3/\M=196)∨(k=7/\M=201)∨(k=9/\M=201))(Nd:Nat)(x:NB)(bs:List UInt8)(vb:Value)(f e b wa p s q bl v:Int)(a:List Int)(w:World)(hn:dI w Nd x.arr 192)(ht:dY w)(hr:gU w w.1.size vb bs)(hD:pM bs k f e b wa p s q bl v a 0)(E:x.5=false)(a7:(f==x.id)=false)(a5:decide (x.2<=f)=false)(Q:Value->World->Prop)(hC:∀W X la c,Bw w W->w.1.size<=X->dI W X (mA k f e b wa p s q bl v (J la a.length c)) 136->fU W w.1.size (J la a.length c) a->Calls pG M #[P0 (Y ⟨Nd,0,Z⟩),.agg (mA k f e b wa p s q bl v (J la a.length c))] W λr W1=>∃m:iO,r=.returned m.ag/\dI W1 X (mA k f e b wa p s q bl v (J la a.length c)) 136/\Calls pG 195 #[P0 (Y ⟨Nd,0,Z⟩),.agg (mA k f e b wa p s q bl v (J la a.length c)),m.ag] W1 λr2 W2=>∃l,r2=.returned l/\dI W2 X (mA k f e b wa p s q bl v (J la a.length c)) 136/\Q l W2):Calls pG 143 #[P0 (Y ⟨Nd,0,Z⟩),vb] w λr w'=>∃l,r=.returned l/\Q l w':=by
 have HC:=dF hC;have n:=dF hn;have u:=dF (sP bs vb w ht hr k f e b wa p s q bl v a hD);have a1:=dF E;clear hC hn ht hr hD E;go_enter func143,ntmps143;go_wp2_with fail;refine u.mono ?_;rintro r w1 ⟨la,c,rfl,B,H,j⟩;have A:=j.size;have R:=dF (dI.new w1 (mA k f e b wa p s q bl v (J la a.length c)) 136);have O:Hid (Bw w (w1.alloc (G (mA k f e b wa p s q bl v (J la a.length c)) 136))):=j.alloc A _;have HO:Hid (fU (w1.alloc (G (mA k f e b wa p s q bl v (J la a.length c)) 136)) w.1.size (J la a.length c) a):=World.ownsRow.alloc B _;have N:=dF (n.later O);have a4:=dF H;clear B j H u n;go_upto_region 2 with fail;generalize World.alloc _ _=W0 at*;generalize w1.1.size=X at*;have hX:w.1.size<=X:=A;have D:=O.size;have m1:=R.cell 1;have c0:=N.cell 0;have c1:=N.cell 1;have c4:=N.cell 4;simp at m1 c0 c1 c4;rw[a1.out]at c4;go_cut [37] (λs37 wx=>s37=.bool false/\Bw W0 wx);case first=>go_quiet (fail);go_wp2_with fail;go_meet;exact⟨rfl,below_drewN b_ _⟩
 obtain⟨rfl,d⟩:=hcut;obtain⟨W3,a0⟩:∃y,y=wc:=⟨_,rfl⟩;subst a0;have V:=dF (O.trans (d.mono D));have h:=dF (R.later d);have a3:=dF (dW HO (λg hg=>d.block g (rJ HO hg)));clear d O R N HO D m1 c0 c1 c4;have a6:=dF (h.range (o:=0) (cs:=[I k,I f,I e,I b,I wa,I p,I s,I q,I bl,I v,J la a.length c]) rfl);have m0:=h.cell 0;simp at m0;rcases hk with⟨rfl,rfl⟩|⟨rfl,rfl⟩|⟨rfl,rfl⟩|⟨rfl,rfl⟩;iterate 2
  go_upto_region 7 with fail
  rotate_left
 iterate 2
  go_upto_region 18 with fail
  rotate_left
 all_goals
  clear m0
  refine eZ (S:=(λw'=>dI w' X (mA _ f e b wa p s q bl v (J la a.length c)) 136)) (λ_=>?_) (hS:=h.drew)
  refine dH 0 ?_;refine i4 1 X 0 [I _,I f,I e,I b,I wa,I p,I s,I q,I bl,I v,J la a.length c] ?_ (λw i=>i.range rfl);refine dH 2 ?_;refine i4 3 X 0 [I _,I f,I e,I b,I wa,I p,I s,I q,I bl,I v,J la a.length c] ?_ (λw i=>i.range rfl)
  refine dT 4 λK F=>?_
  (try go_simp)
  first|go_at_call 196|go_at_call 201
  refine(HC.out W3.drew X la c V.drew hX h.drew (dW a3 (λ_ _=>rfl))).mono ?_
  rintro r w4 ⟨m,rfl,z,L⟩
  have U:=dF z;have a2:=dF L
  clear z L
  refine kr F 5 (λK F=>?_) U
  (try go_simp)
  go_at_call 195
  refine Calls.mono a2 ?_
  rintro r w5 ⟨l,rfl,C,hq⟩
  have t:=dF C
  clear C
  refine kr F 6 (λK F=>?_) t
  (try go_simp)
  refine kd F ?_ t
  go_wp2
  go_ret
  exact⟨_,rfl,hq⟩
def rU(n:Nat):List Nat->Nat
 | []=>0
 |F::l=>(if F=0 then 0 else if F=9 then 1+8*n else 8)+rU n l
def MO(a b:List Int)(l:List Nat):(l.flatMap (jN a b)).length=rU b.length l:=by
 induction l with
 |nil=>rfl
 |cons F l ih=>
  rw[List.flatMap_cons,List.length_append,ih,rU];congr 1;unfold jN;split;·rfl
  split;·rw[List.length_append,wF,lX]
  ·rw[lX]
def MP(n:Nat)(a:n<=4):∀l:List Nat,rU n l<=33*l.length:=by
 intro l;induction l with
 |nil=>simp[rU]
 |cons F l ih=>
  rw[rU,List.length_cons];split;·omega
  split<;>omega
def BZ(w:World)(s:ByteArray)(hs:s.size<=maxLen)(a:Nat×Nat):gU (w.alloc (Obj.cells (bytesRow s (grownCap w s.size 0 5)) 5 a)).drew (w.alloc (Obj.cells (bytesRow s (grownCap w s.size 0 5)) 5 a)).drew.1.size (.slice (some ⟨w.1.size,0,none⟩) s.size (grownCap w s.size 0 5)) s.data.toList:=by
 have e:s.data.toList.length=s.size:=Array.length_toList;refine⟨some ⟨w.1.size,0,none⟩,grownCap w s.size 0 5,by rw[e],by rw[e];exact grownCap_ge _ _ _ _,grownCap_le_maxLen _ _ _ _ hs,.inr ⟨w.1.size,0,rfl,?_,λj c=>?_⟩⟩;·show w.1.size<(w.alloc _).1.size;simp
 ·have b:(w.alloc (Obj.cells (bytesRow s (grownCap w s.size 0 5)) 5 a)).drew.cell? ⟨w.1.size,0+j,none⟩=(bytesRow s (grownCap w s.size 0 5))[0+j]?:=cell_of_row (w.alloc (Obj.cells (bytesRow s (grownCap w s.size 0 5)) 5 a)).drew w.1.size (0+j) _ 5 a (heap_alloc_new w _);rw[b,Nat.zero_add,bytesRow_at s _ j (by simpa using c)];simp
def iT(m:dN):Prop:=fP m.k m.f [0,m.e,m.b,m.wa,m.p,m.s,m.q,m.bl,m.v,(m.zs.length:Int)]=true/\∀z∈m.zs,i_ z
def dN.pk(m:dN):List UInt8:=gR m.k m.f m.e m.b m.wa m.p m.s m.q m.bl m.v m.zs
def yS{m:dN}(h:iT m):m.pk.length<=171/\6<=m.pk.length:=by obtain⟨b,d,c,e,a⟩:=rD h.1;unfold dN.pk gR kE mV;rw[List.length_append,List.length_append,MO,lX];simp only[List.length_cons,List.length_nil];have:=MP m.zs.length a (fD m.k.toNat);rw[uB m.k.toNat oG]at this;omega
def C1{m:dN}(h:iT m):fE m=UInt8.ofNat m.pk.length::m.pk:=by unfold fE lO pR;rw[if_pos h.1];rfl
def pV(j:List UInt8):Prop:=j=[]∨∃x t,j=x::t/\t.length<x.toNat
def dN.co(m:dN):dN:={m with a:=none,c:=0}
def zL(w:World)(base:Nat)(l:Value)(ms:List dN):Prop:=∃ms':List dN,w.ownsRow base 136 11 l ms.length (ms'.flatMap dN.cells)/\ms'.map dN.co=ms.map dN.co/\∀m∈ms',fU w base (J m.a m.zs.length m.c) m.zs
def F4(v:Value):Nat:=match v with
 |.string s=>s.size
 |_=>0
def GZ(ms:List dN)(i:List UInt8)(w:World)(ht:dY w)(ad:∀m∈ms,iT m)(hj:pV i)(hl:ms.length<=100000000):Calls pG 218 #[.string (dL (ms.flatMap fE++i))] w λr w'=>∃l,r=.returned (.tuple #[l,.bool (i==[])])/\zL w' w.1.size l ms/\Bw w w':=by
 have HT:=dF ht;have aw:=dF ad;have HJ:=dF hj;clear ht ad hj;go_enter func218,ntmps218;go_upto_region 1 with fail;go_loopw [0,2] (λs0 s2 wr=>∃dn M,ms=dn++M/\s0=.string (dL (M.flatMap fE++i))/\zL wr w.1.size s2 dn/\Bw w wr) (λs0 s2 wr=>F4 s0);case atStart=>exact⟨[],ms,rfl,rfl,⟨[],World.ownsRow_nil _ _ _ _,rfl,λm D=>by cases D⟩,Below.refl _ _⟩
 case round=>
  obtain⟨dn,M,rfl,rfl,ah,ai⟩:=hrel;have z:=dF ah;have E:=dF ai;clear ah ai;rcases M with _|⟨m,ag⟩
  ·simp only[List.flatMap_nil,List.nil_append];rcases HJ.out with rfl|⟨x,tl,rfl,hx⟩;·obtain⟨t,d,B,C⟩:=z.out;obtain⟨ra,rc,rfl⟩:=eK d;have S:(dL []).size=0:=rfl;go_wp2;go_ret2;exact⟨_,rfl,by rw[List.append_nil];exact z,E⟩
   ·obtain⟨t,d,B,C⟩:=z.out;obtain⟨ra,rc,rfl⟩:=eK d;have S:(dL (x::tl)).size=tl.length+1:=rfl;have L:∀h,(dL (x::tl))[0]'h=x:=λ_=>rfl;have H:=x.toNat_lt;have aa:wrap64 (x.toNat:Int)=(x.toNat:Int):=IntWalk.wrap64_in _ oG;have ao:wrap64 (1+(x.toNat:Int))=1+(x.toNat:Int):=IntWalk.wrap64_in _ oG;have ac:decide ((tl.length:Int)+1<1+(x.toNat:Int))=true:=nG;have HX:=dF hx;clear hx H d B C;go_wp2;go_ret2;exact⟨_,rfl,by rw[List.append_nil];exact z,E⟩
  have hR:=aw.out m sG;have ab:=dF (D5 m.k m.f m.e m.b m.wa m.p m.s m.q m.bl m.v m.zs hR.1 hR.2);have al:=yS hR;have aE:=dF (rD hR.1).2.2.2.2;simp only[List.flatMap_cons,C1 hR,List.append_assoc,List.cons_append];obtain⟨R,a3⟩:∃y,ag.flatMap fE++i=y:=⟨_,rfl⟩;rw[a3];obtain⟨pk,O⟩:∃y,m.pk=y:=⟨_,rfl⟩;rw[O]at al⊢;have aq:Hid (pM pk m.k m.f m.e m.b m.wa m.p m.s m.q m.bl m.v m.zs 0):=by unfold Hid;rw[←O];exact ab
  have aC:=dF a3;have aF:=dF O;clear a3 O ab hR;obtain⟨t,d,B,C⟩:=z.out;obtain⟨ra,rc,rfl⟩:=eK d;have V:=dF d;have au:=dF B;have a2:=dF C;clear d B C z;obtain⟨x,hx⟩:∃y,UInt8.ofNat pk.length=y:=⟨_,rfl⟩;have H:(x.toNat:Int)=(pk.length:Int):=by rw[←hx,UInt8.toNat_ofNat'];omega
  rw[hx];have HX:=dF hx;clear hx;have S:(dL (x::(pk++R))).size=(pk++R).length+1:=rfl;have L:∀h,(dL (x::(pk++R)))[0]'h=x:=λ_=>rfl;have aa:wrap64 (x.toNat:Int)=(pk.length:Int):=by rw[H];exact IntWalk.wrap64_in _ oG
  have ao:wrap64 (1+(pk.length:Int))=1+(pk.length:Int):=IntWalk.wrap64_in _ oG;have ac:decide (((pk++R).length:Int)+1<1+(pk.length:Int))=false:=nG;have aA:(dL (x::(pk++R))).extract 1 (1+(pk.length:Int)).toNat=dL pk:=by apply ByteArray.ext;have U:(1+(pk.length:Int)).toNat=pk.length+1:=oG;rw[U];simp[dL,ByteArray.data_extract]
  have a0:=λw=>run_bytes_of_string (P:=pG) w 9 148 5 (dL pk) underlying9 underlying148 underlying5;have aD:(dL (x::(pk++R))).extract (1+(pk.length:Int)).toNat (pk.length+R.length+1)=dL R:=by apply ByteArray.ext;have U:(1+(pk.length:Int)).toNat=pk.length+1:=oG;rw[U];simp[dL,ByteArray.data_extract]
  clear H;go_wp2_with fail;have a6:=BZ wr (dL pk) (by rw[oB];unfold maxLen;omega) ((bytesRow (dL pk) (grownCap wr (dL pk).size 0 5)).size,(bytesRow (dL pk) (grownCap wr (dL pk).size 0 5)).size+1);have N:=((Below.refl wr.1.size wr).alloc r_ (Obj.cells (bytesRow (dL pk) (grownCap wr (dL pk).size 0 5)) 5 ((bytesRow (dL pk) (grownCap wr (dL pk).size 0 5)).size,(bytesRow (dL pk) (grownCap wr (dL pk).size 0 5)).size+1))).drew;clear a0;generalize (World.alloc _ _).drew=W5 at*;have a4:=E.size;refine(sP pk _ W5 (HT.below (E.trans (N.mono a4)) HT.two) a6 m.k m.f m.e m.b m.wa m.p m.s m.q m.bl m.v m.zs aq).mono ?_;rintro r w6 ⟨la,Q,rfl,ho,az,a1⟩;have af:=N.size;have aj:Bw wr (w6.alloc (G (mA m.k m.f m.e m.b m.wa m.p m.s m.q m.bl m.v (J la m.zs.length Q)) 136)):=(N.trans (a1.mono af)).alloc (by have:=a1.size;omega) _;have ap:=dF (dI.new w6 (mA m.k m.f m.e m.b m.wa m.p m.s m.q m.bl m.v (J la m.zs.length Q)) 136);have aB:Hid (fU (w6.alloc (G (mA m.k m.f m.e m.b m.wa m.p m.s m.q m.bl m.v (J la m.zs.length Q)) 136)) w.1.size (J la m.zs.length Q) m.zs):=fU.low (World.ownsRow.alloc ho _) oG;have K:=dF aj;clear ho az a1 aj a6 N af aa ac aA L;go_upto_region 8 with fail;generalize World.alloc _ _=F at*;generalize w6.1.size=X at*;have n:Hid (F.ownsRow w.1.size 136 11 (J ra dn.length rc) dn.length (t.flatMap dN.cells)):=dW V (λg A=>K.block g (V.lt g A).2);have a8:Hid (∀m∈t,fU F w.1.size (J m.a m.zs.length m.c) m.zs):=λm D=>dW (a2.out m D) (λg A=>K.block g ((a2.out m D).lt g A).2);have an:=dF (ap.range (o:=0) (cs:=[I m.k,I m.f,I m.e,I m.b,I m.wa,I m.p,I m.s,I m.q,I m.bl,I m.v,J la m.zs.length Q]) rfl);have av:w.1.size<=F.1.size:=Nat.le_trans a4 K.size;have aG:dn.length<=100000000:=by simp at hl;omega
  obtain⟨i0,L,ax,ay,ar⟩:=info_parts xQ;clear V a2;go_wp2_with(first|(refine wpList_load_mid rfl 136 _ rfl X 0 rfl [I m.k,I m.f,I m.e,I m.b,I m.wa,I m.p,I m.s,I m.q,I m.bl,I m.v,J la m.zs.length Q] _ an underlying136 rfl kG ?_)|(at_builtin;go_loud (refine wpList_append_own _ rfl _ _ 22 rfl w.1.size 136 i0 (.agg mz) 11 104 underlying22 L ax ay ar rfl dG (J ra dn.length rc) dn.length (t.flatMap dN.cells) rfl ?c0 ⟨F.1.size,0,Z⟩ 1 1 [I m.k,I m.f,I m.e,I m.b,I m.wa,I m.p,I m.s,I m.q,I m.bl,I m.v,J la m.zs.length Q] rfl rfl ?c1 ?c2 ?c3 ?c4 ?c5 ?_)));case c0=>exact dW n (λg A=>heap_alloc_old _ _ (n.lt g A).2)
  case c1=>first|exact λj u hu=>hu|exact sS F F.1.size rfl _ 136
  case c2=>intro u hu;simp at hu;rcases hu with rfl|rfl|rfl|rfl|rfl|rfl|rfl|rfl|rfl|rfl|rfl<;>rfl
  case c3=>unfold maxLen;omega
  case c4=>omega
  case c5=>first|omega|(simp;omega)
  intro v' w8 W a5 a9;obtain⟨va,vc,rfl⟩:=eK W;have ak:∀g a7,g<F.1.size->F.1[g]?=Y (.cells a7 3 (0,0))->w8.1[g]?=F.1[g]?:=λg a7 hl A=>(a5.block g nG (λhh=>by obtain⟨c9,U⟩:=fC n hh.symm;rw[A]at U;simp at U)).trans (heap_alloc_old _ _ hl);have am:Hid (Bw w w8):=((E.trans (K.mono a4)).alloc av _).grown a5 nG (λg A=>(n.lt g A).1);have ae:Hid (zL w8 w.1.size (J va (dn.length+1) vc) (dn++[m])):=by
   have hi:∀{l:Value} {zs:List Int},fU F w.1.size l zs->fU w8 w.1.size l zs:=λh=>dW h (λg A=>by obtain⟨c9,U⟩:=fC h A;exact ak g c9 (h.lt g A).2 U);refine⟨t++[{m with a:=la,c:=Q}],?_,?_,λm' D=>?_⟩;·simpa[dN.cells] using W
   ·simp[au.out,dN.co]
   ·rcases List.mem_append.1 D with D|D;·exact hi (a8.out m' D)
    ·simp at D;subst D;exact hi aB
  clear W a5 a9 ak;go_wp2_with fail;go_roundw;case rel=>exact⟨dn++[m],ag,sG,by rw[aC.out],ae,am⟩
  case measure=>simp[F4,oB];omega
def MQ(w:World)(cs:Array Value)(a:Int):((((w.alloc (G cs 198)).alloc (G #[I 0,I 0,I a] 66)).alloc (Obj.map #[] 0)).ownsRow w.1.size 66 3 (J (Y ⟨w.1.size+1,0,Z⟩) 1 1) 1 [I 0,I 0,I a])/\VM (((w.alloc (G cs 198)).alloc (G #[I 0,I 0,I a] 66)).alloc (Obj.map #[] 0)) (w.1.size+1+1) []/\Below w.1.size w (((w.alloc (G cs 198)).alloc (G #[I 0,I 0,I a] 66)).alloc (Obj.map #[] 0)):=by
 have s1:(w.alloc (G cs 198)).1.size=w.1.size+1:=sG;have s2:((w.alloc (G cs 198)).alloc (G #[I 0,I 0,I a] 66)).1.size=w.1.size+1+1:=sG;have d:=(dI.new (w.alloc (G cs 198)) #[I 0,I 0,I a] 66).old (Obj.map #[] 0);rw[s1]at d;have c:=heap_alloc_new ((w.alloc (G cs 198)).alloc (G #[I 0,I 0,I a] 66)) (Obj.map #[] 0);rw[s2]at c;refine⟨⟨rfl,.inr ⟨w.1.size+1,1,_,rfl,oG,d.blk,Nat.le_refl _,dG,rfl,rfl⟩⟩,⟨#[],0,c,rfl,?_⟩,?_⟩;·exact⟨λb e=>by simp at e,sG⟩
 ·exact(((Below.refl w.1.size w).alloc r_ _).alloc (by rw[s1];omega) _).alloc (by rw[s2];omega) _
def GQ(id nodes a:Int)(w:World)(hs:(nodes=2/\a=3)∨(nodes=3/\a=7)∨(nodes=4/\a=15)∨(nodes=5/\a=31)):Calls pG 219 #[I id,I nodes] w λr w'=>∃(vr:Value) (Mp:Nat),r=.returned (.agg #[I id,vr,Value.map (Y Mp),I 0,I 0,I 0,I 0,I 0,I 0])/\w'.ownsRow w.1.size 66 3 vr 1 [I 0,I 0,I a]/\VM w' Mp []/\w.1.size<=Mp/\Below w.1.size w w':=by
 have d:Hid (∀cs,_):=λcs=>MQ w cs a;rcases hs with⟨rfl,rfl⟩|⟨rfl,rfl⟩|⟨rfl,rfl⟩|⟨rfl,rfl⟩;all_goals 
  have c:=@run_makeMap pG
  go_enter func219,ntmps219
  go_wp2
  have b:=d.out #[I id,J (Y ⟨w.1.size+1,0,Z⟩) 1 1,Value.map (Y (w.1.size+1+1)),I 0,I 0,I 0,I 0,I 0,I 0]
  exact bodyPost_ret (v:=.agg #[I id,J (Y ⟨w.1.size+1,0,Z⟩) 1 1,Value.map (Y (w.1.size+1+1)),I 0,I 0,I 0,I 0,I 0,I 0]) (by simp[results,results219,go_sem]) rfl ⟨_,_,rfl,b.1,b.2.1,oG,b.2.2⟩
def SD.play(d:SD)(ms:List dN):SD:=ms.foldl SD.stepM d
def D6{m a:dN}(h:a.co=m.co)(d:SD):d.stepM a=d.stepM m/\a.k=m.k/\a.bl=m.bl/\a.zs=m.zs/\a.e=m.e:=by unfold dN.co at h;cases m;cases a;simp only[dN.mk.injEq]at h;obtain⟨rfl,rfl,rfl,rfl,rfl,rfl,rfl,rfl,rfl,rfl,_,_,rfl⟩:=h;exact⟨rfl,rfl,rfl,rfl,rfl⟩
def xW:∀(a ms:List dN) (d:SD),a.map dN.co=ms.map dN.co->d.play a=d.play ms
 | [],[],d,_=>rfl
 | [],_::_,d,h=>by simp at h
 |_::_,[],d,h=>by simp at h
 |m'::a,m::ms,d,h=>by simp only[List.map_cons,List.cons.injEq]at h;unfold SD.play;simp only[List.foldl_cons];rw[(D6 h.1 d).1];exact xW a ms _ h.2
def sQ(d:SD)(ms:List dN)(m:dN):d.play (ms++[m])=(d.play ms).stepM m:=by simp[SD.play]
def KT(d:SD)(ms a:List dN):(d.play ms).recs.length<=(d.play (ms++a)).recs.length:=by
 induction a generalizing ms with
 |nil=>simp
 |cons m a ih=>have h:=ih (ms++[m]);rw[List.append_assoc]at h;refine Nat.le_trans ?_ h;rw[sQ];exact(qD _ _ _ _ _ _ _ _ _ _).1
def uV(ms:List dN):∀d:SD,(d.play ms).id=d.id/\(d.play ms).lines=d.lines/\(d.play ms).wh=d.wh:=by
 induction ms with
 |nil=>exact λd=>⟨rfl,rfl,rfl⟩
 |cons m ms ih=>
  intro d;have h:=ih (d.stepM m);have s:=qD d m.k m.e m.b m.p m.s m.q m.bl m.v m.zs;have a:(d.stepM m).wh=d.wh:=by
   unfold SD.stepM SD.step SD.lg SD.learn;repeat' split
   all_goals rfl
  unfold SD.play at h⊢;simp only[List.foldl_cons];exact⟨h.1.trans s.2.2.2.2.1,h.2.1.trans s.2.2.2.1,h.2.2.trans a⟩
def MR(low:Nat)(id nodes F:Int)(D H S:Nat)(va:Value)(fs:List FD)(left:Int)(L:Nat)(ms:List dN)(o:List UInt8)(w:World)(hk:gB w low D H S va fs left L)(hL:L<=24000000000)(am:low<=w.1.size)(ht:dY w)(hs:(nodes=2/\F=3)∨(nodes=3/\F=7)∨(nodes=4/\F=15)∨(nodes=5/\F=31))(b0:0<=id/\id<5)(ay:(fQ (dX fs eY)).d=ms.flatMap fE++o)(aK:∀m∈ms,iT m)(hj:pV o)(hl:ms.length<=100000000)(aJ:∀m∈ms,iI m.k m.bl m.zs.length/\e_ m.e)(aw:((⟨id,[⟨0,0,F⟩],[],0,0,0,0,0,0,(ms.length:Int),o==[]⟩:SD).play ms).recs.length<=26000000):Calls pG 161 #[I id,I nodes,P0 (Y ⟨D,0,Z⟩)] w λr w'=>∃(St:Nat) (vr:Value) (Mp:Nat),r=.returned (P0 (Y ⟨St,0,Z⟩))/\eI w' low St ((⟨id,[⟨0,0,F⟩],[],0,0,0,0,0,0,(ms.length:Int),o==[]⟩:SD).play ms) vr Mp D/\w.1.size<=St/\w.1.size<=Mp/\(∀g,vr.ownBlock=Y g->w.1.size<=g)/\Below w.1.size w w':=by
 have HK:=dF hk;have b3:=dF hs;have b5:=dF aJ;have aT:=dF aw;have av:=dF (GZ ms o w ht aK hj hl);have ac:=dF (J9 low D H S va fs left eY w hk.hands hk.ds (by have:=hk.fl;omega));rw[ay]at ac;clear hk hs aJ aw aK hj ay ht;generalize (o==[])=N at*;generalize ms.flatMap fE++o=tx at*;go_enter func161,ntmps161;go_wp2_with fail;refine ac.mono ?_;rintro r w0 ⟨rfl,aZ⟩;obtain rfl:=aZ.symm;go_wp2_with fail;refine av.mono ?_;rintro r w1 ⟨l,rfl,⟨h,M,a8,U⟩,al⟩;obtain⟨xa,xc,rfl⟩:=eK M;have a7:=dF M;have ah:=dF a8;have ag:=dF U;have aE:=dF al;have aC:=al.size;have bd:h.length=ms.length:=by have j:=congrArg List.length a8;simpa using j
 clear M a8 U al ac av;go_wp2_with fail;refine(GQ id nodes F w1 b3).mono ?_;rintro r w2 ⟨vr,Mp,rfl,ho,hv,be,hb⟩;obtain⟨ra,rc,rfl⟩:=eK ho;have aP:=hb.size;have a1:Below w1.1.size w1 (w2.alloc (G #[I id,J ra 1 rc,Value.map (Y Mp),I 0,I 0,I 0,I 0,I 0,I 0,P0 (Y ⟨D,0,Z⟩),I (ms.length:Int),bool N] 200)):=hb.alloc aP _;have aL:Hid (eI (w2.alloc (G #[I id,J ra 1 rc,Value.map (Y Mp),I 0,I 0,I 0,I 0,I 0,I 0,P0 (Y ⟨D,0,Z⟩),I (ms.length:Int),bool N] 200)) low w2.1.size (⟨id,[⟨0,0,F⟩],[],0,0,0,0,0,0,(ms.length:Int),N⟩:SD) (J ra 1 rc) Mp D):=⟨dI.new w2 #[I id,J ra 1 rc,Value.map (Y Mp),I 0,I 0,I 0,I 0,I 0,I 0,P0 (Y ⟨D,0,Z⟩),I (ms.length:Int),bool N] 200,pB (World.ownsRow.alloc ho _) oG,hv.later (a_ _ _)⟩;have aF:Hid (∀g,Value.ownBlock (J ra 1 rc)=some g->w1.1.size<=g):=λg x=>(ho.lt g x).1;have a6:Hid ((w2.alloc (G #[I id,J ra 1 rc,Value.map (Y Mp),I 0,I 0,I 0,I 0,I 0,I 0,P0 (Y ⟨D,0,Z⟩),I (ms.length:Int),bool N] 200)).ownsRow w.1.size 136 11 (J xa ms.length xc) ms.length (h.flatMap dN.cells)):=dW a7 (λg x=>a1.block g (a7.lt g x).2);have a5:Hid (∀m∈h,fU (w2.alloc (G #[I id,J ra 1 rc,Value.map (Y Mp),I 0,I 0,I 0,I 0,I 0,I 0,P0 (Y ⟨D,0,Z⟩),I (ms.length:Int),bool N] 200)) w.1.size (J m.a m.zs.length m.c) m.zs):=λm hm=>dW (ag.out m hm) (λg x=>a1.block g ((ag.out m hm).lt g x).2);have af:Hid (Below w.1.size w (w2.alloc (G #[I id,J ra 1 rc,Value.map (Y Mp),I 0,I 0,I 0,I 0,I 0,I 0,P0 (Y ⟨D,0,Z⟩),I (ms.length:Int),bool N] 200))):=aE.trans (a1.mono aC);have b6:w.1.size<=w2.1.size:=oG;clear ho hv hb a1 a7 ag aE;go_upto_region 4 with fail;generalize World.alloc _ _=W3 at*;generalize w2.1.size=St at*;have b9:=af.size;go_loopw [29] (λs29 wr=>∃(t:Nat) (vr:Value),t<=ms.length/\s29=I (t:Int)/\eI wr low St ((⟨id,[⟨0,0,F⟩],[],0,0,0,0,0,0,(ms.length:Int),N⟩:SD).play (h.take t)) vr Mp D/\(∀g,vr.ownBlock=some g->w.1.size<=g)/\wr.ownsRow w.1.size 136 11 (J xa ms.length xc) ms.length (h.flatMap dN.cells)/\(∀m∈h,fU wr w.1.size (J m.a m.zs.length m.c) m.zs)/\Below w.1.size w wr) (λs29 wr=>ms.length - (intOf s29).toNat);case atStart=>exact⟨0,J ra 1 rc,oG,rfl,aL,λg x=>Nat.le_trans aC (aF.out g x),a6,a5,af⟩
 case round=>
  obtain⟨t,vr,ba,rfl,aq,aI,M,U,ab⟩:=hrel;have ai:=dF aq;have a9:=dF aI;have a2:=dF M;have a0:=dF U;have V:=dF ab;have aU:=ab.size;clear aq aI M U ab aL aF a6 a5 af;by_cases aH:t<ms.length
  ·obtain⟨g,bf,h1,x,hc⟩:=(fM.ig a2).at oG;cases h1;have a4:h[t].co=ms[t].co:=by have j:=congrArg (λl:List dN=>l[t]?) ah;simp only[List.getElem?_map,List.getElem?_eq_getElem (show t<h.length by omega),List.getElem?_eq_getElem aH]at j;simpa using j
   have W:=b5.out ms[t] (List.getElem_mem aH);have Q:=D6 a4 (⟨id,[⟨0,0,F⟩],[],0,0,0,0,0,0,(ms.length:Int),N⟩:SD);rw[←Q.2.1,←Q.2.2.1,←Q.2.2.2.1,←Q.2.2.2.2]at W;have O:=a0.out h[t] (List.getElem_mem oG);have aj:h.take (t+1)=h.take t++[h[t]]:=List.take_succ_eq_append_getElem oG;have aA:=KT (⟨id,[⟨0,0,F⟩],[],0,0,0,0,0,0,(ms.length:Int),N⟩:SD) (h.take t) (h.drop t);rw[List.take_append_drop,xW h ms _ ah.out]at aA;have ae:wr.rangeAt g (t*11) (dN.cells h[t]):=by
    intro k u hu;have hk:k<11:=by have:=(List.getElem?_eq_some_iff.1 hu).1;simpa[dN.cells] using this
    rw[hc _ _ (lY dN.cells 11 F3 h t oG k hk)];rw[List.getD_eq_getElem?_getD,hu];rfl
   obtain⟨m,hm⟩:∃y,h[t]=y:=⟨_,rfl⟩;rw[hm]at W O aj ae;have b1:Hid (wr.rangeAt g (t*11) [I m.k,I m.f,I m.e,I m.b,I m.wa,I m.p,I m.s,I m.q,I m.bl,I m.v,J m.a m.zs.length m.c]):=ae;have aa:=dF O;have aM:=dF aj;have aG:=dF W;have ak:Below wr.1.size wr (wr.alloc (G (mA m.k m.f m.e m.b m.wa m.p m.s m.q m.bl m.v (J m.a m.zs.length m.c)) 136)):=a_ _ _;have HX:=dF (dI.new wr (mA m.k m.f m.e m.b m.wa m.p m.s m.q m.bl m.v (J m.a m.zs.length m.c)) 136);have z:=dF (ai.later ak);have B:=dF ak;have aY:=dF (uV (h.take t) (⟨id,[⟨0,0,F⟩],[],0,0,0,0,0,0,(ms.length:Int),N⟩:SD));clear a4 Q O aj ae hm W hc ak;go_upto_region 6 with(refine wpList_load_mid rfl 136 _ rfl g (t*11) rfl [I m.k,I m.f,I m.e,I m.b,I m.wa,I m.p,I m.s,I m.q,I m.bl,I m.v,J m.a m.zs.length m.c] _ b1 underlying136 rfl kG ?_);generalize World.alloc _ _=W5 at*;generalize bb:wr.1.size=X at*;have bc:=B.size;have az:=dF (dW aa (w':=W5.drew) (λg x=>B.block g (by have:=(aa.lt g x).2;omega)));obtain⟨_,aD⟩:=fU.ints az;have ax:∀ad,m.a=some ad->ad.block≠St:=λad ap i=>by
    rcases aa.2 with⟨j,_⟩|⟨g9,b8,b7,j,_,h8,_⟩;·rw[ap]at j;simp at j
    ·rw[ap]at j;simp at j;rw[j.1]at i;subst i;have h7:=ai.blk.blk;rw[h8]at h7;simp at h7
   have b2:=dF (BU low St _ vr Mp D m.k m.f m.e m.b m.wa m.p m.s m.q m.bl m.v m.a m.zs m.c W5.drew z.drew aD ax (by rw[aY.1];exact b0) (by have:=am;have:=aU;show low<=W5.1.size;omega) (Nat.le_trans aA aT) aG.2 aG.1);clear aD ax;refine eZ (S:=(λw'=>dI w' X (mA m.k m.f m.e m.b m.wa m.p m.s m.q m.bl m.v (J m.a m.zs.length m.c)) 136)) (λ_=>?_) (hS:=HX.drew);refine dH 0 ?_;refine dH 1 ?_;refine dH 2 ?_;refine i4 3 X 0 [I m.k,I m.f,I m.e,I m.b,I m.wa,I m.p,I m.s,I m.q,I m.bl,I m.v,J m.a m.zs.length m.c] ?_ (λw aR=>aR.range rfl);refine dT 4 λK hK=>?_;(try go_simp);go_at_call 220;refine b2.mono ?_;rintro r W6 ⟨rfl,au,a3,R,ao⟩;have aX:=dF (HX.drew.same (R.block X HX.drew.lt (λi=>by
    rcases i with i|i|i;·exact HX.drew.ne z.drew.blk dG i
    ·exact z.drew.jg.ne HX.drew i.symm
    ·obtain⟨c9,j⟩:=fC z.drew.ji i;rw[HX.drew.blk]at j;simp at j)))
   have C:dQ (λg=>g=St∨g=Mp∨vr.ownBlock=some g) W5 W6:=(dQ.of_below (A:=λ_=>False) (b_.drew)).trans R (λ_ i=>i.elim) (λ_ _ i=>i);clear R;refine kd hK ?_ aX;have an:∀g E,g<X->wr.1[g]?=some (.cells E 136 (0,0))->W6.1[g]?=wr.1[g]?:=λg E hl x=>(C.block g oG (λi=>by
    have n:W5.1[g]?=some (.cells E 136 (0,0)):=(B.block g hl).trans x;rcases i with i|i|i;·rw[i,z.blk.blk]at n;simp at n
    ·obtain⟨es,aN,h7,_⟩:=z.jg.1;rw[i,h7]at n;simp at n
    ·obtain⟨c9,j⟩:=fC z.ji i;rw[j]at n;simp at n)).trans (B.block g hl)
   have ar:∀g E,g<X->wr.1[g]?=some (.cells E 3 (0,0))->W6.1[g]?=wr.1[g]?:=λg E hl x=>(C.block g oG (λi=>by
    have n:W5.1[g]?=some (.cells E 3 (0,0)):=(B.block g hl).trans x;rcases i with i|i|i;·rw[i,z.blk.blk]at n;simp at n
    ·obtain⟨es,aN,h7,_⟩:=z.jg.1;rw[i,h7]at n;simp at n
    ·obtain⟨c9,j⟩:=fC z.ji i;rw[j]at n;simp at n)).trans (B.block g hl)
   have aS:Hid (Below w.1.size w W6):=⟨C.os.trans (B.os.trans V.os),C.tape.trans (B.tape.trans V.tape),C.output.trans (B.output.trans V.output),by have:=C.size;omega,λk hk=>(C.block k oG (λi=>by
    rcases i with i|i|i;·omega
    ·omega
    ·have:=a9.out k i;omega)).trans ((B.block k oG).trans (V.block k hk))⟩
   have aO:=dF (dW a2 (w':=W6) (λg x=>by obtain⟨c9,j⟩:=fC a2 x;exact an g c9 (by have:=(a2.lt g x).2;omega) j));have aV:Hid (∀m∈h,fU W6 w.1.size (J m.a m.zs.length m.c) m.zs):=λm hm=>dW (a0.out m hm) (λg x=>by obtain⟨c9,j⟩:=fC (a0.out m hm) x;exact ar g c9 (by have:=((a0.out m hm).lt g x).2;omega) j);have aW:=dF a3;have aQ:Hid (∀g,au.ownBlock=some g->w.1.size<=g):=λg x=>(ao g x).elim (a9.out g) (λj=>by have h8:W5.1.size<=g:=j;omega);clear a3 C ao an ar;go_wp2_with fail;go_roundw;case rel=>exact⟨t+1,au,oG,rfl,by rw[aM.out,sQ];exact aW,aQ,aO,aV,aS⟩
   case measure=>simp[intOf];omega
  obtain aB:h.take t=h:=List.take_of_length_le oG;have b4:Hid (eI wr low St ((⟨id,[⟨0,0,F⟩],[],0,0,0,0,0,0,(ms.length:Int),N⟩:SD).play ms) vr Mp D):=by unfold Hid;rw[←xW h ms _ ah.out];have j:=ai.out;rw[aB]at j;exact j
  clear aB;go_wp2;go_ret;exact⟨St,vr,Mp,rfl,b4,b6,oG,a9,V⟩
def E0(Nd:Nat)(x:NB)(j:List UInt8)(vb:Value)(k f e b wa p s q bl v:Int)(i:List Int)(w:World)(C:dI w Nd x.arr 192)(y:dY w)(B:gU w w.1.size vb j)(z:pM j k f e b wa p s q bl v i 0)(g:x.5=false)(a:(f==x.id)=true∨(f==x.id)=false/\decide (x.2<=f)=true):Calls pG 143 #[P0 (Y ⟨Nd,0,Z⟩),vb] w λr w'=>r=.returned (J Z 0 0)/\Bw w w':=by
 rcases a with a|⟨a,E⟩;all_goals
  have d:=dF C;have h:=dF (sP j vb w y B k f e b wa p s q bl v i z);have t:=dF g
  clear C y B z g
  go_enter func143,ntmps143
  go_wp2_with fail
  refine h.mono ?_
  rintro r w1 ⟨la,u,rfl,m,n,c⟩
  have l:=c.size
  have F:=dF (dI.new w1 (mA k f e b wa p s q bl v (J la i.length u)) 136)
  have A:Hid (Bw w (w1.alloc (G (mA k f e b wa p s q bl v (J la i.length u)) 136))):=c.alloc l _
  have o:=dF (d.later A)
  clear m c n h d
  go_upto_region 2 with fail
  generalize World.alloc _ _=L at*
  generalize w1.1.size=X at*
  have m1:=F.cell 1;have H:=o.cell 0;have K:=o.cell 1;have D:=o.cell 4;simp at m1 H K D;rw[t.out]at D
  go_quiet (fail)
  go_wp2
  go_ret
  exact⟨rfl,below_drewN A _⟩
def MS(Nd:Nat)(x:NB)(i:List UInt8)(vb:Value)(k f e b wa p s q bl v:Int)(h:List Int)(w:World)(z:dI w Nd x.arr 192)(o:dY w)(y:gU w w.1.size vb i)(t:pM i k f e b wa p s q bl v h 0)(d:x.5=true):Calls pG 143 #[P0 (Y ⟨Nd,0,Z⟩),vb] w λr w'=>r=.returned (J Z 0 0)/\Bw w w':=by have c:=dF z;have g:=dF (sP i vb w o y k f e b wa p s q bl v h t);have n:=dF d;clear z o y t d;go_enter func143,ntmps143;go_wp2_with fail;refine g.mono ?_;rintro r w1 ⟨la,B,rfl,l,m,a⟩;have j:=a.size;have u:Hid (Bw w (w1.alloc (G (mA k f e b wa p s q bl v (J la h.length B)) 136))):=a.alloc j _;have C:=dF (c.later u);clear l a m g c;go_upto_region 2 with fail;generalize World.alloc _ _=D at*;have A:=C.cell 4;simp at A;rw[n.out]at A;go_quiet (fail);go_wp2;go_ret;exact⟨rfl,below_drewN u _⟩
end Go.Proofs.YtdcainmlcpafbaaGreatDoor
