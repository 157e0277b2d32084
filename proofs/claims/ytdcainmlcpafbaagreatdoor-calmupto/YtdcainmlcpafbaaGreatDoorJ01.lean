import Derived.Test.YtdcainmlcpafbaaGreatDoorJ00
import Derived.Laws.BytesArg
import Derived.Laws.IdiomStrings
set_option linter.all false
set_option maxHeartbeats 8000000
set_option maxRecDepth 20000
namespace Go.Proofs.YtdcainmlcpafbaaGreatDoor
open Go.RowKit
open Value renaming slice->J,pointer->P0
open Tryz
open Tryz renaming prog->pG
open IntKind renaming i64->T
open Option renaming none->Z,some->Y
open Obj renaming cells->G
open Value (bool)
def kD:Nat->List UInt8->List Int->List UInt8×List Int
 |0,r,zs=>(r,zs)
 |n+1,r,zs=>kD n (iM r 8) (zs++[iR r 8])
structure Gs where
 rest:List UInt8
 nums:List Int
 vals:List Int
def kL(st:Gs)(F:Nat):Gs:=
 if F=0 then st
 else if F=9 then⟨(kD (iR st.rest 1).toNat (iM st.rest 1) st.vals).1,st.2,(kD (iR st.rest 1).toNat (iM st.rest 1) st.vals).2⟩
 else⟨iM st.rest 8,st.2.set F (iR st.rest 8),st.vals⟩
def jG(k j:Nat)(rest:List UInt8):Gs:=((fD k).take j).foldl kL ⟨rest,List.replicate 10 0,[]⟩
def LT(k j:Nat)(rest:List UInt8)(a:k<11)(b:j<5):jG k (j+1) rest=kL (jG k j rest) (fO k j):=by unfold jG;rw[AR k j a b,List.foldl_append];rfl
def JY(a:Gs)(F:Nat):(kL a F).2.length=a.2.length:=by
 unfold kL;split;·rfl
 split;·rfl
 ·simp
def NR(k j:Nat)(rest:List UInt8):(jG k j rest).2.length=10:=by
 unfold jG;have:∀(l:List Nat) (a:Gs),(l.foldl kL a).2.length=a.2.length:=by
  intro l;induction l with
  |nil=>intro a;rfl
  |cons f l ih=>intro a;rw[List.foldl_cons,ih,JY]
 rw[this];rfl
def AF(a:List UInt8):∃K:Nat,iR a 1=(K:Int)/\K<256:=by
 unfold iR;split;·exact⟨0,rfl,oG⟩
 ·rename_i h;match a,h with
  |x::r,_=>refine⟨x.toNat,?_,x.toNat_lt⟩;have b:=x.toNat_lt;simp only[qI,List.take_succ_cons,List.take_zero,k8,List.foldl_cons,List.foldl_nil];rw[IntWalk.wrap64_in _ oG];omega
def sY(B a:Nat)(v:Value)(c:List UInt8)(w:World)(b:a<=B)(g:w.cell? ⟨B,0,Z⟩=Y v)(d:w.frozen? ⟨B,0,Z⟩=false)(f:gU w a v c):
  Calls pG 250 #[P0 (Y ⟨B,0,Z⟩),I 1] w λe w'=>e=.returned (I (iR c 1))/\∃v',w'.cell? ⟨B,0,Z⟩=Y v'/\w'.frozen? ⟨B,0,Z⟩=false/\gU w' a v' (iM c 1)/\dM B w w':=
 AV B a v c 1 w oG oG b g d f
def DJ(B a:Nat)(v:Value)(c:List UInt8)(w:World)(b:a<=B)(g:w.cell? ⟨B,0,Z⟩=Y v)(d:w.frozen? ⟨B,0,Z⟩=false)(f:gU w a v c):
  Calls pG 250 #[P0 (Y ⟨B,0,Z⟩),I 8] w λe w'=>e=.returned (I (iR c 8))/\∃v',w'.cell? ⟨B,0,Z⟩=Y v'/\w'.frozen? ⟨B,0,Z⟩=false/\gU w' a v' (iM c 8)/\dM B w w':=
 AV B a v c 8 w oG oG b g d f
def dM.trans{B:Nat}{a b c:World}(h:dM B a b)(k:dM B b c):dM B a c:=⟨k.os.trans h.os,k.tape.trans h.tape,k.output.trans h.output,k.size.trans h.size,λi hi=>(k.block i hi).trans (h.block i hi)⟩
def gU.keep{w w':World}{a:Nat}{v:Value}{f:List UInt8}(h:gU w a v f)(l:∀b o,b<a->w'.cell? ⟨b,o,Z⟩=w.cell? ⟨b,o,Z⟩):gU w' a v f:=by
 obtain⟨n,d,q,k,m,c⟩:=h;refine⟨n,d,q,k,m,?_⟩;rcases c with c|⟨g,off,e,i,r⟩;·exact .inl c
 ·exact .inr ⟨g,off,e,i,λj p=>(l g _ i).trans (r j p)⟩
structure GI(w wr:World)(rest:List UInt8):Prop where
 rd:∃v,wr.cell? ⟨w.1.size+1,0,Z⟩=Y v/\gU wr w.1.size v rest
 rf:wr.frozen? ⟨w.1.size+1,0,Z⟩=false
 res:wr.1[w.1.size]?=Y (.cells mz 136 (0,0))
 bel:Bw w wr
 siz:w.1.size+2<=wr.1.size
def GI.read{w wr w':World}{rest a:List UInt8}{v':Value}(h:GI w wr rest)(e:w'.cell? ⟨w.1.size+1,0,Z⟩=Y v')(c:w'.frozen? ⟨w.1.size+1,0,Z⟩=false)(d:gU w' w.1.size v' a)(b:dM (w.1.size+1) wr w'):GI w w' a:=⟨⟨v',e,d⟩,c,(b.block _ oG).trans h.res,h.bel.trans (b.below oG),by rw[b.size];exact h.siz⟩
def GI.later{w wr w':World}{rest:List UInt8}(h:GI w wr rest)(a:Below (w.1.size+2) wr w'):GI w w' rest:=by obtain⟨v,e,d⟩:=h.rd;refine⟨⟨v,(a.cell (by show w.1.size+1<_;omega)).trans e,d.keep λb o c=>a.cell (p:=⟨b,o,Z⟩) (by show b<_;omega)⟩,(a.frozen (by show w.1.size+1<_;omega)).trans h.rf,(a.block _ oG).trans h.res,h.bel.trans (a.mono oG),Nat.le_trans h.siz a.size⟩
def fU(w:World)(base:Nat)(v:Value)(zs:List Int):Prop:=w.ownsRow base 3 1 v zs.length (zs.map (Value.int .i64))
def dM.grown{B:Nat}{w w':World}(h:dM B w w'):w.grownBy w' (Y B):=⟨h.os,h.tape,h.output,by rw[h.size];exact Nat.le_refl _,λk _ a=>h.block k (λe=>a (by rw[e]))⟩
def qN(l:Value)(zs:List Int):Prop:=zs=[]->l=J Z 0 0
def fU.but{w w':World}{base B:Nat}{v:Value}{a:List Int}(h:fU w base v a)(b:dM B w w')(c:B<base):fU w' base v a:=
 World.ownsRow.kept h b.grown (by
  right;intro e
  have:=(World.ownsRow.lt h B e).1
  omega)
def fU.shape{w:World}{base:Nat}{v:Value}{b:List Int}(h:fU w base v b):∃a c,v=J a b.length c:=by
 rcases h.2 with⟨rfl,f⟩|⟨g,e,d,rfl,_⟩;·exact⟨none,0,by rw[f]⟩
 ·exact⟨_,_,rfl⟩
def fU.low{w:World}{base a:Nat}{v:Value}{f:List Int}(h:fU w base v f)(j:a<=base):fU w a v f:=by
 obtain⟨e,c⟩:=h;rcases c with c|⟨g,d,b,i,k,r⟩;·exact⟨e,.inl c⟩
 ·exact⟨e,.inr ⟨g,d,b,i,oG,r⟩⟩
def zC:(Tryz.prog.info? 3).map (λi=>(i.zero,i.size,i.bytes))=Y (Y (I 0),1,8):=kG
def rP(w:World)(R:Nat)(c n h e d k m g l f b:Value)(hs:∀i,i<11->(w.cell? ⟨R,i,Z⟩).isSome=true):∃W,(((((((((((w.setCell ⟨R,0,Z⟩ c).setCell ⟨R,1,Z⟩ n).setCell ⟨R,2,Z⟩ h).setCell ⟨R,3,Z⟩ e).setCell ⟨R,4,Z⟩ d).setCell ⟨R,5,Z⟩ k).setCell ⟨R,6,Z⟩ m).setCell ⟨R,7,Z⟩ g).setCell ⟨R,8,Z⟩ l).setCell ⟨R,9,Z⟩ f).setCell ⟨R,10,Z⟩ b)=W/\(W.cell? ⟨R,0,Z⟩=Y c/\W.cell? ⟨R,1,Z⟩=Y n/\W.cell? ⟨R,2,Z⟩=Y h/\W.cell? ⟨R,3,Z⟩=Y e/\W.cell? ⟨R,4,Z⟩=Y d/\W.cell? ⟨R,5,Z⟩=Y k/\W.cell? ⟨R,6,Z⟩=Y m/\W.cell? ⟨R,7,Z⟩=Y g/\W.cell? ⟨R,8,Z⟩=Y l/\W.cell? ⟨R,9,Z⟩=Y f/\W.cell? ⟨R,10,Z⟩=Y b)/\dM R w W/\∀B w0,B<=R->Below B w0 w->Below B w0 W:=by
 refine⟨_,rfl,?_,?_,?_⟩;·have a:=World.cell?_setCells_in R [c,n,h,e,d,k,m,g,l,f,b] 0 w (λj p=>by rw[Nat.zero_add];exact hs j p);exact⟨a 0 sG,a 1 sG,a 2 sG,a 3 sG,a 4 sG,a 5 sG,a 6 sG,a 7 sG,a 8 sG,a 9 sG,a 10 sG⟩
 ·exact(((((((((((dM.setCell w ⟨R,0,Z⟩ c).trans (dM.setCell _ ⟨R,1,Z⟩ n)).trans (dM.setCell _ ⟨R,2,Z⟩ h)).trans (dM.setCell _ ⟨R,3,Z⟩ e)).trans (dM.setCell _ ⟨R,4,Z⟩ d)).trans (dM.setCell _ ⟨R,5,Z⟩ k)).trans (dM.setCell _ ⟨R,6,Z⟩ m)).trans (dM.setCell _ ⟨R,7,Z⟩ g)).trans (dM.setCell _ ⟨R,8,Z⟩ l)).trans (dM.setCell _ ⟨R,9,Z⟩ f)).trans (dM.setCell _ ⟨R,10,Z⟩ b))
 ·intro B w0 q o;repeat(refine Below.setCell ?_ (show B<=R from q) _)
  exact o
def GX(t:Nat):∀(r:List UInt8) (a:List Int),kD (t+1) r a=(iM (kD t r a).1 8,(kD t r a).2++[iR (kD t r a).1 8]):=by
 induction t with
 |zero=>intro r a;rfl
 |succ t ih=>intro r a;exact ih (iM r 8) (a++[iR r 8])
def zZ(t:Nat):∀(r:List UInt8) (a:List Int),(kD t r a).2.length=a.length+t:=by
 induction t with
 |zero=>intro r a;rfl
 |succ t ih=>intro r a;show(kD t _ _).2.length=_;rw[ih];simp;omega
def jP(bs:List UInt8):Int:=iR bs 1
def lQ(bs:List UInt8):Int:=iR (iM bs 1) 1
def iX(bs:List UInt8):Gs:=jG (jP bs).toNat 5 (iM (iM bs 1) 1)
def JZ(g:List UInt8)(v:Value)(w:World)(A:gU w w.1.size v g)(H:11<=jP g):Calls pG 215 #[v] w λe w'=>e=.returned (.agg mz)/\Bw w w':=by
 have R:=A;obtain⟨D,u,rfl,_,_,_⟩:=R;have c:Bw w ((w.alloc (G mz 136)).alloc (G #[J D g.length u] 334)):=
  (a_ _ _).alloc sG _
 have h:=A.keep λb o s=>c.cell (p:=⟨b,o,Z⟩) s;go_enter func215,ntmps215;go_wp2_with fail;refine(sY (w.1.size+1) w.1.size _ g _ oG (World.cell?_alloc_at _ _ _ _ sG) (World.frozen?_alloc_at _ _ _ _ sG) h).mono ?_;rintro e w1 ⟨rfl,v1,q,m,k,n⟩;go_wp2_with fail;refine(sY (w.1.size+1) w.1.size v1 _ _ oG q m k).mono ?_;rintro e w2 ⟨rfl,V,N,Q,t,j⟩;have E:11<=iR g 1:=H;have a:=n.trans j;have d:∀i,w2.cell? ⟨w.1.size,i,Z⟩=mz[i]?:=λi=>by rw[a.cell (by show w.1.size≠_;omega),World.cell?_alloc_past _ _ _ sG,World.cell?_alloc_at _ _ _ _ rfl]
 have y:∀i,w2.frozen? ⟨w.1.size,i,Z⟩=false:=λi=>by rw[a.frozen (by show w.1.size≠_;omega),World.frozen?_alloc_past _ _ _ sG,World.frozen?_alloc_at _ _ _ _ rfl]
 have l:=c.trans (a.below oG);clear c h k t n j a q m;go_wp2;obtain⟨W,z,⟨K,L,M,c3,U,O,S,F,B,C,x⟩,f,r⟩:=rP w2 w.1.size (I 0) (I 0) (I 0) (I 0) (I 0) (I 0) (I 0) (I 0) (I 0) (I 0) (J Z 0 0) (λi hi=>by rw[d];simp;omega);rw[z];clear z d y f;exact bodyPost_ret (v:=.agg mz) (by simp[results,results215,go_sem,K,L,M,c3,U,O,S,F,B,C,x]) rfl ⟨rfl,r _ _ r_ l⟩
def I5(q:List UInt8)(v:Value)(w:World)(s:dY w)(hr:gU w w.1.size v q)(hK:jP q<11):Calls pG 215 #[v] w λe w'=>∃n1 n2 n3 n4 n5 n6 n7 n8 n0 n9 l,e=.returned (.agg (mA (jP q) (lQ q) n1 n2 n3 n4 n5 n6 n7 n8 l))/\(iX q).2=[n0,n1,n2,n3,n4,n5,n6,n7,n8,n9]/\fU w' w.1.size l (iX q).vals/\qN l (iX q).vals/\Bw w w':=by
 have tw:=s.two;have hv:=hr;obtain⟨ao,b2,rfl,_,_,_⟩:=hv;have aw:Bw w ((w.alloc (G mz 136)).alloc (G #[J ao q.length b2] 334)):=
  (a_ _ _).alloc sG _
 have ay:=hr.keep λb o a0=>aw.cell (p:=⟨b,o,Z⟩) a0;have aL:GI w ((w.alloc (G mz 136)).alloc (G #[J ao q.length b2] 334)) q:=
  ⟨⟨_,World.cell?_alloc_at _ _ _ _ sG,ay⟩,World.frozen?_alloc_at _ _ _ _ sG,by rw[Below.heap_alloc _ _ _ sG];exact heap_alloc_new w _,aw,sG⟩
 have HE:Hid (iX q=jG (jP q).toNat 5 (iM (iM q 1) 1)):=rfl;obtain⟨K,ap,_⟩:=AF q;have HK:Hid (jP q=(K:Int)):=ap;have aZ:Hid (iR q 1=(K:Int)):=ap;have am:K<11:=by have:=HK.out;omega
 have HF:Hid (lQ q=iR (iM q 1) 1):=rfl;clear ap hK;go_enter func215,ntmps215;go_wp2_with fail;refine(sY (w.1.size+1) w.1.size _ q _ oG (World.cell?_alloc_at _ _ _ _ sG) (World.frozen?_alloc_at _ _ _ _ sG) ay).mono ?_;rintro e w1 ⟨rfl,v1,aC,aB,an,b5⟩;have aQ:=aL.read aC aB an b5;rw[aZ.out];go_wp2_with fail;refine(sY (w.1.size+1) w.1.size v1 _ _ oG aC aB an).mono ?_;rintro e w2 ⟨rfl,v2,aR,aV,aD,aU⟩;have ad:=aQ.read aR aV aD aU;clear aw ay an aD b5 aU aC aB aL aQ hr aR aV;generalize iR (iM q 1) 1=FR at*;generalize iM (iM q 1) 1=a at*;have y:dY w2:=s.below ad.bel oG;have s2:=ad.siz;have t0:0<w2.1.size:=oG;have t1:1<w2.1.size:=oG;have r0:w2.cell? ⟨0,K*5,Z⟩=_:=y.mh K 0 oG oG;have r1:=y.mh K 1 oG oG;have r2:=y.mh K 2 oG oG;have r3:=y.mh K 3 oG oG;have r4:=y.mh K 4 oG oG;have dk:decide ((11:Int)<=(K:Int))=false:=nG;go_wp2_with fail;have V:GI w (w2.alloc (G #[I 0,I 0,I 0,I 0,I 0,I 0,I 0,I 0,I 0,I 0] 298)) a:=ad.later (b_.alloc s2 _);have E:=λt s=>DI (w:=w2) 0 0 0 0 0 0 0 0 0 0 t s;have O:∀t,t<10->(w2.alloc (G #[I 0,I 0,I 0,I 0,I 0,I 0,I 0,I 0,I 0,I 0] 298)).frozen? ⟨w2.1.size,t,Z⟩=false:=λt _=>World.frozen?_alloc_at _ _ _ _ rfl;have a5:w2.1.size+1<=(w2.alloc (G #[I 0,I 0,I 0,I 0,I 0,I 0,I 0,I 0,I 0,I 0] 298)).1.size:=sG;generalize w2.alloc (G #[I 0,I 0,I 0,I 0,I 0,I 0,I 0,I 0,I 0,I 0] 298)=W0 at*;generalize w2.1.size=N at*;have b3:Hid (iX q=jG K 5 a):=by unfold Hid;rw[HE.out,HK.out];rfl
 clear r0 r1 r2 r3 r4 y ad HE aZ t0 t1;obtain⟨i3,bl,b9,bj,bg⟩:=info_parts zC;go_loopw [7,20] (λl i wr=>∃(j:Nat),j<=5/\i=I j/\GI w wr (jG K j a).rest/\(∀t,t<10->wr.cell? ⟨N,t,Z⟩=Y (I ((jG K j a).2.getD t 0)))/\(∀t,t<10->wr.frozen? ⟨N,t,Z⟩=false)/\
  fU wr (N+1) l (jG K j a).vals/\qN l (jG K j a).vals/\N+1<=wr.1.size/\(jG K j a).vals.length<=256*j) (λ_ i _=>5 - (intOf i).toNat)
 case atStart=>exact⟨0,oG,rfl,V,E,O,World.ownsRow_nil _ _ _ _,λ_=>rfl,a5,by simp[jG]⟩
 case round=>
  obtain⟨j,hj,rfl,n,c,R,h,x,aI,bp⟩:=hrel;have aa:=NR K j a;by_cases a0:j<5
  ·have bo:∀w,(Instr.index 301 (.agg #[I (fO K 0),I (fO K 1),I (fO K 2),I (fO K 3),I (fO K 4)]) (I (j:Int))).run pG w=.ok (I (fO K j)) w:=xB K j a0;have hF:=wJ K j am a0;have HS:Hid (jG K (j+1) a=kL (jG K j a) (fO K j)):=LT K j a am a0;have b1:=R (fO K j) hF;have aW:=c (fO K j) hF;have HC:Hid _:=c;have HZ:Hid _:=R;clear c R;generalize fO K j=F at*;generalize jG K j a=f at*;obtain⟨rv,ab,ae⟩:=n.rd;have ac:=n.rf;by_cases aG:F=0
   ·subst aG;go_wp2;go_roundw;case rel=>have e:jG K (j+1) a=f:=HS.out;exact⟨j+1,oG,by go_num,by rw[e];exact n,by rw[e];exact HC,HZ,by rw[e];exact h,by rw[e];exact x,aI,by rw[e];omega⟩
    case measure=>simp[intOf];omega
   by_cases aY:F=9
   ·subst aY;obtain⟨C,hC,bc⟩:=AF f.rest;have au:Hid (iR f.rest 1=(C:Int)):=hC;clear hC;go_wp2_with fail;refine(sY (w.1.size+1) w.1.size rv f.rest _ oG ab ac ae).mono ?_;rintro r w5 ⟨rfl,v5,a8,a2,a3,m⟩;have S:=n.read a8 a2 a3 m;have A:=h.but m oG;have Q:N≠w.1.size+1:=oG;have a4:Hid (∀t,t<10->w5.cell? ⟨N,t,Z⟩=Y (I (f.2.getD t 0))):=λt s=>(m.cell (by exact Q)).trans (HC.out t s);have a9:Hid (∀t,t<10->w5.frozen? ⟨N,t,Z⟩=false):=λt s=>(m.frozen (by exact Q)).trans (HZ.out t s);have ar:N+1<=w5.1.size:=by rw[m.size];exact aI
    rw[au.out];have a1:Hid (jG K (j+1) a=⟨(kD C (iM f.rest 1) f.vals).1,f.2,(kD C (iM f.rest 1) f.vals).2⟩):=by unfold Hid;rw[HS.out];unfold kL;rw[if_neg oG,if_pos rfl,au.out];rfl
    clear aW b1 ab ac ae a8 a2 a3 m HC HZ n h HS au V E O a5;generalize iM f.rest 1=d at*;go_wp2_with fail;go_loopw [7,32] (λl i wr=>∃(t:Nat),t<=C/\i=I t/\GI w wr (kD t d f.vals).1/\(∀t,t<10->wr.cell? ⟨N,t,Z⟩=Y (I (f.2.getD t 0)))/\(∀t,t<10->wr.frozen? ⟨N,t,Z⟩=false)/\
     fU wr (N+1) l (kD t d f.vals).2/\qN l (kD t d f.vals).2/\N+1<=wr.1.size) (λ_ i _=>C - (intOf i).toNat)
    case atStart=>exact⟨0,oG,rfl,S,a4,a9,A,x,ar⟩
    case round=>
     clear S a4 a9 A ar;obtain⟨t,br,rfl,B,D,M,H,ax,aJ⟩:=hrel;have a6:=zZ t d f.vals;by_cases bq:t<C
     ·have HR:Hid _:=GX t d f.vals;generalize kD t d f.vals=pr at*;obtain⟨ba,al,ag⟩:=B.rd;have ai:=B.rf;have aO:Hid _:=D;have b4:Hid _:=M;clear D M;go_wp2_with fail;refine(DJ (w.1.size+1) w.1.size ba pr.1 _ oG al ai ag).mono ?_;rintro r w7 ⟨rfl,v7,aK,aX,aM,U⟩;have ak:=B.read aK aX aM U;have z:=H.but U oG;have aF:Hid (∀t,t<10->w7.cell? ⟨N,t,Z⟩=Y (I (f.2.getD t 0))):=λt s=>(U.cell (by exact Q)).trans (aO.out t s);have b0:Hid (∀t,t<10->w7.frozen? ⟨N,t,Z⟩=false):=λt s=>(U.frozen (by exact Q)).trans (b4.out t s);have az:N+1<=w7.1.size:=by rw[U.size];exact aJ
      clear al ai ag aK aX aM U aO b4 B H;generalize iR pr.1 8=TN at*;generalize iM pr.1 8=R7 at*;obtain⟨bt,bh⟩:=pr;dsimp only at z HR a6;go_wp2_with(at_builtin;refine wpList_append_own _ rfl _ _ 59 rfl (N+1) 3 i3 (I 0) 1 8 underlying59 bl b9 bj bg rfl dG _ _ _ rfl (World.ownsRow.alloc z _) ⟨w7.1.size,0,Z⟩ 1 1 [I TN] rfl rfl (cell_one_new _ _ _) ?c2 ?c3 ?c4 ?c5 ?_);case c2=>intro u hu;simp at hu;subst hu;rfl
      case c3=>unfold maxLen;omega
      case c4=>omega
      case c5=>simp;omega
      ·intro v' w9 aT hg _;have bd:fU w9 (N+1) v' (bh++[TN]):=by unfold fU;rw[List.length_append,List.map_append,a6];exact aT
       have X:Below (N+1) w7 w9:=(b_.alloc az _).grown hg nG (λg hg=>(World.ownsRow.lt z g hg).1);have aE:=ak.later (X.mono oG);have bi:N+1<=w9.1.size:=Nat.le_trans az X.size;have b6:Hid (∀t,t<10->w9.cell? ⟨N,t,Z⟩=Y (I (f.2.getD t 0))):=λt s=>(X.cell (by show N<N+1;omega)).trans (aF.out t s);have bf:Hid (∀t,t<10->w9.frozen? ⟨N,t,Z⟩=false):=λt s=>(X.frozen (by show N<N+1;omega)).trans (b0.out t s);clear aT hg z ak aF b0 az X;go_wp2;go_roundw;case rel=>exact⟨t+1,oG,by go_num,by rw[HR.out];exact aE,b6,bf,by rw[HR.out];exact bd,by rw[HR.out];exact λh9=>by simp at h9,bi⟩
       case measure=>simp[intOf];omega
     ·have aS:t=C:=oG;subst aS;clear a6;have ah:=zZ t d f.vals;have HV:Hid _:=ah;clear ah;go_wp2;go_roundw;case rel=>refine⟨j+1,oG,by go_num,by rw[a1.out];exact B,by rw[a1.out];exact D,M,by rw[a1.out];exact H,by rw[a1.out];exact ax,aJ,by rw[a1.out];show(kD t d f.vals).2.length<=_;rw[HV.out];omega⟩
      case measure=>simp[intOf];omega
   ·have n0:((F:Int)==0)=false:=nG;have n9:((F:Int)==9)=false:=nG;go_wp2_with fail;refine(DJ (w.1.size+1) w.1.size rv f.rest _ oG ab ac ae).mono ?_;rintro r w5 ⟨rfl,v5,a8,a2,a3,m⟩;have S:=n.read a8 a2 a3 m;have A:=h.but m oG;have Q:N≠w.1.size+1:=oG;have a4:Hid (∀t,t<10->w5.cell? ⟨N,t,Z⟩=Y (I (f.2.getD t 0))):=λt s=>(m.cell (by exact Q)).trans (HC.out t s);have a9:Hid (∀t,t<10->w5.frozen? ⟨N,t,Z⟩=false):=λt s=>(m.frozen (by exact Q)).trans (HZ.out t s);have bm:=a4.out F hF;have bn:=a9.out F hF;have ar:w5.1.size=wr.1.size:=m.size;clear aW b1 ab ac ae a8 a2 a3 m HC HZ n h;generalize aP:iR f.rest 8=TN at*;have bk:Hid (iR f.rest 8=TN):=aP;clear aP;go_wp2;go_roundw;case rel=>
     have e:jG K (j+1) a=⟨iM f.rest 8,f.2.set F TN,f.vals⟩:=by rw[HS.out,←bk.out];unfold kL;rw[if_neg aG,if_neg aY]
     refine⟨j+1,oG,by go_num,by rw[e];exact S.later (b_.setCell (by show w.1.size+2<=N;omega) _),by rw[e];exact BJ aa F hF TN (λ_=>rfl) a4,λt s=>by simpa using a9.out t s,by rw[e];exact ownsRow_setCell_below A (by show N<N+1;omega) _,by rw[e];exact x,by simp[World.setCell];omega,by rw[e];show f.vals.length<=_;omega⟩
    case measure=>simp[intOf];omega
  ·have bb:j=5:=oG;subst bb;rw[←b3.out]at n c h x aa;generalize aH:iX q=f at*;obtain⟨sr,sn,sv⟩:=f;have aA:Hid (iX q=⟨sr,sn,sv⟩):=aH;clear aH;dsimp only at n c h x aa;obtain⟨la,lc,rfl⟩:=h.shape;match sn,aa with
   | [n0,n1,n2,n3,n4,n5,n6,n7,n8,n9],_=>
    have c0:wr.cell? ⟨N,0,Z⟩=Y (I n0):=c 0 oG;have c1:wr.cell? ⟨N,1,Z⟩=Y (I n1):=c 1 oG;have c2:wr.cell? ⟨N,2,Z⟩=Y (I n2):=c 2 oG;have c3:wr.cell? ⟨N,3,Z⟩=Y (I n3):=c 3 oG;have c4:wr.cell? ⟨N,4,Z⟩=Y (I n4):=c 4 oG;have c5:wr.cell? ⟨N,5,Z⟩=Y (I n5):=c 5 oG;have c6:wr.cell? ⟨N,6,Z⟩=Y (I n6):=c 6 oG;have c7:wr.cell? ⟨N,7,Z⟩=Y (I n7):=c 7 oG;have c8:wr.cell? ⟨N,8,Z⟩=Y (I n8):=c 8 oG;have c9:wr.cell? ⟨N,9,Z⟩=Y (I n9):=c 9 oG;clear c R b3 V E O a5;go_wp2_with fail;refine(IC _ _ _ _ _ _ _ _ _ _ _ _ _ _ _ _).mono ?_;rintro r w8 ⟨rfl,L⟩;have af:GI w w8 sr:=n.later (L.mono (by have:=n.siz;omega));have aN:∀i,w8.cell? ⟨w.1.size,i,Z⟩=mz[i]?:=λi=>by simp[World.cell?,af.res]
    have b8:∀i,w8.frozen? ⟨w.1.size,i,Z⟩=false:=λi=>by simp[World.frozen?,af.res]
    clear c0 c1 c2 c3 c4 c5 c6 c7 c8 c9;go_wp2;obtain⟨W,hW,⟨c0,c1,c2,c3,c4,c5,c6,c7,c8,c9,b7⟩,aj,be⟩:=rP w8 w.1.size (I K) (I FR) (I n1) (I n2) (I n3) (I n4) (I n5) (I n6) (I n7) (I n8) (J la sv.length lc) (λi hi=>by rw[aN];simp;omega);have a7:fU w8 (N+1) (J la sv.length lc) sv:=World.ownsRow.kept h ⟨L.os,L.tape,L.output,L.size,λk hk _=>L.block k hk⟩ (row:=none) (by simp[Value.ownBlock];cases la<;>simp);have aq:=(a7.but aj oG).low (show w.1.size<=N+1 by omega);have av:=be _ _ r_ af.bel;rw[hW];clear hW aN b8 aj a7 h L af n;exact bodyPost_ret (v:=.agg (mA K FR n1 n2 n3 n4 n5 n6 n7 n8 (J la sv.length lc))) (by simp[results,results215,go_sem,c0,c1,c2,c3,c4,c5,c6,c7,c8,c9,b7]) rfl
     ⟨n1,n2,n3,n4,n5,n6,n7,n8,n0,n9,J la sv.length lc,by rw[HK.out,HF.out],by rw[aA.out],by rw[aA.out];exact aq,by rw[aA.out];exact x,av⟩
def nH(c a1 d g a h i e b f:Int):qF [c,a1,d,g,a,h,i,e,b,f]=true↔c=0/\a1=0/\d=0/\g=0/\a=0/\h=0/\i=0/\e=0/\b=0/\f=0:=by simp[qF,List.replicate]
def lR:Option (List Int)->Bool
 |none=>false
 |some a=>qF a
def nJ(k:Nat)(a:List Int):iS k a=lR (i7 (fD k) a):=by unfold iS;cases i7 (fD k) a<;>rfl
def fA(f:Nat)(r:List Nat)(arr:List Int):lR (i7 (f::r) arr)=true↔(kS f<=arr.getD f 0/\arr.getD f 0<=kT f)/\lR (i7 r (arr.set f 0))=true:=by
 rw[i7];by_cases h:arr.getD f 0<kS f∨kT f<arr.getD f 0
 ·rw[if_pos h];constructor;·intro a;simp[lR]at a
  ·rintro⟨a,_⟩;omega
 ·rw[if_neg h];constructor;·intro a;exact⟨oG,a⟩
  ·rintro⟨_,a⟩;exact a
def nQ(e b wa p s q bl v n:Int):iS 1 [0,e,b,wa,p,s,q,bl,v,n]=true↔(0<=e/\e<=1000000000000)/\(0<=b/\b<=1000000000000)/\wa=0/\p=0/\s=0/\q=0/\bl=0/\v=0/\n=0:=by rw[nJ];rw[show fD 1=[1,2,0,0,0] from rfl];rw[fA,fA,fA,fA,fA];simp only[kS,kT,mX,mY,List.getD_eq_getElem?_getD,List.set_cons_zero,List.set_cons_succ,List.getElem?_cons_zero,List.getElem?_cons_succ,Option.getD_some,i7,lR,nH,true_and];all_goals omega
def sZ(e b wa p s q bl v n:Int):iS 2 [0,e,b,wa,p,s,q,bl,v,n]=true↔(0<=e/\e<=1000000000000)/\(0<=b/\b<=1000000000000)/\(0<=wa/\wa<=1000000000000)/\(0<=p/\p<=5)/\(0<=s/\s<=31)/\q=0/\bl=0/\v=0/\n=0:=by rw[nJ];rw[show fD 2=[1,2,3,4,5] from rfl];rw[fA,fA,fA,fA,fA];simp only[kS,kT,mX,mY,List.getD_eq_getElem?_getD,List.set_cons_zero,List.set_cons_succ,List.getElem?_cons_zero,List.getElem?_cons_succ,Option.getD_some,i7,lR,nH,true_and];all_goals omega
def nR(e b wa p s q bl v n:Int):iS 3 [0,e,b,wa,p,s,q,bl,v,n]=true↔(0<=e/\e<=1000000000000)/\(0<=b/\b<=1000000000000)/\(0<=p/\p<=5)/\(0<=s/\s<=31)/\wa=0/\q=0/\bl=0/\v=0/\n=0:=by rw[nJ];rw[show fD 3=[1,2,4,5,0] from rfl];rw[fA,fA,fA,fA,fA];simp only[kS,kT,mX,mY,List.getD_eq_getElem?_getD,List.set_cons_zero,List.set_cons_succ,List.getElem?_cons_zero,List.getElem?_cons_succ,Option.getD_some,i7,lR,nH,true_and];all_goals omega
def tA(e b wa p s q bl v n:Int):iS 4 [0,e,b,wa,p,s,q,bl,v,n]=true↔(0<=e/\e<=1000000000000)/\(0<=b/\b<=1000000000000)/\wa=0/\p=0/\s=0/\q=0/\bl=0/\v=0/\n=0:=by rw[nJ];rw[show fD 4=[1,2,0,0,0] from rfl];rw[fA,fA,fA,fA,fA];simp only[kS,kT,mX,mY,List.getD_eq_getElem?_getD,List.set_cons_zero,List.set_cons_succ,List.getElem?_cons_zero,List.getElem?_cons_succ,Option.getD_some,i7,lR,nH,true_and];all_goals omega
def tB(e b wa p s q bl v n:Int):iS 5 [0,e,b,wa,p,s,q,bl,v,n]=true↔(0<=e/\e<=1000000000000)/\(0<=b/\b<=1000000000000)/\(0<=wa/\wa<=1000000000000)/\p=0/\s=0/\q=0/\bl=0/\v=0/\n=0:=by rw[nJ];rw[show fD 5=[1,2,3,0,0] from rfl];rw[fA,fA,fA,fA,fA];simp only[kS,kT,mX,mY,List.getD_eq_getElem?_getD,List.set_cons_zero,List.set_cons_succ,List.getElem?_cons_zero,List.getElem?_cons_succ,Option.getD_some,i7,lR,nH,true_and];all_goals omega
def oD(e b wa p s q bl v n:Int):iS 6 [0,e,b,wa,p,s,q,bl,v,n]=true↔(0<=e/\e<=1000000000000)/\(0<=p/\p<=5)/\(0<=s/\s<=31)/\b=0/\wa=0/\q=0/\bl=0/\v=0/\n=0:=by rw[nJ];rw[show fD 6=[1,4,5,0,0] from rfl];rw[fA,fA,fA,fA,fA];simp only[kS,kT,mX,mY,List.getD_eq_getElem?_getD,List.set_cons_zero,List.set_cons_succ,List.getElem?_cons_zero,List.getElem?_cons_succ,Option.getD_some,i7,lR,nH,true_and];all_goals omega
def oF(e b wa p s q bl v n:Int):iS 7 [0,e,b,wa,p,s,q,bl,v,n]=true↔(0<=e/\e<=1000000000000)/\(0<=q/\q<=1000000000000)/\(0<=bl/\bl<=3)/\(-9223372036854775808<=v/\v<=9223372036854775807)/\b=0/\wa=0/\p=0/\s=0/\n=0:=by rw[nJ];rw[show fD 7=[1,6,7,8,0] from rfl];rw[fA,fA,fA,fA,fA];simp only[kS,kT,mX,mY,List.getD_eq_getElem?_getD,List.set_cons_zero,List.set_cons_succ,List.getElem?_cons_zero,List.getElem?_cons_succ,Option.getD_some,i7,lR,nH,true_and];all_goals omega
def tC(e b wa p s q bl v n:Int):iS 8 [0,e,b,wa,p,s,q,bl,v,n]=true↔(0<=e/\e<=1000000000000)/\(0<=q/\q<=1000000000000)/\b=0/\wa=0/\p=0/\s=0/\bl=0/\v=0/\n=0:=by rw[nJ];rw[show fD 8=[1,6,0,0,0] from rfl];rw[fA,fA,fA,fA,fA];simp only[kS,kT,mX,mY,List.getD_eq_getElem?_getD,List.set_cons_zero,List.set_cons_succ,List.getElem?_cons_zero,List.getElem?_cons_succ,Option.getD_some,i7,lR,nH,true_and];all_goals omega
def oH(e b wa p s q bl v n:Int):iS 9 [0,e,b,wa,p,s,q,bl,v,n]=true↔(0<=e/\e<=1000000000000)/\(0<=q/\q<=1000000000000)/\(0<=n/\n<=4)/\b=0/\wa=0/\p=0/\s=0/\bl=0/\v=0:=by rw[nJ];rw[show fD 9=[1,6,9,0,0] from rfl];rw[fA,fA,fA,fA,fA];simp only[kS,kT,mX,mY,List.getD_eq_getElem?_getD,List.set_cons_zero,List.set_cons_succ,List.getElem?_cons_zero,List.getElem?_cons_succ,Option.getD_some,i7,lR,nH,true_and,and_true];all_goals omega
def uI(e b wa p s q bl v n:Int):iS 10 [0,e,b,wa,p,s,q,bl,v,n]=true↔(0<=e/\e<=1000000000000)/\(0<=q/\q<=1000000000000)/\b=0/\wa=0/\p=0/\s=0/\bl=0/\v=0/\n=0:=by rw[nJ];rw[show fD 10=[1,6,0,0,0] from rfl];rw[fA,fA,fA,fA,fA];simp only[kS,kT,mX,mY,List.getD_eq_getElem?_getD,List.set_cons_zero,List.set_cons_succ,List.getElem?_cons_zero,List.getElem?_cons_succ,Option.getD_some,i7,lR,nH,true_and];all_goals omega
def dL(bs:List UInt8):ByteArray:=⟨bs.toArray⟩
def t7{w:World}{v:Value}{e:List UInt8}(h:je w v e):(convert 148 9 v).run pG w=.ok (.string (dL e)) w:=by
 obtain⟨f,b,rfl,_,_,i⟩:=h;rcases i with rfl|⟨g,off,rfl,k⟩
 ·cases f with
  |none=>exact run_convert_bytes_nil w 148 5 underlying148 underlying5 0 b 9 underlying9
  |some a=>exact run_convert_bytes_back w 148 9 5 a b [] underlying148 underlying5 underlying9 (λj d=>by simp at d)
 ·exact run_convert_bytes_back w 148 9 5 ⟨g,off,Z⟩ b e underlying148 underlying5 underlying9 (λj d=>by
   have c:(⟨g,off,Z⟩:Addr).add j=⟨g,off+j,Z⟩:=by unfold Addr.add;split<;>simp_all
   rw[c];exact k j d)
def J0(v1 d:Value)(a c:List UInt8)(w:World)(g:je w v1 a)(f:je w d c):Calls pG 216 #[v1,d] w λe w'=>e=.returned (.bool (a==c))/\w'=w:=by
 have i:=t7 g;have h:=t7 f;have H:Hid (((dL a).toList==(dL c).toList)=(a==c)):=by unfold Hid;rw[←beq_toListBytes];show((⟨a⟩:Array UInt8)==⟨c⟩)=(a==c);simp
 go_enter func216,ntmps216;go_wp2;go_ret;exact⟨congrArg (λb=>Ending.returned (.bool b)) H,rfl⟩
def rD{k f e b wa p s q bl v:Int}{n:Nat}(h:fP k f [0,e,b,wa,p,s,q,bl,v,(n:Int)]=true):1<=k/\k<=10/\0<=f/\f<5/\n<=4:=by
 unfold fP at h;rw[Bool.and_eq_true]at h;obtain⟨d,a⟩:=h;have g:¬(k<1∨10<k∨f<0∨5<=f):=by simpa[oN] using d
 refine⟨oG,oG,oG,oG,?_⟩;obtain⟨K,rfl⟩:=Int.eq_ofNat_of_zero_le (show 0<=k by omega);rw[show(K:Int).toNat=K by simp]at a;have c:1<=K/\K<=10:=oG;match K,c with
 |1,_=>rw[nQ]at a;omega
 |2,_=>rw[sZ]at a;omega
 |3,_=>rw[nR]at a;omega
 |4,_=>rw[tA]at a;omega
 |5,_=>rw[tB]at a;omega
 |6,_=>rw[oD]at a;omega
 |7,_=>rw[oF]at a;omega
 |8,_=>rw[tC]at a;omega
 |9,_=>rw[oH]at a;omega
 |10,_=>rw[uI]at a;omega
def fU.ints{w:World}{base:Nat}{a:Option Addr}{n c:Nat}{e:List Int}(h:fU w base (J a n c) e):n=e.length/\fK w a e:=by
 have m:=h;obtain⟨v,l⟩:=h;rcases l with⟨f,d⟩|⟨g,q,k,f,r,o,t,u,hs,s⟩;·cases f;exact⟨d.symm,.inl (List.eq_nil_of_length_eq_zero d)⟩
 ·cases f;refine⟨rfl,.inr ⟨g,0,rfl,(Array.getElem?_eq_some_iff.1 o).1,λj p=>?_⟩⟩;have i:=World.ownsRow.cells m (g:=g) rfl j (I e[j]) (by simp[p]);have b:(⟨g,0,Z⟩:Addr).add j=⟨g,j,Z⟩:=by unfold Addr.add;split<;>simp_all
  rw[b]at i;rw[Nat.zero_add];exact i
def wL(k f e b wa p s q bl v:Int)(a:Option Addr)(d:List Int)(c:Nat)(w:World)(h:dY w)(l:fK w a d)(g:fP k f [0,e,b,wa,p,s,q,bl,v,(d.length:Int)]=true):Calls pG 157 #[.agg (mA k f e b wa p s q bl v (J a d.length c))] w λr w'=> ∃x,r=.returned (.tuple #[x,I 0])/\gJ w' w.1.size x (kE k.toNat f.toNat [0,e,b,wa,p,s,q,bl,v,(d.length:Int)] d)/\Bw w w':=by obtain⟨o,m,i,n,j⟩:=rD g;unfold fP at g;rw[Bool.and_eq_true]at g;obtain⟨K,rfl⟩:=Int.eq_ofNat_of_zero_le (show 0<=k by omega);obtain⟨F,rfl⟩:=Int.eq_ofNat_of_zero_le i;exact JW K F e b wa p s q bl v a d c w oG oG oG h j l g.2
def oK(bs:List UInt8):List Int:=((iX bs).2.set 0 0).set 9 ((iX bs).vals.length:Int)
def qO(bs:List UInt8):List UInt8:=kE (jP bs).toNat (lQ bs).toNat (oK bs) (iX bs).vals
def sH(bs:List UInt8):Bool:=fP (jP bs) (lQ bs) (oK bs)
def l8(bs:List UInt8):Bool:=sH bs&&(qO bs==bs)
def gU.wide{w:World}{b a:Nat}{v:Value}{f:List UInt8}(h:gU w b v f)(n:b<=a):gU w a v f:=by
 obtain⟨k,d,l,i,j,c⟩:=h;refine⟨k,d,l,i,j,?_⟩;rcases c with c|⟨g,off,e,o,m⟩;·exact .inl c
 ·exact .inr ⟨g,off,e,oG,m⟩
def fK.later{w w':World}{a:Option Addr}{c:List Int}(h:fK w a c)(d:Bw w w'):fK w' a c:=by
 rcases h with h|⟨g,off,e,b,i⟩;·exact .inl h
 ·exact .inr ⟨g,off,e,Nat.lt_of_lt_of_le b d.size,λj f=>(d.cell (by exact b)).trans (i j f)⟩
def gU.bytes{w:World}{a:Nat}{v:Value}{d:List UInt8}(h:gU w a v d):je w v d:=by
 obtain⟨f,c,j,i,k,b⟩:=h;refine⟨f,c,j,i,k,?_⟩;rcases b with b|⟨g,off,e,_,l⟩;·exact .inl b
 ·exact .inr ⟨g,off,e,l⟩
def EP(w:World):(∀i,(w.alloc (G mz 136)).cell? ⟨w.1.size,i,Z⟩=mz[i]?)/\(∀i,(w.alloc (G mz 136)).frozen? ⟨w.1.size,i,Z⟩=false):=⟨λ_=>World.cell?_alloc_at _ _ _ _ rfl,λ_=>World.frozen?_alloc_at _ _ _ _ rfl⟩
def IG(c:List UInt8)(v:Value)(w:World)(ht:dY w)(hr:gU w w.1.size v c)(hK:jP c<11):Calls pG 158 #[v] w λe w'=>Bw w w'/\((l8 c=true/\∃n q d j h m f g l,e=.returned (.tuple #[.agg (mA (jP c) (lQ c) n q d j h m f g l),I 0])/\oK c=[0,n,q,d,j,h,m,f,g,((iX c).vals.length:Int)]/\fU w' w.1.size l (iX c).vals/\qN l (iX c).vals)∨ (l8 c=false/\e=.returned (.tuple #[.agg mz,I 2]))):=by
 have tw:=ht.two;have U:Bw w (w.alloc (G mz 136)):=a_ _ _;have a2:gU (w.alloc (G mz 136)) (w.alloc (G mz 136)).1.size v c:=(hr.keep λb o S=>U.cell (p:=⟨b,o,Z⟩) S).wide sG;obtain⟨zc,zf⟩:=EP w;have a5:dY (w.alloc (G mz 136)):=ht.below U oG;have ai:(w.alloc (G mz 136)).1.size=w.1.size+1:=sG;go_enter func158,ntmps158;go_wp2_with fail;generalize w.alloc (G mz 136)=W0 at*;refine(I5 c v W0 a5 a2 hK).mono ?_;rintro e w1 ⟨n,q,d,j,h,m,f,g,n0,n9,l,rfl,M,r,a8,t⟩;have HG:Hid (oK c=[0,n,q,d,j,h,m,f,g,((iX c).vals.length:Int)]):=by unfold Hid oK;rw[M];rfl
 clear M;obtain⟨la,C,rfl⟩:=r.shape;have a6:=(r.ints).2;have Q:∀i,w1.cell? ⟨w.1.size,i,Z⟩=mz[i]?:=λi=>(t.cell (by show w.1.size<_;omega)).trans (zc i);have V:∀i,w1.frozen? ⟨w.1.size,i,Z⟩=false:=λi=>(t.frozen (by show w.1.size<_;omega)).trans (zf i);have ag:=t.size;have HD:Hid (l8 c=(sH c&&(qO c==c))):=rfl;have HI:Hid (sH c=fP (jP c) (lQ c) [0,n,q,d,j,h,m,f,g,((iX c).vals.length:Int)]):=by unfold Hid sH;rw[HG.out]
 have HC:Hid (qO c=kE (jP c).toNat (lQ c).toNat [0,n,q,d,j,h,m,f,g,((iX c).vals.length:Int)] (iX c).vals):=by unfold Hid qO;rw[HG.out]
 have a4:gU w1 W0.1.size v c:=a2.keep λb o S=>t.cell (p:=⟨b,o,Z⟩) S;have a3:dY w1:=a5.below t oG;have y:Bw w w1:=U.trans (t.mono oG);clear zc zf U a2 a5 t hr ht;generalize ab:jP c=H at*;generalize ac:lQ c=K at*;generalize a9:(iX c).vals=u at*;have ae:Hid _:=ab;have ad:Hid _:=ac;have a0:Hid _:=a9;clear ab ac a9;go_wp2_with fail;have A:Bw w1 (w1.alloc (G (mA H K n q d j h m f g (J la u.length C)) 136)):=a_ _ _;have mc:∀i,(w1.alloc (G (mA H K n q d j h m f g (J la u.length C)) 136)).cell? ⟨w1.1.size,i,Z⟩=(mA H K n q d j h m f g (J la u.length C))[i]?:=λi=>World.cell?_alloc_at _ _ _ _ rfl;have ah:(w1.alloc (G (mA H K n q d j h m f g (J la u.length C)) 136)).1.size=w1.1.size+1:=sG;generalize w1.alloc (G (mA H K n q d j h m f g (J la u.length C)) 136)=w2 at*;have O:dY w2:=a3.below A oG;have a1:fK w2 la u:=a6.later A;cases hG:fP H K [0,n,q,d,j,h,m,f,g,(u.length:Int)] with
 |false=>
  refine(wN H K n q d j h m f g la u.length C w2 O hG).mono ?_;rintro e w3 ⟨rfl,B⟩;have a:Bw w1 w3:=A.trans (B.mono oG);have s:∀i,w3.cell? ⟨w.1.size,i,Z⟩=mz[i]?:=λi=>(a.cell (by show w.1.size<_;omega)).trans (Q i);have N:∀i,w3.frozen? ⟨w.1.size,i,Z⟩=false:=λi=>(a.frozen (by show w.1.size<_;omega)).trans (V i);have z:Hid (l8 c=false):=by unfold Hid;rw[HD.out,HI.out,hG];rfl
  have R:Bw w w3:=y.trans (a.mono oG);clear Q V A B mc a6 a1 a4 hG HD HI HC HG r a3 O y a;go_wp2;obtain⟨W,hW,⟨c0,c1,c2,c3,c4,c5,c6,c7,c8,c9,F⟩,_,D⟩:=rP w3 w.1.size (I 0) (I 0) (I 0) (I 0) (I 0) (I 0) (I 0) (I 0) (I 0) (I 0) (J Z 0 0) (λi hi=>by rw[s];simp;omega);rw[hW];clear hW s N;exact bodyPost_ret (v:=.tuple #[.agg mz,I 2]) (by simp[results,results158,go_sem,c0,c1,c2,c3,c4,c5,c6,c7,c8,c9,F]) rfl ⟨D _ _ r_ R,.inr ⟨z,rfl⟩⟩
 |true=>
  refine(wL H K n q d j h m f g la u C w2 O a1 hG).mono ?_;rintro e w3 ⟨x,rfl,hx,B⟩;rw[←HC.out]at hx;have a:Bw w1 w3:=A.trans (B.mono oG);have s:∀i,w3.cell? ⟨w.1.size,i,Z⟩=mz[i]?:=λi=>(a.cell (by show w.1.size<_;omega)).trans (Q i);have N:∀i,w3.frozen? ⟨w.1.size,i,Z⟩=false:=λi=>(a.frozen (by show w.1.size<_;omega)).trans (V i);have aa:∀i,w3.cell? ⟨w1.1.size,i,Z⟩=(mA H K n q d j h m f g (J la u.length C))[i]?:=λi=>(B.cell (by show w1.1.size<_;omega)).trans (mc i);have af:gU w3 W0.1.size v c:=a4.keep λb o S=>a.cell (p:=⟨b,o,Z⟩) (by show b<_;omega);have z:Hid (l8 c=(qO c==c)):=by unfold Hid;rw[HD.out,HI.out,hG];rfl
  have R:Bw w w3:=y.trans (a.mono oG);have L:fU w3 W0.1.size (J la u.length C) u:=World.ownsRow.kept r ⟨a.os,a.tape,a.output,a.size,λk hk _=>a.block k hk⟩ (row:=none) (by cases la<;>simp[Value.ownBlock]);clear Q V A B mc a6 a1 a4 hG HD HI HC r a3 O y a;generalize qO c=ge at*;go_wp2_with fail;refine(J0 x v ge c w3 hx.je af.bytes).mono ?_;rintro e w4 ⟨rfl,rfl⟩;cases hq:(ge==c) with
  |false=>
   have E:Hid (l8 c=false):=by unfold Hid;rw[z.out,hq]
   clear hq z;go_wp2;obtain⟨W,hW,⟨c0,c1,c2,c3,c4,c5,c6,c7,c8,c9,F⟩,_,D⟩:=rP w4 w.1.size (I 0) (I 0) (I 0) (I 0) (I 0) (I 0) (I 0) (I 0) (I 0) (I 0) (J Z 0 0) (λi hi=>by rw[s];simp;omega);rw[hW];clear hW s N aa;exact bodyPost_ret (v:=.tuple #[.agg mz,I 2]) (by simp[results,results158,go_sem,c0,c1,c2,c3,c4,c5,c6,c7,c8,c9,F]) rfl ⟨D _ _ r_ R,.inr ⟨E,rfl⟩⟩
  |true=>
   have E:Hid (l8 c=true):=by unfold Hid;rw[z.out,hq]
   clear hq z;go_wp2;obtain⟨W,hW,⟨c0,c1,c2,c3,c4,c5,c6,c7,c8,c9,F⟩,X,D⟩:=rP w4 w.1.size (I H) (I K) (I n) (I q) (I d) (I j) (I h) (I m) (I f) (I g) (J la u.length C) (λi hi=>by rw[s];simp;omega);have a7:=(L.but X oG).low (show w.1.size<=W0.1.size by omega);rw[hW];clear hW s N aa L X;exact bodyPost_ret (v:=.tuple #[.agg (mA H K n q d j h m f g (J la u.length C)),I 0]) (by simp[results,results158,go_sem,c0,c1,c2,c3,c4,c5,c6,c7,c8,c9,F]) rfl ⟨D _ _ r_ R,.inl ⟨E,n,q,d,j,h,m,f,g,_,by rw[ae.out,ad.out],by rw[a0.out];exact HG,by rw[a0.out];exact a7,by rw[a0.out];exact a8⟩⟩
def I6(s:List UInt8)(v:Value)(w:World)(y:dY w)(D:gU w w.1.size v s)(N:11<=jP s):Calls pG 158 #[v] w λe w'=>Bw w w'/\e=.returned (.tuple #[.agg mz,I 2]):=by have tw:=y.two;have d:Bw w (w.alloc (G mz 136)):=a_ _ _;have j:gU (w.alloc (G mz 136)) (w.alloc (G mz 136)).1.size v s:=(D.keep λb o x=>d.cell (p:=⟨b,o,Z⟩) x).wide sG;obtain⟨E,C⟩:=EP w;have q:=y.below d oG;have K:(w.alloc (G mz 136)).1.size=w.1.size+1:=sG;go_enter func158,ntmps158;go_wp2_with fail;generalize w.alloc (G mz 136)=F at*;refine(JZ s v F j N).mono ?_;rintro e w1 ⟨rfl,c⟩;have m:∀i,w1.cell? ⟨w.1.size,i,Z⟩=mz[i]?:=λi=>(c.cell (by show w.1.size<_;omega)).trans (E i);have n:∀i,w1.frozen? ⟨w.1.size,i,Z⟩=false:=λi=>(c.frozen (by show w.1.size<_;omega)).trans (C i);have S:=c.size;have k:=q.below c oG;have f:=d.trans (c.mono oG);clear E C d j q c D y;go_wp2_with fail;have g:Bw w1 (w1.alloc (G mz 136)):=a_ _ _;have l:=k.below g oG;have V:(w1.alloc (G mz 136)).1.size=w1.1.size+1:=sG;generalize w1.alloc (G mz 136)=w2 at*;refine(wN 0 0 0 0 0 0 0 0 0 0 none 0 0 w2 l dG).mono ?_;rintro e w3 ⟨rfl,r⟩;have a:=g.trans (r.mono oG);have h:∀i,w3.cell? ⟨w.1.size,i,Z⟩=mz[i]?:=λi=>(a.cell (by show w.1.size<_;omega)).trans (m i);have z:∀i,w3.frozen? ⟨w.1.size,i,Z⟩=false:=λi=>(a.frozen (by show w.1.size<_;omega)).trans (n i);have t:=f.trans (a.mono oG);clear m n g r k l f a;go_wp2;obtain⟨W,B,⟨O,Q,R,c3,c4,U,X,M,H,L,A⟩,_,u⟩:=rP w3 w.1.size (I 0) (I 0) (I 0) (I 0) (I 0) (I 0) (I 0) (I 0) (I 0) (I 0) (J Z 0 0) (λi hi=>by rw[h];simp;omega);rw[B];clear B h z;exact bodyPost_ret (v:=.tuple #[.agg mz,I 2]) (by simp[results,results158,go_sem,O,Q,R,c3,c4,U,X,M,H,L,A]) rfl ⟨u _ _ r_ t,rfl⟩
def I7(a:List UInt8)(v:Value)(w:World)(c:dY w)(i:gU w w.1.size v a):Calls pG 158 #[v] w λe w'=>Bw w w'/\((l8 a=true/\∃k m d f b g h j l,e=.returned (.tuple #[.agg (mA (jP a) (lQ a) k m d f b g h j l),I 0])/\oK a=[0,k,m,d,f,b,g,h,j,((iX a).vals.length:Int)]/\fU w' w.1.size l (iX a).vals/\qN l (iX a).vals)∨ (l8 a=false/\e=.returned (.tuple #[.agg mz,I 2]))):=by
 by_cases p:jP a<11;·exact IG a v w c i p
 ·refine(I6 a v w c i oG).mono ?_;rintro e w' ⟨o,n⟩;refine⟨o,.inr ⟨?_,n⟩⟩;have:oN (jP a) (lQ a)=true:=by simp[oN];omega
  simp[l8,sH,fP,this]
end Go.Proofs.YtdcainmlcpafbaaGreatDoor
