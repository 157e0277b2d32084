import Derived.Test.YtdcainmlcpafbaaGreatDoorJ00
import Derived.Laws.BytesArg
import Derived.Laws.IdiomStrings
set_option linter.all false
set_option maxHeartbeats 8000000
set_option maxRecDepth 20000
namespace Go.Proofs.YtdcainmlcpafbaaGreatDoor
open Value renaming int->I,slice->J,pointer->P0
open Tryz
open Tryz renaming prog->pG
open IntKind renaming i64->T
open Option renaming none->Z,some->Y
open Obj renaming cells->G
section
open Go.RowKit
open Value (bool)
def jL:Nat->List UInt8->List Int->List UInt8×List Int
 |0,r,zs=>(r,zs)
 |n+1,r,zs=>jL n (iB r 8) (zs++[iF r 8])
structure Gs where
 rest:List UInt8
 nums:List Int
 vals:List Int
def jO(st:Gs)(F:Nat):Gs:=
 if F=0 then st
 else if F=9 then⟨(jL (iF st.rest 1).toNat (iB st.rest 1) st.vals).1,st.nums,(jL (iF st.rest 1).toNat (iB st.rest 1) st.vals).2⟩
 else⟨iB st.rest 8,st.nums.set F (iF st.rest 8),st.vals⟩
def iX(k j:Nat)(rest:List UInt8):Gs:=((eU k).take j).foldl jO ⟨rest,List.replicate 10 0,[]⟩
theorem JF(k j:Nat)(a:List UInt8)(b:k<11)(c:j<5):iX k (j+1) a=jO (iX k j a) (fC k j):=by unfold iX;rw[yH k j b c,List.foldl_append];rfl
theorem GV(a:Gs)(F:Nat):(jO a F).nums.length=a.nums.length:=by
 unfold jO;split;·rfl
 split;·rfl
 ·simp
theorem K5(k j:Nat)(a:List UInt8):(iX k j a).nums.length=10:=by
 unfold iX;have:∀(l:List Nat) (b:Gs),(l.foldl jO b).nums.length=b.nums.length:=by
  intro l;induction l with
  |nil=>intro b;rfl
  |cons f l ih=>intro b;rw[List.foldl_cons,ih,GV]
 rw[this];rfl
theorem xX(a:List UInt8):∃K:Nat,iF a 1=(K:Int)/\K<256:=by
 unfold iF;split;·exact⟨0,rfl,by omega⟩
 ·rename_i h;match a,h with
  |x::r,_=>refine⟨x.toNat,?_,x.toNat_lt⟩;have b:=x.toNat_lt;simp only[oX,List.take_succ_cons,List.take_zero,kG,List.foldl_cons,List.foldl_nil];rw[IntWalk.wrap64_in _ (by omega)];omega
theorem rC(B a:Nat)(v:Value)(c:List UInt8)(w:World)(b:a<=B)(f:w.cell? ⟨B,0,Z⟩=Y v)(g:w.frozen? ⟨B,0,Z⟩=false)(d:gG w a v c):
  Calls pG 250 #[P0 (Y ⟨B,0,Z⟩),I T 1] w fun e w'=>e=.returned (I T (iF c 1))/\∃v',w'.cell? ⟨B,0,Z⟩=Y v'/\w'.frozen? ⟨B,0,Z⟩=false/\gG w' a v' (iB c 1)/\dH B w w':=
 yL B a v c 1 w (by omega) (by omega) b f g d
theorem AZ(B a:Nat)(v:Value)(c:List UInt8)(w:World)(b:a<=B)(f:w.cell? ⟨B,0,Z⟩=Y v)(g:w.frozen? ⟨B,0,Z⟩=false)(d:gG w a v c):
  Calls pG 250 #[P0 (Y ⟨B,0,Z⟩),I T 8] w fun e w'=>e=.returned (I T (iF c 8))/\∃v',w'.cell? ⟨B,0,Z⟩=Y v'/\w'.frozen? ⟨B,0,Z⟩=false/\gG w' a v' (iB c 8)/\dH B w w':=
 yL B a v c 8 w (by omega) (by omega) b f g d
theorem dH.trans{B:Nat}{a b c:World}(h:dH B a b)(k:dH B b c):dH B a c:=⟨k.os.trans h.os,k.tape.trans h.tape,k.output.trans h.output,k.size.trans h.size,fun i hi=>(k.block i hi).trans (h.block i hi)⟩
theorem gG.keep{w w':World}{a:Nat}{v:Value}{f:List UInt8}(h:gG w a v f)(l:∀b o,b<a->w'.cell? ⟨b,o,Z⟩=w.cell? ⟨b,o,Z⟩):gG w' a v f:=by
 obtain⟨p,c,m,k,r,d⟩:=h;refine⟨p,c,m,k,r,?_⟩;rcases d with d|⟨g,off,e,i,n⟩;·exact .inl d
 ·exact .inr ⟨g,off,e,i,fun j q=>(l g _ i).trans (n j q)⟩
structure GI(w wr:World)(rest:List UInt8):Prop where
 rd:∃v,wr.cell? ⟨w.heap.size+1,0,Z⟩=Y v/\gG wr w.heap.size v rest
 rf:wr.frozen? ⟨w.heap.size+1,0,Z⟩=false
 res:wr.heap[w.heap.size]?=Y (.cells #[I T 0,I T 0,I T 0,I T 0,I T 0,I T 0,I T 0,I T 0,I T 0,I T 0,J Z 0 0] 136 (0,0))
 bel:Below w.heap.size w wr
 siz:w.heap.size+2<=wr.heap.size
theorem GI.read{w wr w':World}{b a:List UInt8}{v':Value}(h:GI w wr b)(e:w'.cell? ⟨w.heap.size+1,0,Z⟩=Y v')(f:w'.frozen? ⟨w.heap.size+1,0,Z⟩=false)(d:gG w' w.heap.size v' a)(c:dH (w.heap.size+1) wr w'):GI w w' a:=⟨⟨v',e,d⟩,f,(c.block _ (by omega)).trans h.res,h.bel.trans (c.below (by omega)),by rw[c.size];exact h.siz⟩
theorem GI.later{w wr w':World}{a:List UInt8}(h:GI w wr a)(c:Below (w.heap.size+2) wr w'):GI w w' a:=by obtain⟨v,e,d⟩:=h.rd;refine⟨⟨v,(c.cell (by show w.heap.size+1<_;omega)).trans e,d.keep fun b o f=>c.cell (p:=⟨b,o,Z⟩) (by show b<_;omega)⟩,(c.frozen (by show w.heap.size+1<_;omega)).trans h.rf,(c.block _ (by omega)).trans h.res,h.bel.trans (c.mono (by omega)),Nat.le_trans h.siz c.size⟩
def fL(w:World)(base:Nat)(v:Value)(zs:List Int):Prop:=w.ownsRow base 3 1 v zs.length (zs.map (Value.int .i64))
theorem dH.grown{B:Nat}{w w':World}(h:dH B w w'):w.grownBy w' (Y B):=⟨h.os,h.tape,h.output,by rw[h.size];exact Nat.le_refl _,fun k _ a=>h.block k (fun e=>a (by rw[e]))⟩
def pD(l:Value)(zs:List Int):Prop:=zs=[]->l=J Z 0 0
theorem fL.but{w w':World}{base B:Nat}{v:Value}{a:List Int}(h:fL w base v a)(b:dH B w w')(c:B<base):fL w' base v a:=
 World.ownsRow.kept h b.grown (by
  right;intro e
  have:=(World.ownsRow.lt h B e).1
  omega)
theorem fL.shape{w:World}{base:Nat}{v:Value}{b:List Int}(h:fL w base v b):∃a c,v=J a b.length c:=by
 rcases h.2 with⟨rfl,e⟩|⟨g,f,d,rfl,_⟩;·exact⟨none,0,by rw[e]⟩
 ·exact⟨_,_,rfl⟩
theorem fL.low{w:World}{base a:Nat}{v:Value}{e:List Int}(h:fL w base v e)(k:a<=base):fL w a v e:=by
 obtain⟨f,b⟩:=h;rcases b with b|⟨g,d,c,i,j,r⟩;·exact⟨f,.inl b⟩
 ·exact⟨f,.inr ⟨g,d,c,i,by omega,r⟩⟩
theorem wX:(Tryz.prog.info? 3).map (fun i=>(i.zero,i.size,i.bytes))=Y (Y (I T 0),1,8):=by kernel_rfl
theorem qD(w:World)(R:Nat)(k d g f e c h l m n b:Value)(hs:∀i,i<11->(w.cell? ⟨R,i,Z⟩).isSome=true):∃W,(((((((((((w.setCell ⟨R,0,Z⟩ k).setCell ⟨R,1,Z⟩ d).setCell ⟨R,2,Z⟩ g).setCell ⟨R,3,Z⟩ f).setCell ⟨R,4,Z⟩ e).setCell ⟨R,5,Z⟩ c).setCell ⟨R,6,Z⟩ h).setCell ⟨R,7,Z⟩ l).setCell ⟨R,8,Z⟩ m).setCell ⟨R,9,Z⟩ n).setCell ⟨R,10,Z⟩ b)=W/\(W.cell? ⟨R,0,Z⟩=Y k/\W.cell? ⟨R,1,Z⟩=Y d/\W.cell? ⟨R,2,Z⟩=Y g/\W.cell? ⟨R,3,Z⟩=Y f/\W.cell? ⟨R,4,Z⟩=Y e/\W.cell? ⟨R,5,Z⟩=Y c/\W.cell? ⟨R,6,Z⟩=Y h/\W.cell? ⟨R,7,Z⟩=Y l/\W.cell? ⟨R,8,Z⟩=Y m/\W.cell? ⟨R,9,Z⟩=Y n/\W.cell? ⟨R,10,Z⟩=Y b)/\dH R w W/\∀B w0,B<=R->Below B w0 w->Below B w0 W:=by
 refine⟨_,rfl,?_,?_,?_⟩;·have a:=World.cell?_setCells_in R [k,d,g,f,e,c,h,l,m,n,b] 0 w (fun j q=>by rw[Nat.zero_add];exact hs j q);exact⟨a 0 (by simp),a 1 (by simp),a 2 (by simp),a 3 (by simp),a 4 (by simp),a 5 (by simp),a 6 (by simp),a 7 (by simp),a 8 (by simp),a 9 (by simp),a 10 (by simp)⟩
 ·exact(((((((((((dH.setCell w ⟨R,0,Z⟩ k).trans (dH.setCell _ ⟨R,1,Z⟩ d)).trans (dH.setCell _ ⟨R,2,Z⟩ g)).trans (dH.setCell _ ⟨R,3,Z⟩ f)).trans (dH.setCell _ ⟨R,4,Z⟩ e)).trans (dH.setCell _ ⟨R,5,Z⟩ c)).trans (dH.setCell _ ⟨R,6,Z⟩ h)).trans (dH.setCell _ ⟨R,7,Z⟩ l)).trans (dH.setCell _ ⟨R,8,Z⟩ m)).trans (dH.setCell _ ⟨R,9,Z⟩ n)).trans (dH.setCell _ ⟨R,10,Z⟩ b))
 ·intro B w0 p o;repeat(refine Below.setCell ?_ (show B<=R from p) _)
  exact o
theorem EE(t:Nat):∀(r:List UInt8) (a:List Int),jL (t+1) r a=(iB (jL t r a).1 8,(jL t r a).2++[iF (jL t r a).1 8]):=by
 induction t with
 |zero=>intro r a;rfl
 |succ t ih=>intro r a;exact ih (iB r 8) (a++[iF r 8])
theorem xR(t:Nat):∀(r:List UInt8) (a:List Int),(jL t r a).2.length=a.length+t:=by
 induction t with
 |zero=>intro r a;rfl
 |succ t ih=>intro r a;show(jL t _ _).2.length=_;rw[ih];simp;omega
def jC(bs:List UInt8):Int:=iF bs 1
def kX(bs:List UInt8):Int:=iF (iB bs 1) 1
def iM(bs:List UInt8):Gs:=iX (jC bs).toNat 5 (iB (iB bs 1) 1)
theorem GW(q:List UInt8)(v:Value)(w:World)(A:gG w w.heap.size v q)(D:11<=jC q):Calls pG 215 #[v] w fun e w'=>e=.returned (.agg #[I T 0,I T 0,I T 0,I T 0,I T 0,I T 0,I T 0,I T 0,I T 0,I T 0,J Z 0 0])/\Below w.heap.size w w':=by
 have B:=A;obtain⟨E,y,rfl,_,_,_⟩:=B;have c:Below w.heap.size w ((w.alloc (G #[I T 0,I T 0,I T 0,I T 0,I T 0,I T 0,I T 0,I T 0,I T 0,I T 0,J Z 0 0] 136)).alloc (G #[J E q.length y] 334)):=
  (a_ _ _).alloc (by simp) _
 have k:=A.keep fun b o u=>c.cell (p:=⟨b,o,Z⟩) u;go_enter func215,ntmps215;go_wp2_with fail;refine(rC (w.heap.size+1) w.heap.size _ q _ (by omega) (World.cell?_alloc_at _ _ _ _ (by simp)) (World.frozen?_alloc_at _ _ _ _ (by simp)) k).mono ?_;rintro e w1 ⟨rfl,v1,j,g,f,n⟩;go_wp2_with fail;refine(rC (w.heap.size+1) w.heap.size v1 _ _ (by omega) j g f).mono ?_;rintro e w2 ⟨rfl,V,R,F,t,l⟩;have U:11<=iF q 1:=D;have a:=n.trans l;have h:∀i,w2.cell? ⟨w.heap.size,i,Z⟩=#[I T 0,I T 0,I T 0,I T 0,I T 0,I T 0,I T 0,I T 0,I T 0,I T 0,J Z 0 0][i]?:=fun i=>by rw[a.cell (by show w.heap.size≠_;omega),World.cell?_alloc_past _ _ _ (by simp),World.cell?_alloc_at _ _ _ _ rfl]
 have x:∀i,w2.frozen? ⟨w.heap.size,i,Z⟩=false:=fun i=>by rw[a.frozen (by show w.heap.size≠_;omega),World.frozen?_alloc_past _ _ _ (by simp),World.frozen?_alloc_at _ _ _ _ rfl]
 have d:=c.trans (a.below (by omega));clear c k f t n l a j g;go_wp2;obtain⟨W,z,⟨C,S,M,c3,N,H,O,K,Q,L,r⟩,m,s⟩:=qD w2 w.heap.size (I T 0) (I T 0) (I T 0) (I T 0) (I T 0) (I T 0) (I T 0) (I T 0) (I T 0) (I T 0) (J Z 0 0) (fun i hi=>by rw[h];simp;omega);rw[z];clear z h x m;exact bodyPost_ret (v:=.agg #[I T 0,I T 0,I T 0,I T 0,I T 0,I T 0,I T 0,I T 0,I T 0,I T 0,J Z 0 0]) (by simp[results,results215,go_sem,C,S,M,c3,N,H,O,K,Q,L,r]) rfl ⟨rfl,s _ _ r_ d⟩
theorem FY(q:List UInt8)(v:Value)(w:World)(s:dU w)(hr:gG w w.heap.size v q)(hK:jC q<11):Calls pG 215 #[v] w fun e w'=>∃n1 n2 n3 n4 n5 n6 n7 n8 n0 n9 l,e=.returned (.agg #[I T (jC q),I T (kX q),I T n1,I T n2,I T n3,I T n4,I T n5,I T n6,I T n7,I T n8,l])/\(iM q).nums=[n0,n1,n2,n3,n4,n5,n6,n7,n8,n9]/\fL w' w.heap.size l (iM q).vals/\pD l (iM q).vals/\Below w.heap.size w w':=by
 have tw:=s.two;have hv:=hr;obtain⟨ao,aN,rfl,_,_,_⟩:=hv;have av:Below w.heap.size w ((w.alloc (G #[I T 0,I T 0,I T 0,I T 0,I T 0,I T 0,I T 0,I T 0,I T 0,I T 0,J Z 0 0] 136)).alloc (G #[J ao q.length aN] 334)):=
  (a_ _ _).alloc (by simp) _
 have ap:=hr.keep fun b o a4=>av.cell (p:=⟨b,o,Z⟩) a4;have aF:GI w ((w.alloc (G #[I T 0,I T 0,I T 0,I T 0,I T 0,I T 0,I T 0,I T 0,I T 0,I T 0,J Z 0 0] 136)).alloc (G #[J ao q.length aN] 334)) q:=
  ⟨⟨_,World.cell?_alloc_at _ _ _ _ (by simp),ap⟩,World.frozen?_alloc_at _ _ _ _ (by simp),by rw[Below.heap_alloc _ _ _ (by simp)];exact heap_alloc_new w _,av,by simp⟩
 have HE:Hid (iM q=iX (jC q).toNat 5 (iB (iB q 1) 1)):=rfl;obtain⟨K,az,_⟩:=xX q;have HK:Hid (jC q=(K:Int)):=az;have b5:Hid (iF q 1=(K:Int)):=az;have ah:K<11:=by have:=HK.out;omega
 have HF:Hid (kX q=iF (iB q 1) 1):=rfl;clear az hK;go_enter func215,ntmps215;go_wp2_with fail;refine(rC (w.heap.size+1) w.heap.size _ q _ (by omega) (World.cell?_alloc_at _ _ _ _ (by simp)) (World.frozen?_alloc_at _ _ _ _ (by simp)) ap).mono ?_;rintro e w1 ⟨rfl,v1,an,aq,ax,aP⟩;have aD:=aF.read an aq ax aP;rw[b5.out];go_wp2_with fail;refine(rC (w.heap.size+1) w.heap.size v1 _ _ (by omega) an aq ax).mono ?_;rintro e w2 ⟨rfl,v2,b3,aS,aE,aJ⟩;have aa:=aD.read b3 aS aE aJ;clear av ap ax aE aP aJ an aq aF aD hr b3 aS;generalize iF (iB q 1) 1=FR at*;generalize iB (iB q 1) 1=a at*;have x:dU w2:=s.below aa.bel (by omega);have s2:=aa.siz;have t0:0<w2.heap.size:=by omega
 have t1:1<w2.heap.size:=by omega
 have r0:w2.cell? ⟨0,K*5,Z⟩=_:=x.lu K 0 (by omega) (by omega);have r1:=x.lu K 1 (by omega) (by omega);have r2:=x.lu K 2 (by omega) (by omega);have r3:=x.lu K 3 (by omega) (by omega);have r4:=x.lu K 4 (by omega) (by omega);have dk:decide ((11:Int)<=(K:Int))=false:=by simp;omega
 go_wp2_with fail;have a9:GI w (w2.alloc (G #[I T 0,I T 0,I T 0,I T 0,I T 0,I T 0,I T 0,I T 0,I T 0,I T 0] 298)) a:=aa.later (b_.alloc s2 _);have D:=fun t s=>AY (w:=w2) 0 0 0 0 0 0 0 0 0 0 t s;have M:∀t,t<10->(w2.alloc (G #[I T 0,I T 0,I T 0,I T 0,I T 0,I T 0,I T 0,I T 0,I T 0,I T 0] 298)).frozen? ⟨w2.heap.size,t,Z⟩=false:=fun t _=>World.frozen?_alloc_at _ _ _ _ rfl;have a2:w2.heap.size+1<=(w2.alloc (G #[I T 0,I T 0,I T 0,I T 0,I T 0,I T 0,I T 0,I T 0,I T 0,I T 0] 298)).heap.size:=by simp
 generalize w2.alloc (G #[I T 0,I T 0,I T 0,I T 0,I T 0,I T 0,I T 0,I T 0,I T 0,I T 0] 298)=W0 at*;generalize w2.heap.size=N at*;have aX:Hid (iM q=iX K 5 a):=by unfold Hid;rw[HE.out,HK.out];rfl
 clear r0 r1 r2 r3 r4 x aa HE b5 t0 t1;obtain⟨i3,bj,b7,bi,be⟩:=info_parts wX;go_loopw [7,20] (fun l i wr=>∃(j:Nat),j<=5/\i=I T j/\GI w wr (iX K j a).rest/\(∀t,t<10->wr.cell? ⟨N,t,Z⟩=Y (I T ((iX K j a).nums.getD t 0)))/\(∀t,t<10->wr.frozen? ⟨N,t,Z⟩=false)/\
  fL wr (N+1) l (iX K j a).vals/\pD l (iX K j a).vals/\N+1<=wr.heap.size/\(iX K j a).vals.length<=256*j) (fun _ i _=>5 - (intOf i).toNat)
 case atStart=>exact⟨0,by omega,rfl,a9,D,M,World.ownsRow_nil _ _ _ _,fun _=>rfl,a2,by simp[iX]⟩
 case round=>
  obtain⟨j,hj,rfl,n,c,S,f,y,aR,bq⟩:=hrel;have ae:=K5 K j a;by_cases a4:j<5
  ·have bm:∀w,(Instr.index 301 (.agg #[I T (fC K 0),I T (fC K 1),I T (fC K 2),I T (fC K 3),I T (fC K 4)]) (I T (j:Int))).run pG w=.ok (I T (fC K j)) w:=vA K j a4;have hF:=uN K j ah a4;have HS:Hid (iX K (j+1) a=jO (iX K j a) (fC K j)):=JF K j a ah a4;have aK:=S (fC K j) hF;have b2:=c (fC K j) hF;have HC:Hid _:=c;have HZ:Hid _:=S;clear c S;generalize fC K j=F at*;generalize iX K j a=h at*;obtain⟨rv,ad,af⟩:=n.rd;have ab:=n.rf;by_cases aZ:F=0
   ·subst aZ;go_wp2;go_roundw;case rel=>have e:iX K (j+1) a=h:=HS.out;exact⟨j+1,by omega,by go_num,by rw[e];exact n,by rw[e];exact HC,HZ,by rw[e];exact f,by rw[e];exact y,aR,by rw[e];omega⟩
    case measure=>simp[intOf];omega
   by_cases aQ:F=9
   ·subst aQ;obtain⟨C,hC,b9⟩:=xX h.rest;have aA:Hid (iF h.rest 1=(C:Int)):=hC;clear hC;go_wp2_with fail;refine(rC (w.heap.size+1) w.heap.size rv h.rest _ (by omega) ad ab af).mono ?_;rintro r w5 ⟨rfl,v5,a7,V,a5,m⟩;have R:=n.read a7 V a5 m;have z:=f.but m (by omega);have Q:N≠w.heap.size+1:=by omega
    have a8:Hid (∀t,t<10->w5.cell? ⟨N,t,Z⟩=Y (I T (h.nums.getD t 0))):=fun t s=>(m.cell (by exact Q)).trans (HC.out t s);have X:Hid (∀t,t<10->w5.frozen? ⟨N,t,Z⟩=false):=fun t s=>(m.frozen (by exact Q)).trans (HZ.out t s);have ay:N+1<=w5.heap.size:=by rw[m.size];exact aR
    rw[aA.out];have a1:Hid (iX K (j+1) a=⟨(jL C (iB h.rest 1) h.vals).1,h.nums,(jL C (iB h.rest 1) h.vals).2⟩):=by unfold Hid;rw[HS.out];unfold jO;rw[if_neg (by omega),if_pos rfl,aA.out];rfl
    clear b2 aK ad ab af a7 V a5 m HC HZ n f HS aA a9 D M a2;generalize iB h.rest 1=d at*;go_wp2_with fail;go_loopw [7,32] (fun l i wr=>∃(t:Nat),t<=C/\i=I T t/\GI w wr (jL t d h.vals).1/\(∀t,t<10->wr.cell? ⟨N,t,Z⟩=Y (I T (h.nums.getD t 0)))/\(∀t,t<10->wr.frozen? ⟨N,t,Z⟩=false)/\
     fL wr (N+1) l (jL t d h.vals).2/\pD l (jL t d h.vals).2/\N+1<=wr.heap.size) (fun _ i _=>C - (intOf i).toNat)
    case atStart=>exact⟨0,by omega,rfl,R,a8,X,z,y,ay⟩
    case round=>
     clear R a8 X z ay;obtain⟨t,br,rfl,B,E,O,H,ar,aH⟩:=hrel;have a0:=xR t d h.vals;by_cases bt:t<C
     ·have HR:Hid _:=EE t d h.vals;generalize jL t d h.vals=pr at*;obtain⟨bc,al,aj⟩:=B.rd;have ai:=B.rf;have b0:Hid _:=E;have aO:Hid _:=O;clear E O;go_wp2_with fail;refine(AZ (w.heap.size+1) w.heap.size bc pr.1 _ (by omega) al ai aj).mono ?_;rintro r w7 ⟨rfl,v7,aY,b4,aV,U⟩;have ag:=B.read aY b4 aV U;have A:=H.but U (by omega);have aL:Hid (∀t,t<10->w7.cell? ⟨N,t,Z⟩=Y (I T (h.nums.getD t 0))):=fun t s=>(U.cell (by exact Q)).trans (b0.out t s);have aU:Hid (∀t,t<10->w7.frozen? ⟨N,t,Z⟩=false):=fun t s=>(U.frozen (by exact Q)).trans (aO.out t s);have aw:N+1<=w7.heap.size:=by rw[U.size];exact aH
      clear al ai aj aY b4 aV U b0 aO B H;generalize iF pr.1 8=TN at*;generalize iB pr.1 8=R7 at*;obtain⟨bp,bb⟩:=pr;dsimp only at A HR a0;go_wp2_with(at_builtin;refine wpList_append_own _ rfl _ _ 59 rfl (N+1) 3 i3 (I T 0) 1 8 underlying59 bj b7 bi be rfl (by decide) _ _ _ rfl (World.ownsRow.alloc A _) ⟨w7.heap.size,0,Z⟩ 1 1 [I T TN] rfl rfl (cell_one_new _ _ _) ?c2 ?c3 ?c4 ?c5 ?_);case c2=>intro u hu;simp at hu;subst hu;rfl
      case c3=>unfold maxLen;omega
      case c4=>omega
      case c5=>simp;omega
      ·intro v' w9 aG hg _;have b8:fL w9 (N+1) v' (bb++[TN]):=by unfold fL;rw[List.length_append,List.map_append,a0];exact aG
       have a3:Below (N+1) w7 w9:=(b_.alloc aw _).grown hg (by simp;omega) (fun g hg=>(World.ownsRow.lt A g hg).1);have b1:=ag.later (a3.mono (by omega));have bd:N+1<=w9.heap.size:=Nat.le_trans aw a3.size;have bk:Hid (∀t,t<10->w9.cell? ⟨N,t,Z⟩=Y (I T (h.nums.getD t 0))):=fun t s=>(a3.cell (by show N<N+1;omega)).trans (aL.out t s);have ba:Hid (∀t,t<10->w9.frozen? ⟨N,t,Z⟩=false):=fun t s=>(a3.frozen (by show N<N+1;omega)).trans (aU.out t s);clear aG hg A ag aL aU aw a3;go_wp2;go_roundw;case rel=>exact⟨t+1,by omega,by go_num,by rw[HR.out];exact b1,bk,ba,by rw[HR.out];exact b8,by rw[HR.out];exact fun h9=>by simp at h9,bd⟩
       case measure=>simp[intOf];omega
     ·have aM:t=C:=by omega
      subst aM;clear a0;have ak:=xR t d h.vals;have HV:Hid _:=ak;clear ak;go_wp2;go_roundw;case rel=>refine⟨j+1,by omega,by go_num,by rw[a1.out];exact B,by rw[a1.out];exact E,O,by rw[a1.out];exact H,by rw[a1.out];exact ar,aH,by rw[a1.out];show(jL t d h.vals).2.length<=_;rw[HV.out];omega⟩
      case measure=>simp[intOf];omega
   ·have n0:((F:Int)==0)=false:=by simp;omega
    have n9:((F:Int)==9)=false:=by simp;omega
    go_wp2_with fail;refine(AZ (w.heap.size+1) w.heap.size rv h.rest _ (by omega) ad ab af).mono ?_;rintro r w5 ⟨rfl,v5,a7,V,a5,m⟩;have R:=n.read a7 V a5 m;have z:=f.but m (by omega);have Q:N≠w.heap.size+1:=by omega
    have a8:Hid (∀t,t<10->w5.cell? ⟨N,t,Z⟩=Y (I T (h.nums.getD t 0))):=fun t s=>(m.cell (by exact Q)).trans (HC.out t s);have X:Hid (∀t,t<10->w5.frozen? ⟨N,t,Z⟩=false):=fun t s=>(m.frozen (by exact Q)).trans (HZ.out t s);have bo:=a8.out F hF;have bn:=X.out F hF;have ay:w5.heap.size=wr.heap.size:=m.size;clear b2 aK ad ab af a7 V a5 m HC HZ n f;generalize aI:iF h.rest 8=TN at*;have bl:Hid (iF h.rest 8=TN):=aI;clear aI;go_wp2;go_roundw;case rel=>
     have e:iX K (j+1) a=⟨iB h.rest 8,h.nums.set F TN,h.vals⟩:=by rw[HS.out,←bl.out];unfold jO;rw[if_neg aZ,if_neg aQ]
     refine⟨j+1,by omega,by go_num,by rw[e];exact R.later (b_.setCell (by show w.heap.size+2<=N;omega) _),by rw[e];exact yW ae F hF TN (fun _=>rfl) a8,fun t s=>by simpa using X.out t s,by rw[e];exact ownsRow_setCell_below z (by show N<N+1;omega) _,by rw[e];exact y,by simp[World.setCell];omega,by rw[e];show h.vals.length<=_;omega⟩
    case measure=>simp[intOf];omega
  ·have bh:j=5:=by omega
   subst bh;rw[←aX.out]at n c f y ae;generalize aT:iM q=h at*;obtain⟨sr,sn,sv⟩:=h;have aB:Hid (iM q=⟨sr,sn,sv⟩):=aT;clear aT;dsimp only at n c f y ae;obtain⟨la,lc,rfl⟩:=f.shape;match sn,ae with
   | [n0,n1,n2,n3,n4,n5,n6,n7,n8,n9],_=>
    have c0:wr.cell? ⟨N,0,Z⟩=Y (I T n0):=c 0 (by omega);have c1:wr.cell? ⟨N,1,Z⟩=Y (I T n1):=c 1 (by omega);have c2:wr.cell? ⟨N,2,Z⟩=Y (I T n2):=c 2 (by omega);have c3:wr.cell? ⟨N,3,Z⟩=Y (I T n3):=c 3 (by omega);have c4:wr.cell? ⟨N,4,Z⟩=Y (I T n4):=c 4 (by omega);have c5:wr.cell? ⟨N,5,Z⟩=Y (I T n5):=c 5 (by omega);have c6:wr.cell? ⟨N,6,Z⟩=Y (I T n6):=c 6 (by omega);have c7:wr.cell? ⟨N,7,Z⟩=Y (I T n7):=c 7 (by omega);have c8:wr.cell? ⟨N,8,Z⟩=Y (I T n8):=c 8 (by omega);have c9:wr.cell? ⟨N,9,Z⟩=Y (I T n9):=c 9 (by omega);clear c S aX a9 D M a2;go_wp2_with fail;refine(E3 _ _ _ _ _ _ _ _ _ _ _ _ _ _ _ _).mono ?_;rintro r w8 ⟨rfl,L⟩;have ac:GI w w8 sr:=n.later (L.mono (by have:=n.siz;omega));have aW:∀i,w8.cell? ⟨w.heap.size,i,Z⟩=#[I T 0,I T 0,I T 0,I T 0,I T 0,I T 0,I T 0,I T 0,I T 0,I T 0,J Z 0 0][i]?:=fun i=>by simp[World.cell?,ac.res]
    have bg:∀i,w8.frozen? ⟨w.heap.size,i,Z⟩=false:=fun i=>by simp[World.frozen?,ac.res]
    clear c0 c1 c2 c3 c4 c5 c6 c7 c8 c9;go_wp2;obtain⟨W,hW,⟨c0,c1,c2,c3,c4,c5,c6,c7,c8,c9,bf⟩,am,b6⟩:=qD w8 w.heap.size (I T K) (I T FR) (I T n1) (I T n2) (I T n3) (I T n4) (I T n5) (I T n6) (I T n7) (I T n8) (J la sv.length lc) (fun i hi=>by rw[aW];simp;omega);have a6:fL w8 (N+1) (J la sv.length lc) sv:=World.ownsRow.kept f ⟨L.os,L.tape,L.output,L.size,fun k hk _=>L.block k hk⟩ (row:=none) (by simp[Value.ownBlock];cases la<;>simp);have au:=(a6.but am (by omega)).low (show w.heap.size<=N+1 by omega);have aC:=b6 _ _ r_ ac.bel;rw[hW];clear hW aW bg am a6 f L ac n;exact bodyPost_ret (v:=.agg #[I T K,I T FR,I T n1,I T n2,I T n3,I T n4,I T n5,I T n6,I T n7,I T n8,J la sv.length lc]) (by simp[results,results215,go_sem,c0,c1,c2,c3,c4,c5,c6,c7,c8,c9,bf]) rfl
     ⟨n1,n2,n3,n4,n5,n6,n7,n8,n0,n9,J la sv.length lc,by rw[HK.out,HF.out],by rw[aB.out],by rw[aB.out];exact au,by rw[aB.out];exact y,aC⟩
end
theorem mC(b a1 c f i h d g e a:Int):oW [b,a1,c,f,i,h,d,g,e,a]=true↔b=0/\a1=0/\c=0/\f=0/\i=0/\h=0/\d=0/\g=0/\e=0/\a=0:=by simp[oW,List.replicate]
def kY:Option (List Int)->Bool
 |none=>false
 |some a=>oW a
theorem mE(k:Nat)(a:List Int):iG k a=kY (iR (eU k) a):=by unfold iG;cases iR (eU k) a<;>rfl
theorem eS(f:Nat)(r:List Nat)(arr:List Int):kY (iR (f::r) arr)=true↔(jV f<=arr.getD f 0/\arr.getD f 0<=jW f)/\kY (iR r (arr.set f 0))=true:=by
 rw[iR];by_cases h:arr.getD f 0<jV f∨jW f<arr.getD f 0
 ·rw[if_pos h];constructor;·intro a;simp[kY]at a
  ·rintro⟨a,_⟩;omega
 ·rw[if_neg h];constructor;·intro a;exact⟨by omega,a⟩
  ·rintro⟨_,a⟩;exact a
theorem mJ(e b wa p s q bl v n:Int):iG 1 [0,e,b,wa,p,s,q,bl,v,n]=true↔(0<=e/\e<=1000000000000)/\(0<=b/\b<=1000000000000)/\wa=0/\p=0/\s=0/\q=0/\bl=0/\v=0/\n=0:=by rw[mE];rw[show eU 1=[1,2,0,0,0] from rfl];rw[eS,eS,eS,eS,eS];simp only[jV,jW,lV,lW,List.getD_eq_getElem?_getD,List.set_cons_zero,List.set_cons_succ,List.getElem?_cons_zero,List.getElem?_cons_succ,Option.getD_some,iR,kY,mC,true_and];all_goals omega
theorem rD(e b wa p s q bl v n:Int):iG 2 [0,e,b,wa,p,s,q,bl,v,n]=true↔(0<=e/\e<=1000000000000)/\(0<=b/\b<=1000000000000)/\(0<=wa/\wa<=1000000000000)/\(0<=p/\p<=5)/\(0<=s/\s<=31)/\q=0/\bl=0/\v=0/\n=0:=by rw[mE];rw[show eU 2=[1,2,3,4,5] from rfl];rw[eS,eS,eS,eS,eS];simp only[jV,jW,lV,lW,List.getD_eq_getElem?_getD,List.set_cons_zero,List.set_cons_succ,List.getElem?_cons_zero,List.getElem?_cons_succ,Option.getD_some,iR,kY,mC,true_and];all_goals omega
theorem mK(e b wa p s q bl v n:Int):iG 3 [0,e,b,wa,p,s,q,bl,v,n]=true↔(0<=e/\e<=1000000000000)/\(0<=b/\b<=1000000000000)/\(0<=p/\p<=5)/\(0<=s/\s<=31)/\wa=0/\q=0/\bl=0/\v=0/\n=0:=by rw[mE];rw[show eU 3=[1,2,4,5,0] from rfl];rw[eS,eS,eS,eS,eS];simp only[jV,jW,lV,lW,List.getD_eq_getElem?_getD,List.set_cons_zero,List.set_cons_succ,List.getElem?_cons_zero,List.getElem?_cons_succ,Option.getD_some,iR,kY,mC,true_and];all_goals omega
theorem rF(e b wa p s q bl v n:Int):iG 4 [0,e,b,wa,p,s,q,bl,v,n]=true↔(0<=e/\e<=1000000000000)/\(0<=b/\b<=1000000000000)/\wa=0/\p=0/\s=0/\q=0/\bl=0/\v=0/\n=0:=by rw[mE];rw[show eU 4=[1,2,0,0,0] from rfl];rw[eS,eS,eS,eS,eS];simp only[jV,jW,lV,lW,List.getD_eq_getElem?_getD,List.set_cons_zero,List.set_cons_succ,List.getElem?_cons_zero,List.getElem?_cons_succ,Option.getD_some,iR,kY,mC,true_and];all_goals omega
theorem rG(e b wa p s q bl v n:Int):iG 5 [0,e,b,wa,p,s,q,bl,v,n]=true↔(0<=e/\e<=1000000000000)/\(0<=b/\b<=1000000000000)/\(0<=wa/\wa<=1000000000000)/\p=0/\s=0/\q=0/\bl=0/\v=0/\n=0:=by rw[mE];rw[show eU 5=[1,2,3,0,0] from rfl];rw[eS,eS,eS,eS,eS];simp only[jV,jW,lV,lW,List.getD_eq_getElem?_getD,List.set_cons_zero,List.set_cons_succ,List.getElem?_cons_zero,List.getElem?_cons_succ,Option.getD_some,iR,kY,mC,true_and];all_goals omega
theorem mY(e b wa p s q bl v n:Int):iG 6 [0,e,b,wa,p,s,q,bl,v,n]=true↔(0<=e/\e<=1000000000000)/\(0<=p/\p<=5)/\(0<=s/\s<=31)/\b=0/\wa=0/\q=0/\bl=0/\v=0/\n=0:=by rw[mE];rw[show eU 6=[1,4,5,0,0] from rfl];rw[eS,eS,eS,eS,eS];simp only[jV,jW,lV,lW,List.getD_eq_getElem?_getD,List.set_cons_zero,List.set_cons_succ,List.getElem?_cons_zero,List.getElem?_cons_succ,Option.getD_some,iR,kY,mC,true_and];all_goals omega
theorem mZ(e b wa p s q bl v n:Int):iG 7 [0,e,b,wa,p,s,q,bl,v,n]=true↔(0<=e/\e<=1000000000000)/\(0<=q/\q<=1000000000000)/\(0<=bl/\bl<=3)/\(-9223372036854775808<=v/\v<=9223372036854775807)/\b=0/\wa=0/\p=0/\s=0/\n=0:=by rw[mE];rw[show eU 7=[1,6,7,8,0] from rfl];rw[eS,eS,eS,eS,eS];simp only[jV,jW,lV,lW,List.getD_eq_getElem?_getD,List.set_cons_zero,List.set_cons_succ,List.getElem?_cons_zero,List.getElem?_cons_succ,Option.getD_some,iR,kY,mC,true_and];all_goals omega
theorem rH(e b wa p s q bl v n:Int):iG 8 [0,e,b,wa,p,s,q,bl,v,n]=true↔(0<=e/\e<=1000000000000)/\(0<=q/\q<=1000000000000)/\b=0/\wa=0/\p=0/\s=0/\bl=0/\v=0/\n=0:=by rw[mE];rw[show eU 8=[1,6,0,0,0] from rfl];rw[eS,eS,eS,eS,eS];simp only[jV,jW,lV,lW,List.getD_eq_getElem?_getD,List.set_cons_zero,List.set_cons_succ,List.getElem?_cons_zero,List.getElem?_cons_succ,Option.getD_some,iR,kY,mC,true_and];all_goals omega
theorem nA(e b wa p s q bl v n:Int):iG 9 [0,e,b,wa,p,s,q,bl,v,n]=true↔(0<=e/\e<=1000000000000)/\(0<=q/\q<=1000000000000)/\(0<=n/\n<=4)/\b=0/\wa=0/\p=0/\s=0/\bl=0/\v=0:=by rw[mE];rw[show eU 9=[1,6,9,0,0] from rfl];rw[eS,eS,eS,eS,eS];simp only[jV,jW,lV,lW,List.getD_eq_getElem?_getD,List.set_cons_zero,List.set_cons_succ,List.getElem?_cons_zero,List.getElem?_cons_succ,Option.getD_some,iR,kY,mC,true_and,and_true];all_goals omega
theorem sX(e b wa p s q bl v n:Int):iG 10 [0,e,b,wa,p,s,q,bl,v,n]=true↔(0<=e/\e<=1000000000000)/\(0<=q/\q<=1000000000000)/\b=0/\wa=0/\p=0/\s=0/\bl=0/\v=0/\n=0:=by rw[mE];rw[show eU 10=[1,6,0,0,0] from rfl];rw[eS,eS,eS,eS,eS];simp only[jV,jW,lV,lW,List.getD_eq_getElem?_getD,List.set_cons_zero,List.set_cons_succ,List.getElem?_cons_zero,List.getElem?_cons_succ,Option.getD_some,iR,kY,mC,true_and];all_goals omega
section
open Go.RowKit
open Value (bool)
def dF(bs:List UInt8):ByteArray:=⟨bs.toArray⟩
theorem sO{w:World}{v:Value}{e:List UInt8}(h:jb w v e):(convert 148 9 v).run pG w=.ok (.string (dF e)) w:=by
 obtain⟨f,b,rfl,_,_,k⟩:=h;rcases k with rfl|⟨g,off,rfl,i⟩
 ·cases f with
  |none=>exact run_convert_bytes_nil w 148 5 underlying148 underlying5 0 b 9 underlying9
  |some a=>exact run_convert_bytes_back w 148 9 5 a b [] underlying148 underlying5 underlying9 (fun j d=>by simp at d)
 ·exact run_convert_bytes_back w 148 9 5 ⟨g,off,Z⟩ b e underlying148 underlying5 underlying9 (fun j d=>by
   have c:(⟨g,off,Z⟩:Addr).add j=⟨g,off+j,Z⟩:=by unfold Addr.add;split<;>simp_all
   rw[c];exact i j d)
theorem GX(v1 d:Value)(c a:List UInt8)(w:World)(g:jb w v1 c)(f:jb w d a):Calls pG 216 #[v1,d] w fun e w'=>e=.returned (.bool (c==a))/\w'=w:=by
 have i:=sO g;have h:=sO f;have H:Hid (((dF c).toList==(dF a).toList)=(c==a)):=by unfold Hid;rw[←beq_toListBytes];show((⟨c⟩:Array UInt8)==⟨a⟩)=(c==a);simp
 go_enter func216,ntmps216;go_wp2;go_ret;exact⟨congrArg (fun b=>Ending.returned (.bool b)) H,rfl⟩
theorem pX{k f e b wa p s q bl v:Int}{n:Nat}(h:fD k f [0,e,b,wa,p,s,q,bl,v,(n:Int)]=true):1<=k/\k<=10/\0<=f/\f<5/\n<=4:=by
 unfold fD at h;rw[Bool.and_eq_true]at h;obtain⟨c,a⟩:=h;have g:¬(k<1∨10<k∨f<0∨5<=f):=by simpa[nK] using c
 refine⟨by omega,by omega,by omega,by omega,?_⟩;obtain⟨K,rfl⟩:=Int.eq_ofNat_of_zero_le (show 0<=k by omega);rw[show(K:Int).toNat=K by simp]at a;have d:1<=K/\K<=10:=by omega
 match K,d with
 |1,_=>rw[mJ]at a;omega
 |2,_=>rw[rD]at a;omega
 |3,_=>rw[mK]at a;omega
 |4,_=>rw[rF]at a;omega
 |5,_=>rw[rG]at a;omega
 |6,_=>rw[mY]at a;omega
 |7,_=>rw[mZ]at a;omega
 |8,_=>rw[rH]at a;omega
 |9,_=>rw[nA]at a;omega
 |10,_=>rw[sX]at a;omega
theorem fL.ints{w:World}{base:Nat}{a:Option Addr}{n c:Nat}{e:List Int}(h:fL w base (J a n c) e):n=e.length/\eX w a e:=by
 have q:=h;obtain⟨t,k⟩:=h;rcases k with⟨f,d⟩|⟨g,m,l,f,s,o,u,r,hs,v⟩;·cases f;exact⟨d.symm,.inl (List.eq_nil_of_length_eq_zero d)⟩
 ·cases f;refine⟨rfl,.inr ⟨g,0,rfl,(Array.getElem?_eq_some_iff.1 o).1,fun j p=>?_⟩⟩;have i:=World.ownsRow.cells q (g:=g) rfl j (I T e[j]) (by simp[p]);have b:(⟨g,0,Z⟩:Addr).add j=⟨g,j,Z⟩:=by unfold Addr.add;split<;>simp_all
  rw[b]at i;rw[Nat.zero_add];exact i
theorem uO(k f e b wa p s q bl v:Int)(a:Option Addr)(d:List Int)(c:Nat)(w:World)(l:dU w)(i:eX w a d)(g:fD k f [0,e,b,wa,p,s,q,bl,v,(d.length:Int)]=true):Calls pG 157 #[.agg #[I T k,I T f,I T e,I T b,I T wa,I T p,I T s,I T q,I T bl,I T v,J a d.length c]] w fun r w'=> ∃x,r=.returned (.tuple #[x,I T 0])/\gC w' w.heap.size x (jM k.toNat f.toNat [0,e,b,wa,p,s,q,bl,v,(d.length:Int)] d)/\Below w.heap.size w w':=by obtain⟨n,m,j,o,h⟩:=pX g;unfold fD at g;rw[Bool.and_eq_true]at g;obtain⟨K,rfl⟩:=Int.eq_ofNat_of_zero_le (show 0<=k by omega);obtain⟨F,rfl⟩:=Int.eq_ofNat_of_zero_le j;exact GT K F e b wa p s q bl v a d c w (by omega) (by omega) (by omega) l h i g.2
def nH(bs:List UInt8):List Int:=((iM bs).nums.set 0 0).set 9 ((iM bs).vals.length:Int)
def pE(bs:List UInt8):List UInt8:=jM (jC bs).toNat (kX bs).toNat (nH bs) (iM bs).vals
def qO(bs:List UInt8):Bool:=fD (jC bs) (kX bs) (nH bs)
def lD(bs:List UInt8):Bool:=qO bs&&(pE bs==bs)
theorem gG.wide{w:World}{b a:Nat}{v:Value}{f:List UInt8}(h:gG w b v f)(n:b<=a):gG w a v f:=by
 obtain⟨l,c,j,i,m,d⟩:=h;refine⟨l,c,j,i,m,?_⟩;rcases d with d|⟨g,off,e,o,k⟩;·exact .inl d
 ·exact .inr ⟨g,off,e,by omega,k⟩
theorem eX.later{w w':World}{a:Option Addr}{b:List Int}(h:eX w a b)(d:Below w.heap.size w w'):eX w' a b:=by
 rcases h with h|⟨g,off,e,c,f⟩;·exact .inl h
 ·exact .inr ⟨g,off,e,Nat.lt_of_lt_of_le c d.size,fun j i=>(d.cell (by exact c)).trans (f j i)⟩
theorem gG.bytes{w:World}{b:Nat}{v:Value}{d:List UInt8}(h:gG w b v d):jb w v d:=by
 obtain⟨i,a,j,f,l,c⟩:=h;refine⟨i,a,j,f,l,?_⟩;rcases c with c|⟨g,off,e,_,k⟩;·exact .inl c
 ·exact .inr ⟨g,off,e,k⟩
theorem CJ(w:World):(∀i,(w.alloc (G #[I T 0,I T 0,I T 0,I T 0,I T 0,I T 0,I T 0,I T 0,I T 0,I T 0,J Z 0 0] 136)).cell? ⟨w.heap.size,i,Z⟩=#[I T 0,I T 0,I T 0,I T 0,I T 0,I T 0,I T 0,I T 0,I T 0,I T 0,J Z 0 0][i]?)/\(∀i,(w.alloc (G #[I T 0,I T 0,I T 0,I T 0,I T 0,I T 0,I T 0,I T 0,I T 0,I T 0,J Z 0 0] 136)).frozen? ⟨w.heap.size,i,Z⟩=false):=⟨fun _=>World.cell?_alloc_at _ _ _ _ rfl,fun _=>World.frozen?_alloc_at _ _ _ _ rfl⟩
theorem E7(c:List UInt8)(v:Value)(w:World)(ht:dU w)(hr:gG w w.heap.size v c)(hK:jC c<11):Calls pG 158 #[v] w fun e w'=>Below w.heap.size w w'/\((lD c=true/\∃j h g q f n d m l,e=.returned (.tuple #[.agg #[I T (jC c),I T (kX c),I T j,I T h,I T g,I T q,I T f,I T n,I T d,I T m,l],I T 0])/\nH c=[0,j,h,g,q,f,n,d,m,((iM c).vals.length:Int)]/\fL w' w.heap.size l (iM c).vals/\pD l (iM c).vals)∨ (lD c=false/\e=.returned (.tuple #[.agg #[I T 0,I T 0,I T 0,I T 0,I T 0,I T 0,I T 0,I T 0,I T 0,I T 0,J Z 0 0],I T 2]))):=by
 have tw:=ht.two;have S:Below w.heap.size w (w.alloc (G #[I T 0,I T 0,I T 0,I T 0,I T 0,I T 0,I T 0,I T 0,I T 0,I T 0,J Z 0 0] 136)):=a_ _ _;have a5:gG (w.alloc (G #[I T 0,I T 0,I T 0,I T 0,I T 0,I T 0,I T 0,I T 0,I T 0,I T 0,J Z 0 0] 136)) (w.alloc (G #[I T 0,I T 0,I T 0,I T 0,I T 0,I T 0,I T 0,I T 0,I T 0,I T 0,J Z 0 0] 136)).heap.size v c:=(hr.keep fun b o R=>S.cell (p:=⟨b,o,Z⟩) R).wide (by simp);obtain⟨zc,zf⟩:=CJ w;have a2:dU (w.alloc (G #[I T 0,I T 0,I T 0,I T 0,I T 0,I T 0,I T 0,I T 0,I T 0,I T 0,J Z 0 0] 136)):=ht.below S (by omega);have ai:(w.alloc (G #[I T 0,I T 0,I T 0,I T 0,I T 0,I T 0,I T 0,I T 0,I T 0,I T 0,J Z 0 0] 136)).heap.size=w.heap.size+1:=by simp
 go_enter func158,ntmps158;go_wp2_with fail;generalize w.alloc (G #[I T 0,I T 0,I T 0,I T 0,I T 0,I T 0,I T 0,I T 0,I T 0,I T 0,J Z 0 0] 136)=W0 at*;refine(FY c v W0 a2 a5 hK).mono ?_;rintro e w1 ⟨j,h,g,q,f,n,d,m,n0,n9,l,rfl,H,r,ac,t⟩;have HG:Hid (nH c=[0,j,h,g,q,f,n,d,m,((iM c).vals.length:Int)]):=by unfold Hid nH;rw[H];rfl
 clear H;obtain⟨la,L,rfl⟩:=r.shape;have a8:=(r.ints).2;have N:∀i,w1.cell? ⟨w.heap.size,i,Z⟩=#[I T 0,I T 0,I T 0,I T 0,I T 0,I T 0,I T 0,I T 0,I T 0,I T 0,J Z 0 0][i]?:=fun i=>(t.cell (by show w.heap.size<_;omega)).trans (zc i);have V:∀i,w1.frozen? ⟨w.heap.size,i,Z⟩=false:=fun i=>(t.frozen (by show w.heap.size<_;omega)).trans (zf i);have ah:=t.size;have HD:Hid (lD c=(qO c&&(pE c==c))):=rfl;have HI:Hid (qO c=fD (jC c) (kX c) [0,j,h,g,q,f,n,d,m,((iM c).vals.length:Int)]):=by unfold Hid qO;rw[HG.out]
 have HC:Hid (pE c=jM (jC c).toNat (kX c).toNat [0,j,h,g,q,f,n,d,m,((iM c).vals.length:Int)] (iM c).vals):=by unfold Hid pE;rw[HG.out]
 have a1:gG w1 W0.heap.size v c:=a5.keep fun b o R=>t.cell (p:=⟨b,o,Z⟩) R;have a4:dU w1:=a2.below t (by omega);have u:Below w.heap.size w w1:=S.trans (t.mono (by omega));clear zc zf S a5 a2 t hr ht;generalize a9:jC c=F at*;generalize aa:kX c=K at*;generalize ad:(iM c).vals=y at*;have ag:Hid _:=a9;have af:Hid _:=aa;have a6:Hid _:=ad;clear a9 aa ad;go_wp2_with fail;have A:Below w1.heap.size w1 (w1.alloc (G #[I T F,I T K,I T j,I T h,I T g,I T q,I T f,I T n,I T d,I T m,J la y.length L] 136)):=a_ _ _;have mc:∀i,(w1.alloc (G #[I T F,I T K,I T j,I T h,I T g,I T q,I T f,I T n,I T d,I T m,J la y.length L] 136)).cell? ⟨w1.heap.size,i,Z⟩=#[I T F,I T K,I T j,I T h,I T g,I T q,I T f,I T n,I T d,I T m,J la y.length L][i]?:=fun i=>World.cell?_alloc_at _ _ _ _ rfl;have aj:(w1.alloc (G #[I T F,I T K,I T j,I T h,I T g,I T q,I T f,I T n,I T d,I T m,J la y.length L] 136)).heap.size=w1.heap.size+1:=by simp
 generalize w1.alloc (G #[I T F,I T K,I T j,I T h,I T g,I T q,I T f,I T n,I T d,I T m,J la y.length L] 136)=w2 at*;have Q:dU w2:=a4.below A (by omega);have a3:eX w2 la y:=a8.later A;cases hG:fD F K [0,j,h,g,q,f,n,d,m,(y.length:Int)] with
 |false=>
  refine(uQ F K j h g q f n d m la y.length L w2 Q hG).mono ?_;rintro e w3 ⟨rfl,B⟩;have a:Below w1.heap.size w1 w3:=A.trans (B.mono (by omega));have s:∀i,w3.cell? ⟨w.heap.size,i,Z⟩=#[I T 0,I T 0,I T 0,I T 0,I T 0,I T 0,I T 0,I T 0,I T 0,I T 0,J Z 0 0][i]?:=fun i=>(a.cell (by show w.heap.size<_;omega)).trans (N i);have O:∀i,w3.frozen? ⟨w.heap.size,i,Z⟩=false:=fun i=>(a.frozen (by show w.heap.size<_;omega)).trans (V i);have z:Hid (lD c=false):=by unfold Hid;rw[HD.out,HI.out,hG];rfl
  have U:Below w.heap.size w w3:=u.trans (a.mono (by omega));clear N V A B mc a8 a3 a1 hG HD HI HC HG r a4 Q u a;go_wp2;obtain⟨W,X,⟨c0,c1,c2,c3,c4,c5,c6,c7,c8,c9,C⟩,_,D⟩:=qD w3 w.heap.size (I T 0) (I T 0) (I T 0) (I T 0) (I T 0) (I T 0) (I T 0) (I T 0) (I T 0) (I T 0) (J Z 0 0) (fun i hi=>by rw[s];simp;omega);rw[X];clear X s O;exact bodyPost_ret (v:=.tuple #[.agg #[I T 0,I T 0,I T 0,I T 0,I T 0,I T 0,I T 0,I T 0,I T 0,I T 0,J Z 0 0],I T 2]) (by simp[results,results158,go_sem,c0,c1,c2,c3,c4,c5,c6,c7,c8,c9,C]) rfl ⟨D _ _ r_ U,.inr ⟨z,rfl⟩⟩
 |true=>
  refine(uO F K j h g q f n d m la y L w2 Q a3 hG).mono ?_;rintro e w3 ⟨x,rfl,hx,B⟩;rw[←HC.out]at hx;have a:Below w1.heap.size w1 w3:=A.trans (B.mono (by omega));have s:∀i,w3.cell? ⟨w.heap.size,i,Z⟩=#[I T 0,I T 0,I T 0,I T 0,I T 0,I T 0,I T 0,I T 0,I T 0,I T 0,J Z 0 0][i]?:=fun i=>(a.cell (by show w.heap.size<_;omega)).trans (N i);have O:∀i,w3.frozen? ⟨w.heap.size,i,Z⟩=false:=fun i=>(a.frozen (by show w.heap.size<_;omega)).trans (V i);have ab:∀i,w3.cell? ⟨w1.heap.size,i,Z⟩=#[I T F,I T K,I T j,I T h,I T g,I T q,I T f,I T n,I T d,I T m,J la y.length L][i]?:=fun i=>(B.cell (by show w1.heap.size<_;omega)).trans (mc i);have ae:gG w3 W0.heap.size v c:=a1.keep fun b o R=>a.cell (p:=⟨b,o,Z⟩) (by show b<_;omega);have z:Hid (lD c=(pE c==c)):=by unfold Hid;rw[HD.out,HI.out,hG];rfl
  have U:Below w.heap.size w w3:=u.trans (a.mono (by omega));have E:fL w3 W0.heap.size (J la y.length L) y:=World.ownsRow.kept r ⟨a.os,a.tape,a.output,a.size,fun k hk _=>a.block k hk⟩ (row:=none) (by cases la<;>simp[Value.ownBlock]);clear N V A B mc a8 a3 a1 hG HD HI HC r a4 Q u a;generalize pE c=ge at*;go_wp2_with fail;refine(GX x v ge c w3 hx.jb ae.bytes).mono ?_;rintro e w4 ⟨rfl,rfl⟩;cases hq:(ge==c) with
  |false=>
   have M:Hid (lD c=false):=by unfold Hid;rw[z.out,hq]
   clear hq z;go_wp2;obtain⟨W,X,⟨c0,c1,c2,c3,c4,c5,c6,c7,c8,c9,C⟩,_,D⟩:=qD w4 w.heap.size (I T 0) (I T 0) (I T 0) (I T 0) (I T 0) (I T 0) (I T 0) (I T 0) (I T 0) (I T 0) (J Z 0 0) (fun i hi=>by rw[s];simp;omega);rw[X];clear X s O ab;exact bodyPost_ret (v:=.tuple #[.agg #[I T 0,I T 0,I T 0,I T 0,I T 0,I T 0,I T 0,I T 0,I T 0,I T 0,J Z 0 0],I T 2]) (by simp[results,results158,go_sem,c0,c1,c2,c3,c4,c5,c6,c7,c8,c9,C]) rfl ⟨D _ _ r_ U,.inr ⟨M,rfl⟩⟩
  |true=>
   have M:Hid (lD c=true):=by unfold Hid;rw[z.out,hq]
   clear hq z;go_wp2;obtain⟨W,X,⟨c0,c1,c2,c3,c4,c5,c6,c7,c8,c9,C⟩,a0,D⟩:=qD w4 w.heap.size (I T F) (I T K) (I T j) (I T h) (I T g) (I T q) (I T f) (I T n) (I T d) (I T m) (J la y.length L) (fun i hi=>by rw[s];simp;omega);have a7:=(E.but a0 (by omega)).low (show w.heap.size<=W0.heap.size by omega);rw[X];clear X s O ab E a0;exact bodyPost_ret (v:=.tuple #[.agg #[I T F,I T K,I T j,I T h,I T g,I T q,I T f,I T n,I T d,I T m,J la y.length L],I T 0]) (by simp[results,results158,go_sem,c0,c1,c2,c3,c4,c5,c6,c7,c8,c9,C]) rfl ⟨D _ _ r_ U,.inl ⟨M,j,h,g,q,f,n,d,m,_,by rw[ag.out,af.out],by rw[a6.out];exact HG,by rw[a6.out];exact a7,by rw[a6.out];exact ac⟩⟩
theorem FZ(s:List UInt8)(v:Value)(w:World)(A:dU w)(E:gG w w.heap.size v s)(K:11<=jC s):Calls pG 158 #[v] w fun e w'=>Below w.heap.size w w'/\e=.returned (.tuple #[.agg #[I T 0,I T 0,I T 0,I T 0,I T 0,I T 0,I T 0,I T 0,I T 0,I T 0,J Z 0 0],I T 2]):=by
 have tw:=A.two;have d:Below w.heap.size w (w.alloc (G #[I T 0,I T 0,I T 0,I T 0,I T 0,I T 0,I T 0,I T 0,I T 0,I T 0,J Z 0 0] 136)):=a_ _ _;have r:gG (w.alloc (G #[I T 0,I T 0,I T 0,I T 0,I T 0,I T 0,I T 0,I T 0,I T 0,I T 0,J Z 0 0] 136)) (w.alloc (G #[I T 0,I T 0,I T 0,I T 0,I T 0,I T 0,I T 0,I T 0,I T 0,I T 0,J Z 0 0] 136)).heap.size v s:=(E.keep fun b o x=>d.cell (p:=⟨b,o,Z⟩) x).wide (by simp);obtain⟨B,C⟩:=CJ w;have j:=A.below d (by omega);have F:(w.alloc (G #[I T 0,I T 0,I T 0,I T 0,I T 0,I T 0,I T 0,I T 0,I T 0,I T 0,J Z 0 0] 136)).heap.size=w.heap.size+1:=by simp
 go_enter func158,ntmps158;go_wp2_with fail;generalize w.alloc (G #[I T 0,I T 0,I T 0,I T 0,I T 0,I T 0,I T 0,I T 0,I T 0,I T 0,J Z 0 0] 136)=M at*;refine(GW s v M r K).mono ?_;rintro e w1 ⟨rfl,c⟩;have n:∀i,w1.cell? ⟨w.heap.size,i,Z⟩=#[I T 0,I T 0,I T 0,I T 0,I T 0,I T 0,I T 0,I T 0,I T 0,I T 0,J Z 0 0][i]?:=fun i=>(c.cell (by show w.heap.size<_;omega)).trans (B i);have q:∀i,w1.frozen? ⟨w.heap.size,i,Z⟩=false:=fun i=>(c.frozen (by show w.heap.size<_;omega)).trans (C i);have S:=c.size;have l:=j.below c (by omega);have f:=d.trans (c.mono (by omega));clear B C d r j c E A;go_wp2_with fail;have g:Below w1.heap.size w1 (w1.alloc (G #[I T 0,I T 0,I T 0,I T 0,I T 0,I T 0,I T 0,I T 0,I T 0,I T 0,J Z 0 0] 136)):=a_ _ _;have h:=l.below g (by omega);have R:(w1.alloc (G #[I T 0,I T 0,I T 0,I T 0,I T 0,I T 0,I T 0,I T 0,I T 0,I T 0,J Z 0 0] 136)).heap.size=w1.heap.size+1:=by simp
 generalize w1.alloc (G #[I T 0,I T 0,I T 0,I T 0,I T 0,I T 0,I T 0,I T 0,I T 0,I T 0,J Z 0 0] 136)=w2 at*;refine(uQ 0 0 0 0 0 0 0 0 0 0 none 0 0 w2 h (by decide)).mono ?_;rintro e w3 ⟨rfl,k⟩;have a:=g.trans (k.mono (by omega));have m:∀i,w3.cell? ⟨w.heap.size,i,Z⟩=#[I T 0,I T 0,I T 0,I T 0,I T 0,I T 0,I T 0,I T 0,I T 0,I T 0,J Z 0 0][i]?:=fun i=>(a.cell (by show w.heap.size<_;omega)).trans (n i);have y:∀i,w3.frozen? ⟨w.heap.size,i,Z⟩=false:=fun i=>(a.frozen (by show w.heap.size<_;omega)).trans (q i);have z:=f.trans (a.mono (by omega));clear n q g k l h f a;go_wp2;obtain⟨W,D,⟨H,c1,Q,c3,U,L,V,N,X,O,t⟩,_,u⟩:=qD w3 w.heap.size (I T 0) (I T 0) (I T 0) (I T 0) (I T 0) (I T 0) (I T 0) (I T 0) (I T 0) (I T 0) (J Z 0 0) (fun i hi=>by rw[m];simp;omega);rw[D];clear D m y;exact bodyPost_ret (v:=.tuple #[.agg #[I T 0,I T 0,I T 0,I T 0,I T 0,I T 0,I T 0,I T 0,I T 0,I T 0,J Z 0 0],I T 2]) (by simp[results,results158,go_sem,H,c1,Q,c3,U,L,V,N,X,O,t]) rfl ⟨u _ _ r_ z,rfl⟩
theorem F0(a:List UInt8)(v:Value)(w:World)(k:dU w)(i:gG w w.heap.size v a):Calls pG 158 #[v] w fun e w'=>Below w.heap.size w w'/\((lD a=true/\∃j h f g d c b m l,e=.returned (.tuple #[.agg #[I T (jC a),I T (kX a),I T j,I T h,I T f,I T g,I T d,I T c,I T b,I T m,l],I T 0])/\nH a=[0,j,h,f,g,d,c,b,m,((iM a).vals.length:Int)]/\fL w' w.heap.size l (iM a).vals/\pD l (iM a).vals)∨ (lD a=false/\e=.returned (.tuple #[.agg #[I T 0,I T 0,I T 0,I T 0,I T 0,I T 0,I T 0,I T 0,I T 0,I T 0,J Z 0 0],I T 2]))):=by
 by_cases n:jC a<11;·exact E7 a v w k i n
 ·refine(FZ a v w k i (by omega)).mono ?_;rintro e w' ⟨p,o⟩;refine⟨p,.inr ⟨?_,o⟩⟩;have:nK (jC a) (kX a)=true:=by simp[nK];omega
  simp[lD,qO,fD,this]
end
end Go.Proofs.YtdcainmlcpafbaaGreatDoor
