import Derived.Test.YtdcainmlcpafbaaGreatDoorJ36
set_option linter.all false
set_option maxHeartbeats 8000000
set_option maxRecDepth 20000
namespace Go.Proofs.YtdcainmlcpafbaaGreatDoor
open Go.RowKit
namespace AG
def Inv.oq{n nb:Int}{x:Int->Nd}(c:2<=n/\n<=5)(b:∀j,0<=j->j<n->x j=Nd.first j n nb):Inv n nb x (λ_=>False) Gh.none (Gv.none n):=by
 have h:=Inv.first (nb:=nb) c;have v:=h.vx;refine⟨c,?_,λ{j} h0 h1=>?_,rfl,λh=>h.elim,λh=>h.elim,λh=>h.elim,λh=>h.elim⟩
 ·refine{a1:=λh=>h.elim,a2:=λh=>h.elim,a3:=λh=>h.elim,a4:=λh=>h.elim,a5:=λh=>h.elim,a6:=λh=>h.elim,n1:=λh=>h.elim,n2:=λ{j e} h0 h1=>?_,lw:=λ{j e} h0 h1=>?_,n3:=λh=>h.elim,n4:=λh=>h.elim,n5:=λ{j} h0 h1=>?_,n6:=λ_ _ _ _ h=>h,n7:=λ{j} h0 h1=>?_,n8:=λ{j} h0 h1=>?_,r1:=λh=>h.elim,r2:=λh=>h.elim};·have a:=v.n2 (e:=e) h0 h1;simp only[b j h0 h1];exact a
  ·have a:=v.lw (e:=e) h0 h1;simp only[b j h0 h1];exact a
  ·have a:=v.n5 h0 h1;simp only[b j h0 h1];exact a
  ·have a:=v.n7 h0 h1;simp only[b j h0 h1];exact a
  ·have a:=v.n8 h0 h1;simp only[b j h0 h1];exact a
 ·rw[b j h0 h1];exact h.own h0 h1
def CI.oq{n nb:Int}{x:Int->Nd}(d:2<=n/\n<=5)(a:∀j,0<=j->j<n->x j=Nd.first j n nb)(k:Int):CI n nb x (λ_=>False) Gh.none (Gv.none n) (λ_=>0) [] [] [⟨0,0,2 ^ n.toNat - 1⟩] k []:=by
 have c:=CI.first (nb:=nb) d;refine⟨Inv.oq d a,sG,λ{j} h0 h1=>by rw[a j h0 h1];exact c.oh h0 h1,sG,λ{j} h0 h1 h=>?_,sG,λh=>h.elim,λ{j} h0 h1=>by rw[a j h0 h1];simp[Nd.first],.inl rfl,sG,λi b=>?_,λ{j} h0 h1=>.inl (by rw[a j h0 h1];simp[Nd.first,Du.first,Du.ep])⟩;·rw[a j h0 h1]at h;simp[Nd.first]at h
 ·have:i=0:=by simp at b;omega
  subst this;exact⟨rfl,0,oG,oG,by rw[a 0 oG oG];simp[Nd.first,Du.first,Du.ep]⟩
end AG
def FJ{n:Nat}{nb:Int}(l:2<=n/\n<=5):Ok (CS.fst n nb n) n 1:=by
 have a:∀j,j<n->(CS.fst n nb n).nd j=AG.Nd.first (j:Int) (n:Int) nb:=by intro j c;unfold CS.nd;show((List.range n).map (λi:Nat=>AG.Nd.first (i:Int) (n:Int) nb)).getD j _=_;rw[List.getD_eq_getElem?_getD,List.getElem?_map,List.getElem?_range c];rfl
 have d:(CS.fst n nb n).lf=λ_=>0:=by
  funext j;unfold CS.lf;split;·show(List.replicate n (0:Int)).getD j.toNat 0=0;rw[List.getD_eq_getElem?_getD,List.getElem?_replicate];split<;>rfl
  ·rfl
 have b:∀j,0<=j->j<(n:Int)->(CS.fst n nb n).xf j=AG.Nd.first j n (CS.fst n nb n).nb:=λj f m=>by have g:=a j.toNat oG;unfold CS.xf;rw[if_pos f,g,show((j.toNat:Nat):Int)=j by omega];rfl
 refine⟨⟨(λ_=>False),AG.Gh.none,AG.Gv.none (n:Int),λk=>⟨?_,?_,λj c=>?_,by simp[CS.fst],by simp[CS.fst],(AG.BI.first b _).up oG⟩⟩,by intro z h;simp[CS.fst]at h,?_⟩;·rw[d];exact AG.CI.oq oG b _
 ·simp[CS.fst]
 ·rw[a j c];show(List.replicate n (1:Int)).getD j 0<=_;rw[List.getD_eq_getElem?_getD,List.getElem?_replicate,if_pos c];simp[AG.Nd.first,AG.Du.first]
 ·intro i hi;have e:(CS.fst n nb n).3[i]=0:=by simp[CS.fst]
  rw[e];omega
def zM:Nat->CS->Bool
 |0,_=>true
 |m+1,s=>decide (s.4.length=0)||(decide (s.4.length<=1000)&&zM m s.pass)
def u4:∀(m:Nat) (s:CS),zM m s=true->jD m s
 |0,_,_=>trivial
 |m+1,s,h=>by have h:(decide (s.4.length=0)||(decide (s.4.length<=1000)&&zM m s.pass))=true:=h;simp only[Bool.or_eq_true,Bool.and_eq_true,decide_eq_true_eq]at h;exact h.imp id (λh=>⟨h.1,u4 m _ h.2⟩)
def A0:CS:=CS.fst 2 1 2
def A1:CS:=A0.ja 1 2 0 0
def A2:CS:=CS.gu 9 A1
def A3:CS:=A2.ja 1 2 0 2
def A4:CS:=A3.ja 1 2 0 3
def A5:CS:=A4.ja 1 2 0 1
def A6:CS:=CS.gu 9 A5
def A7:CS:=A6.ja 1 2 0 2
def A8:CS:=CS.gu 9 A7
def TO:jD 9 A1:=u4 _ _ (by decide +kernel)
def TP:jD 9 A5:=u4 _ _ (by decide +kernel)
def TQ:jD 9 A7:=u4 _ _ (by decide +kernel)
def oW:(A4.rs.map (λr=>r.v)=[1,1]/\A4.hi.length=2)/\A7.rs.length=2/\A8.rs.length=3/\A8.hi.length=3/\A8.lr.E=2/\A8.lr.P=2/\A8.lr.S=3:=by decide +kernel
section
open Value renaming slice->J,pointer->P0
open Tryz
open Tryz renaming prog->pG
open IntKind renaming i64->T
open Option renaming none->Z,some->Y
open Obj renaming cells->G
open Value (bool)
def QP:(Tryz.prog.info? 72).map (λi=>(i.zero,i.size,i.bytes))=Y (Y (P0 Z),1,8):=kG
def QQ:(Tryz.prog.info? 33).map (λi=>(i.zero,i.size,i.bytes))=Y (Y (P0 Z),1,8):=kG
def QR:(Tryz.prog.info? 34).map (λi=>(i.zero,i.size,i.bytes))=Y (Y (P0 Z),1,8):=kG
def K8{w:World}{a low i n:Nat}{nb:Int}(l:DS 98 107 low w a (J Z 0 0) [] (-1))(h:fW w (a+1) (a+2) a)(hs:w.1.size=a+3)(k:2<=n/\n<=5)(hi:i<n)(b:1<=nb/\nb<=4):sK w (AG.Nd.first (i:Int) (n:Int) nb) 0 low (a+1) (a+2) a a (J Z 0 0) [] [] [] (fL (i:Int) (n:Int) 0 true):=by
 have s:n=2∨n=3∨n=4∨n=5:=oG;have hS:(0:Int)<=2^(n:Int).toNat - 1/\(2:Int)^(n:Int).toNat - 1<=31:=by rcases s with rfl|rfl|rfl|rfl<;>decide
 refine⟨⟨h,l,oG,oG,dG,sG,sG⟩,?_,by intro f d;simp at d,rfl,rfl,.inl rfl,by intro m o;simp at o,sG,rfl,?_,?_,?_,?_,?_,b⟩
 ·rintro g (rfl|rfl|rfl|p);·omega
  ·omega
  ·omega
  ·simp[Value.ownBlock]at p
 ·refine⟨by simp[fL,Kq],by intro y hy;simp[fL]at hy,⟨[],rfl⟩,?_,by simp[fL],by simp[fL],by simp[fL,i_],by simp[fL,i_],by simp[fL,i_],by simp[fL,i_]⟩;intro j q;have e:j=0:=by simp[fL,i_]at q;omega
  subst e;exact⟨rfl,⟨Int.le_refl _,by show(0:Int)<=5;decide⟩,hS⟩
 ·refine⟨by simp[fL],by simp[fL],by simp[fL],by simp[fL],by simp[fL],?_,by simp[fL];omega⟩;intro r c;simp[fL]at c;subst c;exact⟨Int.le_refl _,by show(0:Int)<=_;decide⟩
 ·rw[FH i n nb k];exact .inl ⟨[],rfl,λ_=>rfl⟩
 ·show 2<=(n:Int)/\(n:Int)<=5;omega
 ·show 0<=(i:Int)/\(i:Int)<(n:Int);omega
def EM(a b:Int)(n:Nat)(nb:Int)(w:World)(hT:dY w)(ha:i_ a)(hb:i_ b)(hn:eV a%4=(n:Int)-2)(c9:eV b%4=nb-1):Calls pG 47 #[.agg #[I a,I b]] w λq w'=>∃Wc hs,q=.returned (P0 (Y ⟨Wc,0,Z⟩))/\CA w' Wc w.1.size 1 true hs (CS.fst n nb n)/\Qt hs/\hs.length=n/\Below w.1.size w w':=by
 have cb:2<=n/\n<=5:=by have h1:=Int.emod_nonneg (eV a) (show(4:Int)≠0 by decide);have h2:=Int.emod_lt_of_pos (eV a) (show(0:Int)<4 by decide);omega
 have aR:1<=nb/\nb<=4:=by have h1:=Int.emod_nonneg (eV b) (show(4:Int)≠0 by decide);have h2:=Int.emod_lt_of_pos (eV b) (show(0:Int)<4 by decide);omega
 have HA:=dF ha;have HB:=dF hb;have HN:=dF hn;have cQ:=dF c9;have HT:=dF hT;clear ha hb hn c9;have bU:=(Below.refl w.1.size w).alloc r_ (G #[I a,I b] 47);have av:=dF (dI.new w #[I a,I b] 47);have cc:=dF bU;clear bU;go_enter func47,ntmps47;go_upto_region 1 with fail;generalize hX:w.1.size=X at*;generalize World.alloc _ _=W1 at*;have x0:=av.cell 0;have x1:=av.cell 1;simp at x0 x1;go_wp2_with fail;refine(nO a 4 _ dG HA.1 HA.2).mono ?_;rintro q w9 ⟨rfl,be⟩;obtain rfl:=be.symm;rw[HN.out];have cY:IntKind.i64.wrap (2+((n:Int)-2))=(n:Int):=by rw[show(2:Int)+((n:Int)-2)=(n:Int) by omega];exact IntWalk.i64_in _ oG
 have d2:IntKind.i64.wrap (1+(nb-1))=nb:=by rw[show(1:Int)+(nb-1)=nb by omega];exact IntWalk.i64_in _ oG
 go_wp2_with fail;refine(nO b 4 _ dG HB.1 HB.2).mono ?_;rintro q w9 ⟨rfl,be⟩;obtain rfl:=be.symm;rw[cQ.out];go_upto_region 4 with fail;have cD:X<W1.1.size:=av.lt;have cq:=(Below.refl W1.1.size W1).alloc r_ (G (jS (λ_=>J Z 0 0) nb true) 63);have bB:=dI.new W1 (jS (λ_=>J Z 0 0) nb true) 63;have bs:Hid (Below X w (W1.alloc (G (jS (λ_=>J Z 0 0) nb true) 63))):=cc.trans (cq.mono (Nat.le_of_lt cD));have bz:dY (W1.alloc (G (jS (λ_=>J Z 0 0) nb true) 63)):=HT.below bs (by rw[←hX];exact HT.two);have bd:Hid (Bg (W1.alloc (G (jS (λ_=>J Z 0 0) nb true) 63)) W1.1.size X (λ_=>J Z 0 0) nb [] [] (λ_=>0) (λ_=>[])):=by refine⟨⟨bB,λk hk=>World.ownsRow_nil _ _ _ _,λg x=>by simp[Value.ownBlock]at x⟩,rfl,λi hi=>absurd hi (Nat.not_lt_zero i),λi j hi=>absurd hi (Nat.not_lt_zero i),λk hk g x=>by simp[Value.ownBlock]at x,λi hi=>absurd hi (Nat.not_lt_zero i),⟨Nat.le_of_lt cD,by rw[←hX];exact HT.two,λi hi=>absurd hi (Nat.not_lt_zero i)⟩,bz,λh hh=>by simp at hh⟩
 obtain⟨Wc,bE⟩:∃y,W1.1.size=y:=⟨_,rfl⟩;rw[bE]at bd;simp only[bE];have aN:Hid (∃v hs,Bg (W1.alloc (G (jS (λ_=>J Z 0 0) nb true) 63)) Wc X v nb hs (CS.fst n nb 0).ns (rN hs {CS.fst n nb 0 with hi:=[]}) (rX hs {CS.fst n nb 0 with hi:=[]})/\hs.length=0):=by refine⟨_,[],bd.qd ?_,rfl⟩;intro k hk;simp only[eW,List.mem_cons,List.mem_nil_iff,or_false]at hk;rcases hk with rfl|rfl|rfl|rfl|rfl|rfl|rfl|rfl|rfl|rfl<;>exact⟨rfl,rfl⟩
 have e9:(W1.alloc (Obj.cells #[J Z 0 0,J Z 0 0,J Z 0 0,J Z 0 0,I nb,J Z 0 0,J Z 0 0,J Z 0 0,J Z 0 0,J Z 0 0,J Z 0 0,bool true] 63))=(W1.alloc (G (jS (λ_=>J Z 0 0) nb true) 63)):=rfl;rw[e9];clear bd bB cq bz e9 av cc x0 x1;generalize World.alloc _ _=W2 at*;go_loopw [5] (λs5 wr=>∃m:Nat,m<=n/\s5=I (m:Int)/\∃v hs,Bg wr Wc X v nb hs (CS.fst n nb m).ns (rN hs {CS.fst n nb m with hi:=[]}) (rX hs {CS.fst n nb m with hi:=[]})/\hs.length=m/\Below X w wr) (λs5 wr=>n - (intOf s5).toNat);case atStart=>obtain⟨v,hs,h1,h2⟩:=aN.out;exact⟨0,oG,rfl,v,hs,h1,h2,bs⟩
 case round=>
 clear aN bs;obtain⟨m,d0,rfl,v,hs,ax,al,au⟩:=hrel;by_cases cN:m<n
 ·have cW:decide ((m:Int)<(n:Int))=true:=nG;have HG:=dF ax;have HW:=dF au;have A:=dF al;clear ax au al;go_wp2_with fail;refine(CE X wr).mono ?_;rintro q w3 ⟨rfl,hD,hH,a3,bu⟩;have bx:Hid (Calls pG 66 #[I (m:Int),I (n:Int),I nb,P0 (Y ⟨wr.1.size+1,0,Z⟩)] w3 λr w'=>∃Kn Nd Mp C',r=.returned (.tuple #[P0 (Y ⟨Kn,0,Z⟩),I 0])/\fN w' Kn ⟨X,Nd,Mp,wr.1.size+1,wr.1.size+2,wr.1.size⟩ 1 C' (-1) (AG.Nd.first (m:Int) (n:Int) nb)/\(∀g,C' g∨g=Kn->wr.1.size<=g)/\Below w3.1.size w3 w'):=by have x:=sK.new (K8 hD hH bu cb cN aR) dG (HG.later a3).tabs (Nat.le_trans HG.jf a3.size) HG.tabs.two;rw[FH m n nb cb]at x;exact x
  have cv:=dF (HG.later a3);have bg:=dF a3;have c4:=cv.cr.blk.cell 4;simp at c4;have cV:=bu;clear hD hH a3;go_wp2_with fail;refine bx.mono ?_;rintro q w4 ⟨Kn,Nd,Mp,C',rfl,bG,bH,cE⟩;have bp:Below wr.1.size wr w4:=bg.trans (cE.mono bg.size);have a2:=dF (HG.more bp (h':=⟨Kn,⟨X,Nd,Mp,wr.1.size+1,wr.1.size+2,wr.1.size⟩,C',-1⟩) bG (λg hg=>bH g hg) rfl);have co:Hid (Below X w w4):=HW.trans (bp.mono HG.jf);clear bx bG bH cE bp cv c4 bg HG HW;generalize wr.1.size=z at*;have N:rN hs {CS.fst n nb m with hi:=[]} 0=m/\rN hs {CS.fst n nb m with hi:=[]} 1=m/\rN hs {CS.fst n nb m with hi:=[]} 2=m/\rN hs {CS.fst n nb m with hi:=[]} 3=m/\rN hs {CS.fst n nb m with hi:=[]} 10=m:=by refine⟨A,A,A,?_,?_⟩<;>simp[rN,CS.fst]
  obtain⟨F,ah⟩:∃y,rN hs {CS.fst n nb m with hi:=[]}=y:=⟨_,rfl⟩;obtain⟨X0,bl⟩:∃y,rX hs {CS.fst n nb m with hi:=[]}=y:=⟨_,rfl⟩;rw[ah,bl]at a2;rw[ah]at N;have cI:=dF ah;have cS:=dF bl;have HL:=dF N;clear ah bl N;have aZ:Hid (F 0=m/\F 1=m/\F 2=m/\F 3=m/\F 10=m):=HL.out;clear HL;obtain⟨cP,cR,bC,cH,cz⟩:=info_parts QP;have aC:=dF (a2.later ((Below.refl w4.1.size w4).alloc r_ (G #[P0 (Y ⟨Kn,0,Z⟩)] 72)));have aH:Hid (Below X w (w4.alloc (G #[P0 (Y ⟨Kn,0,Z⟩)] 72))):=co.trans (((Below.refl w4.1.size w4).alloc r_ _).mono a2.jf);have aa:Hid (F 0=m):=aZ.1;have c0:=a2.cr.cell (k:=0) dG;obtain⟨bA,D⟩:∃y,v 0=y:=⟨_,rfl⟩;rw[D]at c0;have O:=aC.cr.row 0 dG;rw[D]at O;have aU:Hid ((w4.alloc (G #[P0 (Y ⟨Kn,0,Z⟩)] 72)).ownsRow X 72 1 bA (F 0) (X0 0)):=O;have a8:=dF D;have bZ:(w4.alloc (G #[P0 (Y ⟨Kn,0,Z⟩)] 72)).cell? ⟨w4.1.size,0,Z⟩=Y (P0 (Y ⟨Kn,0,Z⟩)):=sG;clear O D;go_wp2_with(at_builtin;go_loud (refine sM rfl _ _ 56 rfl X 72 cP (P0 Z) 1 8 underlying56 cR bC cH cz rfl dG bA (F 0) (X0 0) eG aU ⟨w4.1.size,0,Z⟩ 1 1 [P0 (Y ⟨Kn,0,Z⟩)] dG eG rfl ?c2 ?c3 ?c4 ?c5 ?c6 ?_));case c2=>
   intro j u c;rw[Go.WideShapes.add_plain];have hj:j=0:=by have:=(List.getElem?_eq_some_iff.1 c).1;simpa using this
   subst hj;simp at c;subst c;simpa using bZ
  case c3=>intro u c;simp at c;subst c;rfl
  case c4=>rw[aa.out];unfold maxLen;omega
  case c5=>rw[aa.out];omega
  case c6=>exact aC.jf
  intro d5 cs aW b1 aX;obtain⟨ac,az,p⟩:=eK aW;subst p;rw[←a8.out]at b1 aX;obtain⟨B,p2,d,t⟩:=aC.push (k:=0) (m:=1) (news:=[P0 (Y ⟨Kn,0,Z⟩)]) (v3:=(J ac (F 0+1) az)) dG aW b1 aX;rw[a8.out]at B;have aT:Hid (Below X w (cs.setCell ⟨Wc,0,Z⟩ (J ac (F 0+1) az))):=aH.trans t;obtain⟨L,aF⟩:∃y,kB F 0 (F 0+1)=y:=⟨_,rfl⟩;obtain⟨X1,aY⟩:∃y,kB X0 0 (X0 0++[P0 (Y ⟨Kn,0,Z⟩)])=y:=⟨_,rfl⟩;obtain⟨v1,bM⟩:∃y,gM v 0 (J ac (F 0+1) az)=y:=⟨_,rfl⟩;rw[aF,aY,bM]at d;have b9:Hid (L 1=m/\L 2=m/\L 3=m/\L 10=m):=by have x:=aZ.out;unfold Hid;rw[←aF];simp only[kB];exact x.2
  have aw:=dF d;have bK:=dF aF;have cm:=dF aY;clear aW b1 aX d t aU aC aH aa c0 bZ a8 aF aY bM aZ co a2;go_upto_region 11 with fail;generalize cs.setCell ⟨Wc,0,Z⟩ (J ac (F 0+1) az)=f at*;clear B p2;obtain⟨cO,cM,ct,bv,bL⟩:=info_parts QQ;have ae:=dF (aw.later ((Below.refl f.1.size f).alloc r_ (G #[P0 (Y ⟨z+1,0,Z⟩)] 33)));have aQ:Hid (Below X w (f.alloc (G #[P0 (Y ⟨z+1,0,Z⟩)] 33))):=aT.trans (((Below.refl f.1.size f).alloc r_ _).mono aw.jf);have V:Hid (L 1=m):=b9.1;have c1:=aw.cr.cell (k:=1) dG;obtain⟨cB,K⟩:∃y,v1 1=y:=⟨_,rfl⟩;rw[K]at c1;have a6:=ae.cr.row 1 dG;rw[K]at a6;have aO:Hid ((f.alloc (G #[P0 (Y ⟨z+1,0,Z⟩)] 33)).ownsRow X 33 1 cB (L 1) (X1 1)):=a6;have ab:=dF K;have cl:(f.alloc (G #[P0 (Y ⟨z+1,0,Z⟩)] 33)).cell? ⟨f.1.size,0,Z⟩=Y (P0 (Y ⟨z+1,0,Z⟩)):=sG;clear a6 K;go_wp2_with(at_builtin;go_loud (refine sM rfl _ _ 57 rfl X 33 cO (P0 Z) 1 8 underlying57 cM ct bv bL rfl dG cB (L 1) (X1 1) eG aO ⟨f.1.size,0,Z⟩ 1 1 [P0 (Y ⟨z+1,0,Z⟩)] dG eG rfl ?c2 ?c3 ?c4 ?c5 ?c6 ?_));case c2=>
   intro j u c;rw[Go.WideShapes.add_plain];have hj:j=0:=by have:=(List.getElem?_eq_some_iff.1 c).1;simpa using this
   subst hj;simp at c;subst c;simpa using cl
  case c3=>intro u c;simp at c;subst c;rfl
  case c4=>rw[V.out];unfold maxLen;omega
  case c5=>rw[V.out];omega
  case c6=>exact ae.jf
  intro d3 cu bj b6 b3;obtain⟨ar,ag,p⟩:=eK bj;subst p;rw[←ab.out]at b6 b3;obtain⟨B,p2,d,t⟩:=ae.push (k:=1) (m:=1) (news:=[P0 (Y ⟨z+1,0,Z⟩)]) (v3:=(J ar (L 1+1) ag)) dG bj b6 b3;rw[ab.out]at B;have aJ:Hid (Below X w (cu.setCell ⟨Wc,1,Z⟩ (J ar (L 1+1) ag))):=aQ.trans t;obtain⟨M,ak⟩:∃y,kB L 1 (L 1+1)=y:=⟨_,rfl⟩;obtain⟨X2,b4⟩:∃y,kB X1 1 (X1 1++[P0 (Y ⟨z+1,0,Z⟩)])=y:=⟨_,rfl⟩;obtain⟨v2,ce⟩:∃y,gM v1 1 (J ar (L 1+1) ag)=y:=⟨_,rfl⟩;rw[ak,b4,ce]at d;have bf:Hid (M 2=m/\M 3=m/\M 10=m):=by have x:=b9.out;unfold Hid;rw[←ak];simp only[kB];exact x.2
  have ai:=dF d;have cn:=dF ak;have cA:=dF b4;clear bj b6 b3 d t aO ae aQ V c1 cl ab ak b4 ce b9 aT aw;go_upto_region 12 with fail;generalize cu.setCell ⟨Wc,1,Z⟩ (J ar (L 1+1) ag)=l at*;clear B p2;obtain⟨cJ,cK,cw,bV,cf⟩:=info_parts QR;have an:=dF (ai.later ((Below.refl l.1.size l).alloc r_ (G #[P0 (Y ⟨z+2,0,Z⟩)] 34)));have aG:Hid (Below X w (l.alloc (G #[P0 (Y ⟨z+2,0,Z⟩)] 34))):=aJ.trans (((Below.refl l.1.size l).alloc r_ _).mono ai.jf);have a0:Hid (M 2=m):=bf.1;have c2:=ai.cr.cell (k:=2) dG;obtain⟨ca,C⟩:∃y,v2 2=y:=⟨_,rfl⟩;rw[C]at c2;have a1:=an.cr.row 2 dG;rw[C]at a1;have aM:Hid ((l.alloc (G #[P0 (Y ⟨z+2,0,Z⟩)] 34)).ownsRow X 34 1 ca (M 2) (X2 2)):=a1;have S:=dF C;have bT:(l.alloc (G #[P0 (Y ⟨z+2,0,Z⟩)] 34)).cell? ⟨l.1.size,0,Z⟩=Y (P0 (Y ⟨z+2,0,Z⟩)):=sG;clear a1 C;go_wp2_with(at_builtin;go_loud (refine sM rfl _ _ 58 rfl X 34 cJ (P0 Z) 1 8 underlying58 cK cw bV cf rfl dG ca (M 2) (X2 2) eG aM ⟨l.1.size,0,Z⟩ 1 1 [P0 (Y ⟨z+2,0,Z⟩)] dG eG rfl ?c2 ?c3 ?c4 ?c5 ?c6 ?_));case c2=>
   intro j u c;rw[Go.WideShapes.add_plain];have hj:j=0:=by have:=(List.getElem?_eq_some_iff.1 c).1;simpa using this
   subst hj;simp at c;subst c;simpa using bT
  case c3=>intro u c;simp at c;subst c;rfl
  case c4=>rw[a0.out];unfold maxLen;omega
  case c5=>rw[a0.out];omega
  case c6=>exact an.jf
  intro d4 c7 bb bq bh;obtain⟨aD,aA,p⟩:=eK bb;subst p;rw[←S.out]at bq bh;obtain⟨B,p2,d,t⟩:=an.push (k:=2) (m:=1) (news:=[P0 (Y ⟨z+2,0,Z⟩)]) (v3:=(J aD (M 2+1) aA)) dG bb bq bh;rw[S.out]at B;have aI:Hid (Below X w (c7.setCell ⟨Wc,2,Z⟩ (J aD (M 2+1) aA))):=aG.trans t;obtain⟨U,af⟩:∃y,kB M 2 (M 2+1)=y:=⟨_,rfl⟩;obtain⟨X3,bt⟩:∃y,kB X2 2 (X2 2++[P0 (Y ⟨z+2,0,Z⟩)])=y:=⟨_,rfl⟩;obtain⟨v3,cg⟩:∃y,gM v2 2 (J aD (M 2+1) aA)=y:=⟨_,rfl⟩;rw[af,bt,cg]at d;have bk:Hid (U 3=m/\U 10=m):=by have x:=bf.out;unfold Hid;rw[←af];simp only[kB];exact x.2
  have aE:=dF d;have cG:=dF af;have bX:=dF bt;clear bb bq bh d t aM an aG a0 c2 bT S af bt cg bf aJ ai;go_upto_region 13 with fail;generalize c7.setCell ⟨Wc,2,Z⟩ (J aD (M 2+1) aA)=o at*;clear B p2;obtain⟨cL,cT,bQ,cd,bw⟩:=info_parts zC;have ao:=dF (aE.later ((Below.refl o.1.size o).alloc r_ (G #[I 0] 3)));have aP:Hid (Below X w (o.alloc (G #[I 0] 3))):=aI.trans (((Below.refl o.1.size o).alloc r_ _).mono aE.jf);have a7:Hid (U 3=m):=bk.1;have c3:=aE.cr.cell (k:=3) dG;obtain⟨ci,E⟩:∃y,v3 3=y:=⟨_,rfl⟩;rw[E]at c3;have a5:=ao.cr.row 3 dG;rw[E]at a5;have aV:Hid ((o.alloc (G #[I 0] 3)).ownsRow X 3 1 ci (U 3) (X3 3)):=a5;have a9:=dF E;have ch:(o.alloc (G #[I 0] 3)).cell? ⟨o.1.size,0,Z⟩=Y (I 0):=sG;clear a5 E;go_wp2_with(at_builtin;go_loud (refine sM rfl _ _ 59 rfl X 3 cL (I 0) 1 8 underlying59 cT bQ cd bw rfl dG ci (U 3) (X3 3) eG aV ⟨o.1.size,0,Z⟩ 1 1 [I 0] dG eG rfl ?c2 ?c3 ?c4 ?c5 ?c6 ?_));case c2=>
   intro j u c;rw[Go.WideShapes.add_plain];have hj:j=0:=by have:=(List.getElem?_eq_some_iff.1 c).1;simpa using this
   subst hj;simp at c;subst c;simpa using ch
  case c3=>intro u c;simp at c;subst c;rfl
  case c4=>rw[a7.out];unfold maxLen;omega
  case c5=>rw[a7.out];omega
  case c6=>exact ao.jf
  intro cX c8 bm b5 b8;obtain⟨aq,aB,p⟩:=eK bm;subst p;rw[←a9.out]at b5 b8;obtain⟨B,p2,d,t⟩:=ao.push (k:=3) (m:=1) (news:=[I 0]) (v3:=(J aq (U 3+1) aB)) dG bm b5 b8;rw[a9.out]at B;have aK:Hid (Below X w (c8.setCell ⟨Wc,3,Z⟩ (J aq (U 3+1) aB))):=aP.trans t;obtain⟨N4,aj⟩:∃y,kB U 3 (U 3+1)=y:=⟨_,rfl⟩;obtain⟨X4,b7⟩:∃y,kB X3 3 (X3 3++[I 0])=y:=⟨_,rfl⟩;obtain⟨v4,bO⟩:∃y,gM v3 3 (J aq (U 3+1) aB)=y:=⟨_,rfl⟩;rw[aj,b7,bO]at d;have bI:Hid (N4 10=m):=by have x:=bk.out;unfold Hid;rw[←aj];simp only[kB];exact x.2
  have ap:=dF d;have bJ:=dF aj;have cx:=dF b7;clear bm b5 b8 d t aV ao aP a7 c3 ch a9 aj b7 bO bk aI aE;go_upto_region 14 with fail;generalize c8.setCell ⟨Wc,3,Z⟩ (J aq (U 3+1) aB)=e at*;clear B p2;obtain⟨bD,cp,br,ba,b2⟩:=info_parts zC;have ad:=dF (ap.later ((Below.refl e.1.size e).alloc r_ (G #[I 1] 3)));have aS:Hid (Below X w (e.alloc (G #[I 1] 3))):=aK.trans (((Below.refl e.1.size e).alloc r_ _).mono ap.jf);have Q:Hid (N4 10=m):=bI.out;have bF:=ap.cr.cell (k:=10) dG;obtain⟨bN,H⟩:∃y,v4 10=y:=⟨_,rfl⟩;rw[H]at bF;have a4:=ad.cr.row 10 dG;rw[H]at a4;have aL:Hid ((e.alloc (G #[I 1] 3)).ownsRow X 3 1 bN (N4 10) (X4 10)):=a4;have R:=dF H;have cF:(e.alloc (G #[I 1] 3)).cell? ⟨e.1.size,0,Z⟩=Y (I 1):=sG;clear a4 H;go_wp2_with(at_builtin;go_loud (refine sM rfl _ _ 59 rfl X 3 bD (I 0) 1 8 underlying59 cp br ba b2 rfl dG bN (N4 10) (X4 10) eG aL ⟨e.1.size,0,Z⟩ 1 1 [I 1] dG eG rfl ?c2 ?c3 ?c4 ?c5 ?c6 ?_));case c2=>
   intro j u c;rw[Go.WideShapes.add_plain];have hj:j=0:=by have:=(List.getElem?_eq_some_iff.1 c).1;simpa using this
   subst hj;simp at c;subst c;simpa using cF
  case c3=>intro u c;simp at c;subst c;rfl
  case c4=>rw[Q.out];unfold maxLen;omega
  case c5=>rw[Q.out];omega
  case c6=>exact ad.jf
  intro cZ bP bo bn bi;obtain⟨ay,am,p⟩:=eK bo;subst p;rw[←R.out]at bn bi;obtain⟨B,p2,d,t⟩:=ad.push (k:=10) (m:=1) (news:=[I 1]) (v3:=(J ay (N4 10+1) am)) dG bo bn bi;rw[R.out]at B;have cj:Hid (Below X w (bP.setCell ⟨Wc,10,Z⟩ (J ay (N4 10+1) am))):=aS.trans t;obtain⟨N5,b0⟩:∃y,kB N4 10 (N4 10+1)=y:=⟨_,rfl⟩;obtain⟨X5,bc⟩:∃y,kB X4 10 (X4 10++[I 1])=y:=⟨_,rfl⟩;obtain⟨v5,bW⟩:∃y,gM v4 10 (J ay (N4 10+1) am)=y:=⟨_,rfl⟩;rw[b0,bc,bW]at d;have cU:=dF d;have cy:=dF b0;have bY:=dF bc;clear bo bn bi d t aL ad aS Q bF cF R b0 bc bW bI aK ap;go_upto_region 5 with fail;generalize bP.setCell ⟨Wc,10,Z⟩ (J ay (N4 10+1) am)=d1 at*;clear B p2;go_wp2_with fail;go_roundw;case rel=>
   have e0:=cI.out;have f0:=cS.out;subst e0 f0;have e1:=bK.out;have f1:=cm.out;subst e1 f1;have e2:=cn.out;have f2:=cA.out;subst e2 f2;have e3:=cG.out;have f3:=bX.out;subst e3 f3;have e4:=bJ.out;have f4:=cx.out;subst e4 f4;have e5:=cy.out;have f5:=bY.out;subst e5 f5;have en:(CS.fst n nb m).ns++[AG.Nd.first (m:Int) (n:Int) nb]=(CS.fst n nb (m+1)).ns:=by simp[CS.fst,List.range_succ]
   have x:=cU.out;rw[en]at x;refine⟨m+1,oG,rfl,_,_,x.qd ?_,by simp[A.out],cj⟩;intro k hk;simp only[eW,List.mem_cons,List.mem_nil_iff,or_false]at hk;rcases hk with rfl|rfl|rfl|rfl|rfl|rfl|rfl|rfl|rfl|rfl<;>simp[kB,rN,rX,CS.fst,List.replicate_succ']
  case measure=>simp[intOf];omega
 obtain rfl:m=n:=oG;have d6:decide ((m:Int)<(m:Int))=false:=sG;have HG:=dF ax;have HW:=dF au;have A:=dF al;clear ax au al;have d7:wrap64 (wrap64 (2^m)-1)=2^m-1:=by have h4:m=2∨m=3∨m=4∨m=5:=oG;rcases h4 with rfl|rfl|rfl|rfl<;>decide +kernel
 have ck:(wr.alloc (G #[I 0,I 0,I (2^m-1)] 66)).ownsRow X 66 3 (J (Y ⟨wr.1.size,0,Z⟩) 1 1) 1 [I 0,I 0,I (2^m-1)]:=⟨rfl,.inr ⟨wr.1.size,1,#[I 0,I 0,I (2^m-1)],rfl,HG.jf,heap_alloc_new wr _,dG,dG,rfl,rfl⟩⟩;obtain⟨B,p2,d,t⟩:=HG.push (k:=9) (m:=1) (news:=[I 0,I 0,I (2^m-1)]) (v3:=J (Y ⟨wr.1.size,0,Z⟩) 1 1) dG ck (World.grownBy_alloc _ _ _) ⟨wr.1.size,rfl,.inr ⟨Nat.le_refl _,World.grownBy_alloc _ _ _⟩⟩;have bR:=dF d;have bS:=dF (HW.trans t);clear ck d t;have W:=bR.cell (s:=CS.fst m nb m) (by intro k hk;simp only[eW,List.mem_cons,List.mem_nil_iff,or_false]at hk;rcases hk with rfl|rfl|rfl|rfl|rfl|rfl|rfl|rfl|rfl|rfl<;>simp[kB,rN,rX,CS.fst,eM.cells]) (by simp[CS.fst]) (by simp[CS.fst];omega) aR (by intro i hi;simp[CS.fst,AG.Nd.first])
 have cC:=dF W;have HQ:=dF bR.qt;clear W;go_wp2_with fail;refine bodyPost_ret (v:=P0 (Y ⟨Wc,0,Z⟩)) (by simp[results,results47,go_sem]) rfl ?_;first|exact⟨Wc,hs,rfl,⟨_,cC⟩,HQ,A,bS⟩|exact⟨Wc,rfl,hs,⟨_,cC⟩,HQ,A,bS⟩
def O1(hLO:i8)(hUO:i6)(hSO:fB)(hBW:fH)(hBS:fI)(w:World)(H:dY w):Calls pG 46 #[] w λq w'=>q=.returned (bool true)/\Bw w w':=by
 go_enter func46,ntmps46;go_wp2_with fail;refine(EM 0 0 2 1 w H dG dG dG dG).mono ?_;rintro q w1 ⟨Wc,hs,rfl,u,a,x,o⟩;have c:Hid (St w1 Wc w.1.size 2 1 1 A0):=⟨hs,x,u,a,FJ ⟨Nat.le_refl 2,dG⟩⟩;have d:=dF o;clear u a x o;go_wp2_with fail;refine(c.mv hLO hUO hSO hBW hBS (i:=1) (kk:=0) dG dG rfl rfl dG dG dG).mono ?_;rintro q w2 ⟨rfl,a,b⟩;replace c:Hid (St w2 Wc w.1.size 2 2 41 A1):=a;replace d:=dF (d.trans b);clear a b;go_wp2_with fail;refine(c.all hLO hUO hSO hBW hBS TO dG dG).mono ?_;rintro q w3 ⟨rfl,a,b⟩;replace c:Hid (St w3 Wc w.1.size 2 9002 117041 A2):=a;replace d:=dF (d.trans b);clear a b;go_wp2_with fail;refine(c.mv hLO hUO hSO hBW hBS (i:=1) (kk:=2) dG dG rfl rfl dG dG dG).mono ?_;rintro q C ⟨rfl,a,b⟩;replace c:Hid (St C Wc w.1.size 2 9003 117081 A3):=a;replace d:=dF (d.trans b);clear a b;go_wp2_with fail;refine(c.mv hLO hUO hSO hBW hBS (i:=1) (kk:=3) dG dG rfl rfl dG dG dG).mono ?_;rintro q p ⟨rfl,a,b⟩;replace c:Hid (St p Wc w.1.size 2 9004 117121 A4):=a;replace d:=dF (d.trans b);clear a b;have t:∃j m n k,p.cell? ⟨Wc,11,Z⟩=Y (Value.bool true)/\p.cell? ⟨Wc,7,Z⟩=Y (J (Y ⟨j,0,Z⟩) 2 m)/\p.cell? ⟨j,7,Z⟩=Y (I 1)/\p.cell? ⟨Wc,9,Z⟩=Y (J (Y ⟨n,0,Z⟩) 2 k):=by obtain⟨_,e,j,m,f,F⟩:=c.rs dG;obtain⟨_,_,n,k,_,B,_⟩:=c.hi dG;have A:=congrArg List.length oW.1.1;simp at A;have z:=congrArg (λl:List Int=>l[1]?) oW.1.1;simp at z;obtain⟨r,L,N⟩:=z;obtain⟨K,rfl,g,_⟩:=F 1 r L;rw[A]at f;rw[oW.1.2]at B;rw[N]at g;exact⟨K,m,n,k,e,f,g,B⟩
 obtain⟨j,m,n,k,e,f,g,y⟩:=t;go_wp2_with fail;clear e f g y;go_wp2_with fail;refine(c.mv hLO hUO hSO hBW hBS (i:=1) (kk:=1) dG dG rfl rfl dG dG dG).mono ?_;rintro q D ⟨rfl,a,b⟩;replace c:Hid (St D Wc w.1.size 2 9005 117161 A5):=a;replace d:=dF (d.trans b);clear a b;go_wp2_with fail;refine(c.all hLO hUO hSO hBW hBS TP dG dG).mono ?_;rintro q E ⟨rfl,a,b⟩;replace c:Hid (St E Wc w.1.size 2 18005 234161 A6):=a;replace d:=dF (d.trans b);clear a b;go_wp2_with fail;refine(c.mv hLO hUO hSO hBW hBS (i:=1) (kk:=2) dG dG rfl rfl dG dG dG).mono ?_;rintro q M ⟨rfl,a,b⟩;replace c:Hid (St M Wc w.1.size 2 18006 234201 A7):=a;replace d:=dF (d.trans b);clear a b;obtain⟨_,_,S,Q,e,_⟩:=c.rs dG;rw[oW.2.1]at e;go_wp2_with fail;clear e;refine(c.all hLO hUO hSO hBW hBS TQ dG dG).mono ?_;rintro q O ⟨rfl,a,b⟩;replace c:Hid (St O Wc w.1.size 2 27006 351201 A8):=a;replace d:=dF (d.trans b);clear a b;obtain⟨_,e,j,m,f,_⟩:=c.rs dG;obtain⟨_,_,n,k,_,g,h⟩:=c.hi dG;rw[oW.2.2.1]at f;rw[oW.2.2.2.1]at g h;rw[oW.2.2.2.2.1,oW.2.2.2.2.2.1,oW.2.2.2.2.2.2]at h;have y:=h 0 _ rfl;have U:=h 1 _ rfl;have R:=h 2 _ rfl;have s:=FU 2 2 3 2 2 3;simp at s;clear h;go_wp2_with fail;refine bodyPost_ret (v:=.bool true) (by simp[results,results46,go_sem]) rfl ?_;exact⟨rfl,d⟩
structure mT where
 K:Int
 A:Int
 B:Int
def mT.cells(m:mT):List Value:=[I m.K,I m.A,I m.B]
def mT.ok(m:mT):Prop:=(i_ m.K)/\(i_ m.A)/\(i_ m.B)
def tR(w:World)(ao:Option Addr)(ms:List mT):Prop:=ms=[]∨∃g off,ao=some ⟨g,off,none⟩/\g<w.1.size/\∀j (h:j<ms.length) i,i<3->w.cell? ⟨g,off+j*3+i,none⟩=some (ms[j].cells.getD i undef)
def QS{w:World}{b:Option Addr}{ms:List mT}(h:tR w b ms){k:Nat}(a:k<ms.length):∃g off,b=some ⟨g,off,none⟩/\∀{w':World},Below w.1.size w w'->w'.rangeAt g (off+k*3) [I ms[k].K,I ms[k].A,I ms[k].B]:=by
 rcases h with rfl|⟨g,off,e,d,f⟩;·simp at a
 ·refine⟨g,off,e,λ{w'} hb j u hu=>?_⟩;have c:j<3:=by have:=(List.getElem?_eq_some_iff.1 hu).1;simpa using this
  rw[hb.cell (p:=⟨g,off+k*3+j,none⟩) d,f k a j c];show some ([I ms[k].K,I ms[k].A,I ms[k].B].getD j undef)=_;rw[List.getD_eq_getElem?_getD,hu];rfl
def RE(n:Nat)(M:Nat)(w:World)(q:Ending)(w':World):Prop:=∃Wc base t hs s,q=.returned (P0 (Y ⟨Wc,0,Z⟩))/\CA w' Wc base t true hs s/\Ok s n (1+40*M)/\t<=M+1/\s.hi.length<=M+1/\w.1.size<=base/\Below w.1.size w w'
def NH(hLO:i8)(hUO:i6)(hSO:fB)(hBW:fH)(hBS:fI)(a b:Int)(n:Nat)(nb:Int)(am:Option Addr)(cm:Nat)(ms:List mT)(w:World)(hT:dY w)(ha:i_ a)(hb:i_ b)(hn:eV a%4=(n:Int)-2)(U:eV b%4=nb-1)(al:ms.length<=300000)(C:∀m∈ms,m.ok)(H:tR w am ms):Calls pG 18 #[.agg #[I a,I b],J am ms.length cm] w λq w'=>RE n ms.length w q w':=by
 have a0:2<=n/\n<=5:=by have h1:=Int.emod_nonneg (eV a) (show(4:Int)≠0 by decide);have h2:=Int.emod_lt_of_pos (eV a) (show(0:Int)<4 by decide);omega
 have HA:=dF ha;have HB:=dF hb;have HN:=dF hn;have a3:=dF U;have W:=dF hT;have a7:=dF H;have a1:=dF C;have Q:=(Below.refl w.1.size w).alloc r_ (G #[I a,I b] 47);have f:=dF (dI.new w #[I a,I b] 47);have r:=dF Q;clear Q ha hb hn U H C;go_enter func18,ntmps18;go_upto_region 1 with fail;generalize u:w.1.size=X at*;generalize World.alloc _ _=W1 at*;have aa:dY W1:=W.below r (by rw[←u];exact W.two);have a9:X<=W1.1.size:=by have:=f.lt;omega
 go_wp2_with fail;refine(O1 hLO hUO hSO hBW hBS W1 aa).mono ?_;rintro q w2 ⟨rfl,o⟩;have d:=dF (f.later o);have R:Hid (Below X w w2):=r.trans (o.mono a9);have a2:dY w2:=W.below R (by rw[←u];exact W.two);have c:X<=w2.1.size:=by have:=d.lt;omega
 have x0:=d.cell 0;have x1:=d.cell 1;simp at x0 x1;clear o;go_wp2_with fail;refine(EM a b n nb w2 a2 HA HB HN a3).mono ?_;rintro q w3 ⟨Wc,hs,rfl,E,_,hl,V⟩;have O:=dF E;have x:Hid (Below X w w3):=R.trans (V.mono c);generalize hZ:w2.1.size=base at*;clear E V x0 x1 d f;go_upto_region 6 with fail;go_loopw [7] (λs7 wr=>∃k:Nat,k<=ms.length/\s7=I (k:Int)/\∃hs s,CA wr Wc base (k+1) true hs s/\Ok s n (1+40*k)/\s.hi.length<=k+1/\Below X w wr) (λs7 wr=>ms.length - (intOf s7).toNat);case atStart=>exact⟨0,oG,rfl,hs,_,O,FJ a0,by simp[CS.fst],x⟩
 case round=>
 clear O x hl;obtain⟨k,aj,rfl,hs,s,E,hg,ab,z⟩:=hrel;have HC:=dF E;have HG:=dF hg;have l:=dF z;clear E hg z;by_cases L:k<ms.length
 ·have ai:decide ((k:Int)<(ms.length:Int))=true:=nG;obtain⟨g,off,a8,N⟩:=QS a7 L;have p:=N (by rw[u];exact l);subst a8;have e:=a1.out _ (List.getElem_mem L);obtain⟨K,hK⟩:∃y,ms[k].K=y:=⟨_,rfl⟩;obtain⟨A,hA⟩:∃y,ms[k].A=y:=⟨_,rfl⟩;obtain⟨B,hB⟩:∃y,ms[k].B=y:=⟨_,rfl⟩;unfold mT.ok at e;rw[hK,hA,hB]at e p;have HM:=dF e;have a6:=dF p;clear e N hK hA hB p;have ae:(0:Int)<=(k:Int)/\(k:Int)<(ms.length:Int):=oG;go_wp2_with(refine wpList_load_mid rfl 70 _ rfl g (off+k*3) eG [I K,I A,I B] _ a6 underlying70 rfl kG ?_);have M:hs.length=n:=by obtain⟨_,h9⟩:=HC.out;exact h9.hl.trans HG.gs.nn.2
  obtain⟨i,D,ac⟩:=pk A hs.length oG;obtain⟨kk,t,F⟩:=pk K 10 dG;refine(EK hLO hUO hSO hBW hBS Wc base (k+1) hs s (1+40*k) i kk K A B wr HC (by rw[M];exact HG) ac D F t HM.2.1 HM.2.2 HM.1 oG oG).mono ?_;rintro q w4 ⟨rfl,hs',s',ah,j,h,S,ag,_⟩;rw[M]at h;clear D t;have af:w4.cell? ⟨Wc,11,Z⟩=Y (Value.bool true):=by obtain⟨v,h9⟩:=j;have h8:=h9.blk.cell 11;simpa using h8
  have a5:=dF j;have ad:=dF h;have a4:Hid (Below X w w4):=l.trans (S.mono c);clear j h S;go_wp2_with fail;go_roundw;case rel=>exact⟨k+1,oG,rfl,hs',s',a5,ad.up oG,oG,a4⟩
  case measure=>simp[intOf];omega
 obtain rfl:k=ms.length:=oG;have ak:decide ((ms.length:Int)<(ms.length:Int))=false:=sG;go_wp2_with fail;refine bodyPost_ret (v:=P0 (Y ⟨Wc,0,Z⟩)) (by simp[results,results18,go_sem]) rfl ?_;exact⟨Wc,base,ms.length+1,hs,s,rfl,HC,HG,Nat.le_refl _,ab,by rw[u];exact c,by rw[u];exact l⟩
end
end Go.Proofs.YtdcainmlcpafbaaGreatDoor
