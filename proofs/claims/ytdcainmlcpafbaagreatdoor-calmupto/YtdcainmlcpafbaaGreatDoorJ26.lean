import Derived.Test.YtdcainmlcpafbaaGreatDoorJ24
import Derived.Test.YtdcainmlcpafbaaGreatDoorJ27
set_option linter.all false
set_option maxHeartbeats 4000000
set_option maxRecDepth 20000
namespace Go.Proofs.YtdcainmlcpafbaaGreatDoor
open Go.RowKit
open Value renaming slice->J,pointer->P0
open Tryz
open Tryz renaming prog->pG
open IntKind renaming i64->T
open Option renaming none->Z,some->Y
open Obj renaming cells->G
open Value (bool)
section
variable {w w':World} {P:Pl} {x x':NB} {d:SD} {fs:List FD} {left:Int} {t:Nat} {C C':Nat->Prop} {la lo la' lo':List Ky} {rs rs':List dO} {tr:AG.Ms}
def OL{n:Int}(b:fS d n)(a:0<d.recs.length){e p s:Int}(h:kN d e p s=true):e=d.ep/\e<1000000000000:=by unfold kN lA lZ at h;simp only[Bool.and_eq_true,decide_eq_true_eq]at h;have:=(pD b a).1;omega
def OM{n:Int}(b:fS d n)(a:0<d.recs.length)(e p s:Int)(y:AG.Nd)(hy:y.d=d.du):AG.folB (y.d.rc y.d.ep) (e+1) p s=kN d e p s:=by rw[hy];exact D1 b a (e+1) p s
def DA{n:Int}(b:fS d n)(a:0<d.recs.length)(y:AG.Nd)(hy:y.d=d.du)(m:AG.Ms)(ok:Bool):y.decided m ok=bif kN d m.e m.p m.s then(bif ok then({(y.save m true).stand with act:=d.takes (m.e+1) m.p},true) else(y.fall m,false)) else(y,false):=by
 unfold AG.Nd.decided;rw[OM b a m.e m.p m.s y hy,hy,CU];cases kN d m.e m.p m.s;·rfl
 ·cases ok<;>rfl
def EC(a:Rg x la rs t)(e p:Int):Rg (mL x d e p true) [] rs (t+1):=a.stand.next.act (d.takes (e+1) p) x.5
def KY{r:Ending}{u:List Ky}(m:BG t d)(n:fS d x.2)(a:Rg x u rs t)(hi:d.id=x.id)(q:Jr fs d x.2 t false tr)(M:t+1<=20000000)(i:x.5=false)(H:mC P x d fs left t C lo rs r w w'):∃l,r=.returned l/\∃ok,gL P t C left x.2 ((dK x d.du la lo rs tr).conclude ok) ok l w w':=by
 have O:=qL m (by omega:t<=20000000);have L:=a.id;have K:=a.nn;have c:∀ok,(dK x d.du la lo rs tr).conclude ok=((AG.Nd.decided (dK (gQ x) d.du [] lo rs tr) (gZ x d).ms ok).1,if(AG.Nd.decided (dK (gQ x) d.du [] lo rs tr) (gZ x d).ms ok).2=true then(dK x d.du la lo rs tr).tell (gZ x d).ms (dK x d.du la lo rs tr).others else[]):=λok=>rfl;have b:=λok=>DA n m.ne (dK (gQ x) d.du [] lo rs tr) rfl (gZ x d).ms ok;have o:fP 6 0 [0,d.ep,0,0,x.gP,x.gS,0,0,0,0]=true:=rZ 0 d.ep x.gP x.gS dG oG a.g.1 a.g.2;have B:iT (gZ x d):=⟨o,by intro z y;exact absurd y (by simp[gZ])⟩;have D:iI (gZ x d).k (gZ x d).bl (gZ x d).zs.length:=.inr (.inr (.inl rfl));have A:(gZ x d).k=6->(gZ x d).e=d.ep/\(gZ x d).e<1000000000000:=λ_=>⟨rfl,by show d.ep<_;omega⟩;have f:Rg (gQ x) [] rs t:=⟨a.nn,a.id,a.nb,by show(0:Int)<=0/\(0:Int)<=3;decide,λv _=>absurd v (by show¬(1:Int)<=0;decide),by show((0:Int)<=0/\(0:Int)<=5)/\((0:Int)<=0/\(0:Int)<=31);decide,by show(0:Int)<=0/\0<x.2;omega,by show(0:Int)<=0/\(0:Int)<=_;decide,by show(0:Int)<=0/\(0:Int)<=_;decide,by show((0:Int)<=0/\(0:Int)<=_)/\((0:Int)<=0/\(0:Int)<=_)/\((0:Int)<=0/\(0:Int)<=_);decide,a.on,a.ops,a.rs,sG⟩;rcases H with⟨N,j,rfl,h,F⟩|⟨j,rfl,h⟩|⟨l,j,rfl,E,h⟩;·refine⟨_,rfl,true,?_⟩;rw[c,b,show kN d (gZ x d).ms.e (gZ x d).ms.p (gZ x d).ms.s=false from j];exact⟨dZ.nil _ _,eR.nil _,eT.keep h F m n f.next hi (by rw[show(gQ x).5=false from i];exact q)⟩
 ·refine⟨_,rfl,false,?_⟩;rw[c,b,show kN d (gZ x d).ms.e (gZ x d).ms.p (gZ x d).ms.s=true from j];exact⟨dZ.nil _ _,eR.nil _,eT.fall (x:=gQ x) (la:=[]) (lo:=lo) (tr:=tr) h m oG n f hi q B D A⟩
 ·refine⟨l,rfl,true,?_⟩;rw[c,b,show kN d (gZ x d).ms.e (gZ x d).ms.p (gZ x d).ms.s=true from j];refine⟨?_,?_,eT.save (x':=mL (gQ x) d d.ep x.gP true) h m oG n (EC f d.ep x.gP) hi q B D A i tr⟩;·show dZ w' w.1.size l (fY ((dK x d.du la lo rs tr).tell (gZ x d).ms (dK x d.du la lo rs tr).others));rw[uA x a.nn a.id (dK x d.du la lo rs tr) rfl rfl (gZ x d).ms];exact E
  ·exact uF (dK x d.du la lo rs tr) (gZ x d).ms ⟨rZ x.id d.ep x.gP x.gS oG oG a.g.1 a.g.2,by intro z y;exact absurd y (by simp[gZ,dN.ms]),λv=>absurd v (by show¬(6:Int)=9;decide)⟩
def DB(a:Rg x la rs t):Rg (dV x) la rs t/\(dV x).id=x.id/\(dV x).2=x.2/\(dV x).5=x.5/\(dV x).ba=x.ba:=by
 unfold dV;cases decide (0<x.fo.wa);·exact⟨a,rfl,rfl,rfl,rfl⟩
 ·exact⟨⟨a.nn,a.id,a.nb,a.ph,a.an,a.fo.2,a.jo,a.ba,a.rf,a.fo,a.on,a.ops,a.rs,a.la⟩,rfl,rfl,rfl,rfl⟩
def KZ(u:AG.Du):(if 0<(dK x u la lo rs tr).fo.wa then({dK x u la lo rs tr with gP:=(dK x u la lo rs tr).fo.p,gS:=(dK x u la lo rs tr).fo.s}:AG.Nd) else dK x u la lo rs tr)=dK (dV x) u la lo rs tr:=by
 unfold dV;show(if 0<x.fo.wa then _ else _)=_;by_cases h:0<x.fo.wa;·rw[if_pos h,decide_eq_true h];rfl
 ·rw[if_neg h,decide_eq_false h];rfl
def K0(h:0<=x.ba)(i:x.5=false)(j:(dV x).id=x.id)(f:(dV x).ba=x.ba)(dF:(dV x).5=x.5)(ok:Bool):(dK x d.du la lo rs tr).gy ok=bif jA d 3 d.ep x.ba (dV x).gP (dV x).gS then(bif ok then({dK (dV x) (d.du.step (gG x d).ms) (mZ x d) lo rs tr with ph:=3},(dK (dV x) d.du la lo rs tr).tell (gG x d).ms (dK (dV x) d.du la lo rs tr).others) else((dK (dV x) d.du la lo rs tr).fall (gG x d).ms,[])) else({dK (dV x) d.du (mZ x d) lo rs tr with ph:=3},(dK (dV x) d.du la lo rs tr).tell (gG x d).ms (dK (dV x) d.du la lo rs tr).others):=by
 unfold AG.Nd.gy;rw[KZ];have m:({AG.Ms.nil with k:=3,e:=(dK (dV x) d.du la lo rs tr).d.ep,b:=(dK (dV x) d.du la lo rs tr).ba,p:=(dK (dV x) d.du la lo rs tr).gP,s:=(dK (dV x) d.du la lo rs tr).gS}:AG.Ms)=(gG x d).ms:=by show({AG.Ms.nil with k:=3,e:=d.ep,b:=(dV x).ba,p:=(dV x).gP,s:=(dV x).gS}:AG.Ms)=_;rw[f];rfl
 dsimp only;rw[m,B4 (gG x d).ms (.inr rfl) ok];have n:∀b:Bool,(eP d 3 d.ep x.ba).k=4->(eP d 3 d.ep x.ba).e=d.ep/\(eP d 3 d.ep x.ba).b=x.ba/\(eP d 3 d.ep x.ba).q=0:=by
  intro _;unfold eP;split;·intro g;exact absurd g (by show¬(6:Int)=4;decide)
  split;·intro g;exact absurd g (by show¬(5:Int)=4;decide)
  split;·intro _;exact⟨rfl,rfl,rfl⟩
  ·next g=>exact absurd rfl g
 have l:(if(eP d 3 d.ep x.ba).ms.k=4 then[((4:Int),d.ep,(dV x).ba,(dV x).id)] else[])=mZ x d:=by
  unfold mZ;by_cases a:(eP d 3 d.ep x.ba).k=4;·rw[if_pos (show(eP d 3 d.ep x.ba).ms.k=4 from a),show((eP d 3 d.ep x.ba).k==4)=true by simpa using a,cond_true];obtain⟨a1,o,u⟩:=n true a;rw[a1,o,u,a,j,f,Int.max_eq_left h];rfl
  ·rw[if_neg (show¬(eP d 3 d.ep x.ba).ms.k=4 from a),show((eP d 3 d.ep x.ba).k==4)=false by simpa using a];rfl
 have t:jA d (gG x d).ms.k (gG x d).ms.e (gG x d).ms.b (gG x d).ms.p (gG x d).ms.s=jA d 3 d.ep x.ba (dV x).gP (dV x).gS:=rfl;have r:eP d (gG x d).ms.k (gG x d).ms.e (gG x d).ms.b=eP d 3 d.ep x.ba:=rfl;rw[t,r];have c:¬(dK (dV x) d.du la lo rs tr).5=true:=by show¬(dV x).5=true;rw[dF,i];simp
 cases jA d 3 d.ep x.ba (dV x).gP (dV x).gS;·simp only[cond_false];rw[if_neg c];rw[←l];rfl
 ·cases ok;·simp only[cond_false,cond_true];rw[if_pos (show((dK (dV x) d.du la lo rs tr).fall (gG x d).ms).5=true from rfl)]
  ·simp only[cond_true];rw[if_neg (show¬((dK (dV x) d.du la lo rs tr).save (gG x d).ms true).5=true from c)];rw[←l];rfl
def K1{r:Ending}{n:List Ky}(y:BG t d)(Q:fS d x.2)(v:Rg x n rs t)(hi:d.id=x.id)(W:Jr fs d x.2 t false tr)(ht:t+1<=20000000)(h:x.5=false)(R:mN P x d fs left t C lo rs r w w'):∃l,r=.returned l/\∃ok,gL P t C left x.2 ((dK x d.du la lo rs tr).gy ok) ok l w w':=by
 have he:=qL y (by omega:t<=20000000);have E:=v.id;have D:=v.nn;have f:=v.ba;obtain⟨a,j,u,F,V⟩:=DB v;have p:=λok=>K0 (x:=x) (d:=d) (la:=la) (lo:=lo) (rs:=rs) (tr:=tr) f.1 h j V F ok;have K:iT (gG x d):=⟨vT 0 d.ep x.ba _ _ dG oG f a.g.1 a.g.2,by intro z A;exact absurd A (by simp[gG])⟩;have N:iI (gG x d).k (gG x d).bl (gG x d).zs.length:=.inr (.inl rfl);have H:(gG x d).k=6->(gG x d).e=d.ep/\(gG x d).e<1000000000000:=λq=>absurd q (by show¬(3:Int)=6;decide);have i:fS d (dV x).2:=by rw[u];exact Q
 have c:Jr fs d (dV x).2 t false tr:=by rw[u];exact W
 have O:(mZ x d).length<=1:=by
  unfold mZ;cases(eP d 3 d.ep x.ba).k==4;·simp
  ·simp[jB]
 have m:∀B,Rg (qM x B) (mZ x d) rs (t+1):=by intro B;have ho:=a.ops;have M:=a.rs;exact⟨a.nn,a.id,a.nb,by show(0:Int)<=3/\(3:Int)<=3;decide,λ_ _=>⟨B,rfl⟩,a.g,a.jo,a.ba,a.rf,a.fo,a.on,by show 0<=(dV x).ops/\(dV x).ops<=((t+1:Nat):Int);omega,oG,oG⟩
 have o:eR x.2 ((dK (dV x) d.du la lo rs tr).tell (gG x d).ms (dK (dV x) d.du la lo rs tr).others):=by have:=uF (dK (dV x) d.du la lo rs tr) (gG x d).ms ⟨by show fP 3 (dV x).id [0,d.ep,x.ba,0,(dV x).gP,(dV x).gS,0,0,0,0]=true;rw[j];exact vT x.id d.ep x.ba _ _ oG oG f a.g.1 a.g.2,by intro z A;exact absurd A (by simp[gG,dN.ms]),λq=>absurd q (by show¬(3:Int)=9;decide)⟩;rw[←u];exact this
 have s:fY ((dK (dV x) d.du la lo rs tr).tell (gG x d).ms (dK (dV x) d.du la lo rs tr).others)=fZ (kH x) (gR 3 x.id d.ep x.ba 0 (dV x).gP (dV x).gS 0 0 0 []) x.2.toNat:=uA x D E (dK (dV x) d.du la lo rs tr) j u (gG x d).ms;rcases R with⟨S,rfl,b⟩|⟨B,l,rfl,L,b⟩;·refine⟨_,rfl,false,?_⟩;rw[p,S];exact⟨dZ.nil _ _,eR.nil _,eT.fall (x:=dV x) (la:=n) (lo:=lo) (tr:=tr) b y oG i a (hi.trans j.symm) c K N H⟩
 ·refine⟨l,rfl,true,?_⟩;rw[p];cases hN:jA d 3 d.ep x.ba (dV x).gP (dV x).gS
  ·rw[hN]at b;obtain⟨d',fs',left',L',C2,M,b,X⟩:=b;rcases M with⟨_,e1,U,e3,e4⟩|⟨q,_⟩;·rw[e1,U,e3,e4]at b;refine⟨by show dZ w' w.1.size l (fY ((dK (dV x) d.du la lo rs tr).tell (gG x d).ms (dK (dV x) d.du la lo rs tr).others));rw[s];exact L,o,?_⟩;exact eT.keep (x':=qM x B) b X y i (m B) (hi.trans j.symm) (by rw[show(qM x B).5=false from F.trans h];exact c)
   ·exact absurd q sG
  ·rw[hN]at b;refine⟨by show dZ w' w.1.size l (fY ((dK (dV x) d.du la lo rs tr).tell (gG x d).ms (dK (dV x) d.du la lo rs tr).others));rw[s];exact L,o,?_⟩;exact eT.save (x':=qM x B) (wZ b) y oG i (m B) (hi.trans j.symm) c K N H (F.trans h) tr
end
section
variable {w w':World} {P:Pl} {x x':NB} {d:SD} {fs:List FD} {left:Int} {t:Nat} {C C':Nat->Prop} {la lo la' lo':List Ky} {rs rs':List dO} {tr:AG.Ms}
def yT{e b a:Int}:gT x d e b a=true↔x.ph=a/\e=d.ep/\b=x.ba/\0<b:=by unfold gT;simp[and_assoc]
def K2{r:Ending}{f e b wa p s:Int}(O:e_ wa)(Q:0<=p/\p<=5)(hs:0<=s/\s<=31)(B:0<=b)(H:BG t d)(z:fS d x.2)(h:Rg x la rs t)(hi:d.id=x.id)(D:Jr fs d x.2 t false tr)(M:t+1<=20000000)(m:x.5=false)(N:pY P x d fs left t C la lo rs 2 f e b wa p s 0 0 0 r w w'):∃l,r=.returned l/\∃ok,gL P t C left x.2 ((dK x d.du la lo rs tr).promised ⟨2,f,e,b,wa,p,s,0,0,0,[]⟩ ok) ok l w w':=by
 have A:iU 2 f e b 0=(2,e,b,f):=by unfold iU;rw[Int.max_eq_left B]
 have U:=h.la;have i:((dK x d.du la lo rs tr).ph=2/\(dK x d.du la lo rs tr).qc ⟨2,f,e,b,wa,p,s,0,0,0,[]⟩/\((2:Int),e,b,f)∉(dK x d.du la lo rs tr).an)↔(gT x d e b 2&&!decide (iU 2 f e b 0∈la))=true:=by rw[Bool.and_eq_true,yT,A];show(x.ph=2/\(e=d.ep/\b=x.ba/\0<b)/\(2,e,b,f)∉la)↔_;simp[and_assoc]
 have y:({dK x d.du la lo rs tr with fo:=if(dK x d.du la lo rs tr).fo.wa<wa then⟨2,f,e,b,wa,p,s,0,0,0,[]⟩ else(dK x d.du la lo rs tr).fo,an:=(dK x d.du la lo rs tr).an++[(2,e,b,f)]}:AG.Nd)=dK (gV x 2 f e b wa p s 0 0 0) d.du (la++[(2,e,b,f)]) lo rs tr:=by
  unfold gV;show({dK x d.du la lo rs tr with fo:=if x.fo.wa<wa then⟨2,f,e,b,wa,p,s,0,0,0,[]⟩ else x.fo.ms,an:=la++[(2,e,b,f)]}:AG.Nd)=_;by_cases a:x.fo.wa<wa;·rw[if_pos a,decide_eq_true a];rfl
  ·rw[if_neg a,decide_eq_false a];rfl
 have k:(gT x d e b 2&&!decide (iU 2 f e b 0∈la))=true->iV x d la 2 f e b 0 2=la++[(2,e,b,f)]:=by intro a;rw[Bool.and_eq_true]at a;unfold iV jB;rw[a.1,cond_true,A];rw[A]at a;rw[if_neg (by simpa using a.2)]
 have o:Rg (gV x 2 f e b wa p s 0 0 0) la rs t:=by
  unfold gV;cases decide (x.fo.wa<wa);·exact h
  ·exact⟨h.nn,h.id,h.nb,h.ph,h.an,h.g,h.jo,h.ba,h.rf,⟨O,Q,hs⟩,h.on,h.ops,h.rs,h.la⟩
 have c:(gV x 2 f e b wa p s 0 0 0).2=x.2/\(gV x 2 f e b wa p s 0 0 0).id=x.id/\(gV x 2 f e b wa p s 0 0 0).5=x.5:=by unfold gV;cases decide (x.fo.wa<wa)<;>exact⟨rfl,rfl,rfl⟩
 have n:∀ok,(dK x d.du la lo rs tr).promised ⟨2,f,e,b,wa,p,s,0,0,0,[]⟩ ok=if(dK x d.du la lo rs tr).ph=2/\(dK x d.du la lo rs tr).qc ⟨2,f,e,b,wa,p,s,0,0,0,[]⟩/\((2:Int),e,b,f)∉(dK x d.du la lo rs tr).an then(if x.2<2*((la++[((2:Int),e,b,f)]).length:Int) then(dK (gV x 2 f e b wa p s 0 0 0) d.du (la++[(2,e,b,f)]) lo rs tr).gy ok else(dK (gV x 2 f e b wa p s 0 0 0) d.du (la++[(2,e,b,f)]) lo rs tr,[])) else(dK x d.du la lo rs tr,[]):=by intro ok;rw[←y];rfl
 rcases N with⟨j,rfl,q,F⟩|⟨j,u,rfl,q,F⟩|⟨j,K⟩
 ·refine⟨_,rfl,true,?_⟩;rw[n,if_neg (λa=>by rw[i.1 a]at j;exact absurd j sG)];have R:iV x d la 2 f e b 0 2=la:=by
   unfold iV jB;cases K:gT x d e b 2;·rfl
   ·rw[K,Bool.true_and,Bool.not_eq_false',decide_eq_true_eq]at j;rw[cond_true,if_pos j]
  rw[R]at q;exact⟨dZ.nil _ _,eR.nil _,eT.keep q F H z h.next hi (by rw[m];exact D)⟩
 ·refine⟨_,rfl,true,?_⟩;rw[k u]at q;have E:¬x.2<2*((la++[((2:Int),e,b,f)]).length:Int):=by unfold kO at j;rw[u,Bool.true_and,k u,decide_eq_false_iff_not]at j;exact j
  rw[n,if_pos (i.2 u),if_neg E];refine⟨dZ.nil _ _,eR.nil _,eT.keep q F H (by rw[c.1];exact z) ?_ (hi.trans c.2.1.symm) (by rw[c.2.2,c.1,m];exact D)⟩;have a:=o.next;exact⟨a.nn,a.id,a.nb,a.ph,a.an,a.g,a.jo,a.ba,a.rf,a.fo,a.on,a.ops,a.rs,nG⟩
 ·have v:(gT x d e b 2&&!decide (iU 2 f e b 0∈la))=true:=by unfold kO at j;rw[Bool.and_eq_true]at j;exact j.1
  have E:x.2<2*((la++[((2:Int),e,b,f)]).length:Int):=by unfold kO at j;rw[v,Bool.true_and,k v,decide_eq_true_eq]at j;exact j
  obtain⟨l,S,ok,L⟩:=K1 (x:=gV x 2 f e b wa p s 0 0 0) (la:=la++[(2,e,b,f)]) (tr:=tr) H (by rw[c.1];exact z) o (hi.trans c.2.1.symm) (by rw[c.1];exact D) M (c.2.2.trans m) K;rw[c.1]at L;refine⟨l,S,ok,?_⟩;rw[n,if_pos (i.2 v),if_pos E];exact L
def M2{r:Ending}{f e b:Int}(p:0<=b)(z:BG t d)(v:fS d x.2)(o:Rg x la rs t)(hi:d.id=x.id)(q:Jr fs d x.2 t false tr)(H:t+1<=20000000)(j:x.5=false)(m:AG.Ms)(K:m.k=4/\m.f=f/\m.e=e/\m.b=b)(L:sI P x d fs left t C la lo rs 4 f e b 0 r w w'):∃l,r=.returned l/\∃ok,gL P t C left x.2 ((dK x d.du la lo rs tr).accepted m ok) ok l w w':=by
 obtain⟨N,rfl,rfl,rfl⟩:=K;have y:iU 4 m.f m.e m.b 0=(4,m.e,m.b,m.f):=by unfold iU;rw[Int.max_eq_left p]
 have O:=o.la;have c:((dK x d.du la lo rs tr).ph=3/\(dK x d.du la lo rs tr).qc m/\((4:Int),m.e,m.b,m.f)∉(dK x d.du la lo rs tr).an)↔(gT x d m.e m.b 3&&!decide (iU 4 m.f m.e m.b 0∈la))=true:=by rw[Bool.and_eq_true,yT,y];show(x.ph=3/\(m.e=d.ep/\m.b=x.ba/\0<m.b)/\(4,m.e,m.b,m.f)∉la)↔_;simp[and_assoc]
 have i:(gT x d m.e m.b 3&&!decide (iU 4 m.f m.e m.b 0∈la))=true->iV x d la 4 m.f m.e m.b 0 3=la++[(4,m.e,m.b,m.f)]:=by intro a;rw[Bool.and_eq_true]at a;unfold iV jB;rw[a.1,cond_true,y];rw[y]at a;rw[if_neg (by simpa using a.2)]
 have A:Rg x (la++[(4,m.e,m.b,m.f)]) rs (t+1):=by have a:=o.next;exact⟨a.nn,a.id,a.nb,a.ph,a.an,a.g,a.jo,a.ba,a.rf,a.fo,a.on,a.ops,a.rs,nG⟩
 unfold AG.Nd.accepted;rcases L with⟨h,rfl,n,D⟩|⟨h,B⟩
 ·refine⟨_,rfl,true,?_⟩;cases h2:(gT x d m.e m.b 3&&!decide (iU 4 m.f m.e m.b 0∈la))
  ·rw[if_neg (λa=>by rw[c.1 a]at h2;exact absurd h2 sG)];have E:iV x d la 4 m.f m.e m.b 0 3=la:=by
    unfold iV jB;cases B:gT x d m.e m.b 3;·rfl
    ·rw[B,Bool.true_and,Bool.not_eq_false',decide_eq_true_eq]at h2;rw[cond_true,if_pos h2]
   rw[E]at n;exact⟨dZ.nil _ _,eR.nil _,eT.keep n D z v o.next hi (by rw[j];exact q)⟩
  ·rw[if_pos (c.2 h2)];rw[i h2]at n;have u:¬x.2<2*((la++[((4:Int),m.e,m.b,m.f)]).length:Int):=by unfold kO at h;rw[h2,Bool.true_and,i h2,decide_eq_false_iff_not]at h;exact h
   show gL P t C left x.2 (if x.2<2*((la++[((4:Int),m.e,m.b,m.f)]).length:Int) then _ else _) true _ w w';rw[if_neg u];exact⟨dZ.nil _ _,eR.nil _,eT.keep n D z v A hi (by rw[j];exact q)⟩
 ·have s:(gT x d m.e m.b 3&&!decide (iU 4 m.f m.e m.b 0∈la))=true:=by unfold kO at h;rw[Bool.and_eq_true]at h;exact h.1
  obtain⟨l,M,ok,F⟩:=KY (la:=la++[(4,m.e,m.b,m.f)]) (tr:=tr) z v o hi q H j B;refine⟨l,M,ok,?_⟩;rw[if_pos (c.2 s)];have u:x.2<2*((la++[((4:Int),m.e,m.b,m.f)]).length:Int):=by unfold kO at h;rw[s,Bool.true_and,i s,decide_eq_true_eq]at h;exact h
  show gL P t C left x.2 (if x.2<2*((la++[((4:Int),m.e,m.b,m.f)]).length:Int) then _ else _) ok _ w w';rw[if_pos u];exact F
def M3(m:AG.Ms):(dK x d.du la lo rs tr).refused m=dK (nW x d m.e m.b m.wa) d.du la lo rs tr:=by
 unfold AG.Nd.refused nW;show(if(m.e=d.ep/\m.b=x.ba/\0<m.b) then _ else _)=_;by_cases h:m.e=d.ep/\m.b=x.ba/\0<m.b
 ·rw[if_pos h];have c:(m.e==d.ep&&(m.b==x.ba&&decide (0<m.b)))=true:=by simp[h.1,h.2.1];rw[←h.2.1];exact h.2.2
  rw[c,cond_true];have a:max x.rf m.wa=if x.rf<m.wa then m.wa else x.rf:=by split<;>omega
  show({dK x d.du la lo rs tr with rf:=max x.rf m.wa}:AG.Nd)=_;rw[a];rfl
 ·rw[if_neg h];have c:(m.e==d.ep&&(m.b==x.ba&&decide (0<m.b)))=false:=by rw[Bool.eq_false_iff];intro a;apply h;simp only[Bool.and_eq_true,beq_iff_eq,decide_eq_true_eq]at a;exact a
  rw[c,cond_false]
def JQ{r:Ending}{f e q:Int}(k:BG t d)(p:fS d x.2)(a:Rg x la rs t)(hi:d.id=x.id)(n:Jr fs d x.2 t false tr)(b:x.5=false)(m:AG.Ms)(A:m.f=f/\m.e=e/\m.q=q)(i:GD P x d fs left (eB t) C la lo rs 8 f e 0 q r w w'):r=.returned (.tuple #[])/\gL P t C left x.2 ((dK x d.du la lo rs tr).wrote m,[]) true (J Z 0 0) w w':=by
 obtain⟨rfl,rfl,rfl⟩:=A;have H:iU 8 m.f m.e 0 m.q=(8,m.e,max 0 m.q,m.f):=rfl;have z:(0<(dK x d.du la lo rs tr).on/\m.e=(dK x d.du la lo rs tr).ow.e/\m.q=(dK x d.du la lo rs tr).ow.q)↔pZ x m.e m.q=true:=by show(0<x.on/\m.e=x.ow.e/\m.q=x.ow.q)↔_;unfold pZ;simp
 have o:((dK x d.du la lo rs tr).d.rc (dK x d.du la lo rs tr).d.ep).S=d.ek.S:=congrArg eM.S (oJ k.ne);unfold AG.Nd.wrote;rcases i with⟨j,rfl,c,h⟩|⟨j,i⟩;·rw[if_neg (λs=>by rw[z.1 s]at j;exact absurd j sG)];exact⟨rfl,dZ.nil _ _,eR.nil _,eT.keep c h k p a.next hi (by rw[b];exact n)⟩
 ·rw[if_pos (z.2 j)];have u:(if((8:Int),m.e,max 0 m.q,m.f)∈(dK x d.du la lo rs tr).oa then(dK x d.du la lo rs tr).oa else(dK x d.du la lo rs tr).oa++[(8,m.e,max 0 m.q,m.f)])=jB (iU 8 m.f m.e 0 m.q) lo:=rfl;rw[u];obtain⟨rfl,i⟩:=i;have B:=a.ops;have E:=a.rs;have D:=a.la;refine⟨rfl,?_⟩;unfold AG.Nd.finish;rw[show(({dK x d.du la lo rs tr with oa:=jB (iU 8 m.f m.e 0 m.q) lo}:AG.Nd).d.rc ({dK x d.du la lo rs tr with oa:=jB (iU 8 m.f m.e 0 m.q) lo}:AG.Nd).d.ep).S=d.ek.S from o];show gL P t C left x.2 ((if gW d.ek.S x.id x.ow.e x.ow.q (jB (iU 8 m.f m.e 0 m.q) lo) x.2.toNat=0 then _ else _),[]) true _ w w';rcases i with⟨l,c,h⟩|⟨l,v,F,c,h⟩;·rw[if_neg l];exact⟨dZ.nil _ _,eR.nil _,eT.keep c h k p a.next hi (by rw[b];exact n)⟩
  ·rw[if_pos l];have y:Rg (lE x v) la (rs++[oT x]) (t+1):=⟨a.nn,a.id,a.nb,a.ph,a.an,a.g,a.jo,a.ba,a.rf,a.fo,λs=>absurd s (by show¬(0:Int)<0;decide),by show 0<=x.ops/\x.ops<=((t+1:Nat):Int);omega,nG,oG⟩;exact⟨dZ.nil _ _,eR.nil _,eT.keep (x':=lE x v) c h k p y hi (by rw[show(lE x v).5=false from b];exact n)⟩
def M4{r:Ending}(m:BG t d)(g:fS d x.2)(c:Rg x la rs t)(hi:d.id=x.id)(o:Jr fs d x.2 t false tr)(z:t+1<=20000000)(f:x.5=false)(y:lU P x d fs left t C la lo rs r w w'):∃l,r=.returned l/\∃ok,gL P t C left x.2 ((dK x d.du la lo rs tr).fu ok) ok l w w':=by
 have u:=g.at d.ep;rcases y with⟨j,rfl,h,v⟩|⟨j,rfl,h⟩|⟨B,l,j,rfl,n,h⟩
 ·refine⟨_,rfl,true,?_⟩;have n:(dK x d.du la lo rs tr).fu true=(dK x d.du la lo rs tr,[]):=by unfold AG.Nd.fu;dsimp only;rw[if_pos (show 1000000000000<(dK x d.du la lo rs tr).fe (dK x d.du la lo rs tr).rf from j)]
  rw[n];exact⟨dZ.nil _ _,eR.nil _,eT.keep h v m g c.next hi (by rw[f];exact o)⟩
 all_goals
  have a:=D8 c g j
  have i:=λok=>wU (x:=x) (d:=d) (la:=la) (lo:=lo) (rs:=rs) (tr:=tr) u.1.1 c.rf.1 c.id.1 f j ok
  obtain⟨q,s,p⟩:=wY (x:=x) m (by omega:t<=20000000) a
 ·refine⟨_,rfl,false,?_⟩;rw[i];exact⟨dZ.nil _ _,eR.nil _,eT.fall h m oG g c hi o q s p⟩
 ·refine⟨l,rfl,true,?_⟩;rw[i];refine⟨?_,xI c.id c.nn m oG a,eT.save (x':=jW x d B) h m oG g (xX c g a) hi o q s p f tr⟩;show dZ w' w.1.size l (fY ((dK x d.du la lo rs tr).tell {AG.Ms.nil with k:=1,e:=d.ep,b:=x.nb' d} (dK x d.du la lo rs tr).others));rw[xJ c.id c.nn];exact n
end
def P4{a:List Int}(h:(a.length:Int)=0):a=[]:=List.length_eq_zero_iff.1 oG
def fV.receive(hSO:fB)(hBW:fH)(hBS:fI){w:World}{P:Pl}{t:Nat}{C:Nat->Prop}{left:Int}{n:AG.Nd}(h:fV w P t C left n)(ht:t+2<=20000000)(m:AG.Ms)(hm:Rl m)(vb:Value)(Q:gU w w.1.size vb m.pk):Calls pG 143 #[P0 (Y ⟨P.Nd,0,Z⟩),vb] w λr w'=>∃l,r=.returned l/\∃ok,gL P t C left n.2 (n.receive m ok) ok l w w':=by
 obtain⟨x,d,fs,la,lo,rs,c,D,K,a,hi,hn,hJ⟩:=h.ex;generalize n.tr=tr at hn hJ;subst hn;have y:pM m.pk m.k m.f m.e m.b m.wa m.p m.s m.q m.bl m.v m.zs 0:=D5 _ _ _ _ _ _ _ _ _ _ _ hm.1 hm.2.1;obtain⟨aA,aE,a0⟩:=pI hm.1;have R:∀w',Bw w w'->(dK x d.du la lo rs tr).receive m true=(dK x d.du la lo rs tr,[])->gL P t C left (dK x d.du la lo rs tr).2 ((dK x d.du la lo rs tr).receive m true) true (J Z 0 0) w w':=by intro w' i he;rw[he];exact⟨dZ.nil _ _,eR.nil _,eT.keep (c.later i) (.of_below i) D K a.next hi hJ⟩
 cases hup:x.5;case true=>refine(MS P.Nd x m.pk vb m.k m.f m.e m.b m.wa m.p m.s m.q m.bl m.v m.zs w c.blk c.tabs Q y hup).mono ?_;rintro r w' ⟨rfl,i⟩;refine⟨_,rfl,true,R w' i ?_⟩;unfold AG.Nd.receive;rw[if_pos (.inl (show x.5=true from hup))]
 case false=>
 by_cases L:m.f=x.id;·refine(E0 P.Nd x m.pk vb m.k m.f m.e m.b m.wa m.p m.s m.q m.bl m.v m.zs w c.blk c.tabs Q y hup (.inl (by simpa using L))).mono ?_;rintro r w' ⟨rfl,i⟩;refine⟨_,rfl,true,R w' i ?_⟩;unfold AG.Nd.receive;rw[if_pos (.inr (.inl (show m.f=x.id from L)))]
 have j:(m.f==x.id)=false:=by simpa using L
 by_cases ac:x.2<=m.f;·refine(E0 P.Nd x m.pk vb m.k m.f m.e m.b m.wa m.p m.s m.q m.bl m.v m.zs w c.blk c.tabs Q y hup (.inr ⟨j,by simpa using ac⟩)).mono ?_;rintro r w' ⟨rfl,i⟩;refine⟨_,rfl,true,R w' i ?_⟩;unfold AG.Nd.receive;rw[if_pos (.inr (.inr (show x.2<=m.f from ac)))]
 have u:decide (x.2<=m.f)=false:=by simpa using ac
 have V:0<=m.f/\m.f<x.2:=oG;have z:Jr fs d x.2 t false tr:=by rw[hup]at hJ;exact hJ
 have E:=λok=>xZ (n:=dK x d.du la lo rs tr) (m:=m) hup L V.2 ok;obtain⟨k,f,e,b,wa,p,s,q,bl,v,o⟩:=m;dsimp only at*;have aj:k=1∨k=2∨k=3∨k=4∨k=5∨k=6∨k=7∨k=8∨k=9∨k=10:=oG;have aF:=a.nn;have aC:=a.id;rcases aj with rfl|rfl|rfl|rfl|rfl|rfl|rfl|rfl|rfl|rfl;·refine vV 1 196 dG P.Nd x _ vb f e b wa p s q bl v o w c.blk c.tabs Q y hup j u (λl W2=>∃ok,gL P t C left x.2 ((dK x d.du la lo rs tr).receive ⟨1,f,e,b,wa,p,s,q,bl,v,o⟩ ok) ok l w W2) ?_;intro W X la' H i M hX N;exact EB hSO hBW hBS c D K a hi z oG hup ⟨1,f,e,b,wa,p,s,q,bl,v,o⟩ hm (.inl rfl) V L i M hX N
 ·have h2:=(sZ _ _ _ _ _ _ _ _ _).1 a0;have hz:=P4 h2.2.2.2.2.2.2.2.2;obtain⟨a1,a2,a3,a4,a5,rfl,rfl,rfl,a9⟩:=h2;subst hz;refine sC 2 197 0 dG P.Nd x _ vb f e b wa p s 0 0 0 [] w c.blk c.tabs Q y hup j u (λl W2=>∃ok,gL P t C left x.2 ((dK x d.du la lo rs tr).receive ⟨2,f,e,b,wa,p,s,0,0,0,[]⟩ ok) ok l w W2) ?_;intro W la' H i N O;have e9:=O rfl;obtain⟨B,ab⟩:∃B,gT x d e b 2=true->x.an=some B:=by
   by_cases F:gT x d e b 2=true;·have h8:=yT.1 F;obtain⟨B,h7⟩:=a.an oG (.inl oG);exact⟨B,λ_=>h7⟩
   ·exact⟨0,λh8=>absurd h8 F⟩
  have ae:0<=(dV (gV x 2 f e b wa p s 0 0 0)).gP/\(dV (gV x 2 f e b wa p s 0 0 0)).gP<=5/\0<=(dV (gV x 2 f e b wa p s 0 0 0)).gS/\(dV (gV x 2 f e b wa p s 0 0 0)).gS<=31:=by
   have ar:Rg (gV x 2 f e b wa p s 0 0 0) la rs t:=by
    unfold gV;cases decide (x.fo.wa<wa);·exact a
    ·exact⟨a.nn,a.id,a.nb,a.ph,a.an,a.g,a.jo,a.ba,a.rf,⟨a3,a4,a5⟩,a.on,a.ops,a.rs,a.la⟩
   have F:=(DB ar).1.g;exact⟨F.1.1,F.1.2,F.2.1,F.2.2⟩
  have am:=a.la;rw[show J la' ([]:List Int).length H=J Z 0 0 from e9];refine(H5 hSO hBW hBS P x d fs left t C la lo rs 2 f e b wa p s 0 0 0 W (c.later i) D oG hup a.nn a.id a.ba ⟨ae.1,ae.2.1⟩ ae.2.2 oG B ab).mono ?_;intro r W1 hq;obtain⟨l,e1,ok,e2⟩:=K2 (tr:=tr) a3 a4 a5 a2.1 D K a hi z oG hup hq;exact⟨l,e1,ok,by rw[(E ok).2.1 rfl];exact e2.pre i⟩
 ·refine vV 3 196 dG P.Nd x _ vb f e b wa p s q bl v o w c.blk c.tabs Q y hup j u (λl W2=>∃ok,gL P t C left x.2 ((dK x d.du la lo rs tr).receive ⟨3,f,e,b,wa,p,s,q,bl,v,o⟩ ok) ok l w W2) ?_;intro W X la' H i M hX N;exact EB hSO hBW hBS c D K a hi z oG hup ⟨3,f,e,b,wa,p,s,q,bl,v,o⟩ hm (.inr rfl) V L i M hX N
 ·have h2:=(tA _ _ _ _ _ _ _ _ _).1 a0;obtain⟨a1,a2,a3,a4,a5,a6,a7,a8,a9⟩:=h2;refine sC 4 198 0 dG P.Nd x _ vb f e b wa p s q bl v o w c.blk c.tabs Q y hup j u (λl W2=>∃ok,gL P t C left x.2 ((dK x d.du la lo rs tr).receive ⟨4,f,e,b,wa,p,s,q,bl,v,o⟩ ok) ok l w W2) ?_;intro W la' H i N O;obtain⟨B,ab⟩:∃B,x.ph=3->x.an=some B:=by
   by_cases F:x.ph=3;·obtain⟨B,h7⟩:=a.an oG (.inr oG);exact⟨B,λ_=>h7⟩
   ·exact⟨0,λh8=>absurd h8 F⟩
  have am:=a.la;refine(H3 hSO hBW hBS P x d fs left t C la lo rs 4 f e b wa p s q bl v la' o.length H W (c.later i) D oG hup a.nn a.id a.g.1 a.g.2 oG B ab).mono ?_;intro r W1 hq;rw[a6]at hq;obtain⟨l,e1,ok,e2⟩:=M2 (tr:=tr) a2.1 D K a hi z oG hup ⟨4,f,e,b,wa,p,s,q,bl,v,o⟩ ⟨rfl,rfl,rfl,rfl⟩ hq;exact⟨l,e1,ok,by rw[(E ok).2.2.1 rfl];exact e2.pre i⟩
 ·have h2:=(tB _ _ _ _ _ _ _ _ _).1 a0;refine sC 5 199 1 dG P.Nd x _ vb f e b wa p s q bl v o w c.blk c.tabs Q y hup j u (λl W2=>∃ok,gL P t C left x.2 ((dK x d.du la lo rs tr).receive ⟨5,f,e,b,wa,p,s,q,bl,v,o⟩ ok) ok l w W2) ?_;intro W la' H i N O;refine(IT P x d fs left (eB t) t C la lo rs 5 f e b wa p s q bl v la' o.length H W (c.later i) D oG).mono ?_;rintro r W1 ⟨rfl,hf,hx⟩;refine⟨_,⟨rfl,rfl⟩,true,?_⟩;rw[(E true).2.2.2.1 rfl,M3];have U:Rg (nW x d e b wa) la rs t/\(nW x d e b wa).2=x.2/\(nW x d e b wa).id=x.id/\(nW x d e b wa).5=x.5:=by
   unfold nW;cases(e==d.ep&&(b==x.ba&&decide (0<b)));·exact⟨a,rfl,rfl,rfl⟩
   ·have aB:=a.rf;have:=h2.2.2.1;exact⟨⟨a.nn,a.id,a.nb,a.ph,a.an,a.g,a.jo,a.ba,by show 0<=(if x.rf<wa then wa else x.rf)/\(if x.rf<wa then wa else x.rf)<=1000000000000;split<;>omega,a.fo,a.on,a.ops,a.rs,a.la⟩,rfl,rfl,rfl⟩
  exact⟨dZ.nil _ _,eR.nil _,(eT.keep hf hx D (by rw[U.2.1];exact K) U.1.next (hi.trans U.2.2.1.symm) (by rw[U.2.2.2,U.2.1,hup];exact z)).pre i⟩
 ·have h2:=(oD _ _ _ _ _ _ _ _ _).1 a0;refine sC 6 200 2 dG P.Nd x _ vb f e b wa p s q bl v o w c.blk c.tabs Q y hup j u (λl W2=>∃ok,gL P t C left x.2 ((dK x d.du la lo rs tr).receive ⟨6,f,e,b,wa,p,s,q,bl,v,o⟩ ok) ok l w W2) ?_;intro W la' H i N O;obtain⟨A,hA,aa,S⟩:=c.1;obtain⟨aw,ak⟩:=uK N;have av:∀ad,la'=some ad->¬A ad.block:=λad ap hh=>absurd (c.lt _ (aa _ hh)).2 (Nat.not_lt.2 (ak ad ap));have af:=c.later i;have aq:=λok=>DA K D.ne (dK x d.du la lo rs tr) rfl ⟨6,f,e,b,wa,p,s,q,bl,v,o⟩ ok;refine(AN hSO hBW hBS P x d fs left t A f e b wa p s q bl v la' o H W (hA.later i) D oG aw av h2.1 hup).mono ?_;rintro r W1 ⟨ok,rfl,hs⟩;refine⟨_,⟨⟨_,rfl⟩,rfl⟩,ok,?_⟩;rw[(E ok).2.2.2.2.1 rfl,aq];dsimp only;have r1:iT ⟨6,f,e,b,wa,p,s,q,bl,v,la',H,o⟩:=⟨hm.1,hm.2.1⟩;have r2:iI 6 bl o.length:=.inr (.inr (.inl rfl));rcases hs with⟨hN,rfl,ai,ax⟩|⟨hN,hs⟩;·obtain⟨t1,t2⟩:=af.turn aa S ai ax rfl rfl rfl;rw[hN];exact⟨dZ.nil _ _,eR.nil _,(eT.keep t1 t2 D K a.next hi (by rw[hup];exact z)).pre i⟩
  ·have r3:(6:Int)=6->e=d.ep/\e<1000000000000:=λ_=>OL K D.ne hN;rw[hN];cases ok;·have au:=af.jk aa S hs rfl rfl rfl;exact⟨dZ.nil _ _,eR.nil _,(eT.fall (x:=x) (la:=la) (lo:=lo) (tr:=tr) au D oG K a hi z r1 r2 r3).pre i⟩
   ·have al:=af.jk aa S hs rfl rfl rfl;exact⟨dZ.nil _ _,eR.nil _,(eT.save (x':=mL x d e p true) al D oG K (EC a e p) hi z r1 r2 r3 hup tr).pre i⟩
 ·refine vV 7 201 dG P.Nd x _ vb f e b wa p s q bl v o w c.blk c.tabs Q y hup j u (λl W2=>∃ok,gL P t C left x.2 ((dK x d.du la lo rs tr).receive ⟨7,f,e,b,wa,p,s,q,bl,v,o⟩ ok) ok l w W2) ?_;intro W X la' H i M hX N;exact E2 hSO hBW hBS c D K a hi z oG hup ⟨7,f,e,b,wa,p,s,q,bl,v,o⟩ hm (.inl rfl) V L i M hX N
 ·have h2:=(tC _ _ _ _ _ _ _ _ _).1 a0;refine sC 8 202 1 dG P.Nd x _ vb f e b wa p s q bl v o w c.blk c.tabs Q y hup j u (λl W2=>∃ok,gL P t C left x.2 ((dK x d.du la lo rs tr).receive ⟨8,f,e,b,wa,p,s,q,bl,v,o⟩ ok) ok l w W2) ?_;intro W la' H i N O;obtain⟨B0,ao⟩:∃B,0<x.on->x.oa=some B:=by
   by_cases F:0<x.on;·obtain⟨B,D⟩:=(a.on F).1;exact⟨B,λ_=>D⟩
   ·exact⟨0,λh8=>absurd h8 F⟩
  have aD:=a.rs;refine(KQ P x d fs left (eB t) t C la lo rs 8 f e b wa p s q bl v la' o.length H B0 W (c.later i) D oG a.nn a.id ao oG).mono ?_;intro r W1 hq;rw[h2.2.2.1]at hq;obtain⟨e1,e2⟩:=JQ (tr:=tr) D K a hi z hup ⟨8,f,e,b,wa,p,s,q,bl,v,o⟩ ⟨rfl,rfl,rfl⟩ hq;exact⟨_,⟨e1,rfl⟩,true,by rw[(E true).2.2.2.2.2.2.1 rfl];exact e2.pre i⟩
 ·refine vV 9 201 dG P.Nd x _ vb f e b wa p s q bl v o w c.blk c.tabs Q y hup j u (λl W2=>∃ok,gL P t C left x.2 ((dK x d.du la lo rs tr).receive ⟨9,f,e,b,wa,p,s,q,bl,v,o⟩ ok) ok l w W2) ?_;intro W X la' H i M hX N;exact E2 hSO hBW hBS c D K a hi z oG hup ⟨9,f,e,b,wa,p,s,q,bl,v,o⟩ hm (.inr rfl) V L i M hX N
 ·refine sC 10 203 0 dG P.Nd x _ vb f e b wa p s q bl v o w c.blk c.tabs Q y hup j u (λl W2=>∃ok,gL P t C left x.2 ((dK x d.du la lo rs tr).receive ⟨10,f,e,b,wa,p,s,q,bl,v,o⟩ ok) ok l w W2) ?_;intro W la' H i N O;have hg:=K.at d.ep;have ag:∀ok,(dK x d.du la lo rs tr).copied ⟨10,f,e,b,wa,p,s,q,bl,v,o⟩ ok=bif pU x d f e q then(dK x d.du la lo rs tr,[]) else(dK ({x with ph:=2}:NB) d.du la lo rs tr).fu ok:=by
   intro ok;unfold AG.Nd.copied pU;show(if x.ph=1/\f=x.jo/\e=d.ep/\q=d.last then _ else _)=_;by_cases F:x.ph=1/\f=x.jo/\e=d.ep/\q=d.last;·rw[if_pos F,show((x.ph != 1)||((f != x.jo)||((e != d.ep)||(q != d.last))))=false by simp[F.1,F.2.1,F.2.2.1,F.2.2.2]];rfl
   ·rw[if_neg F,show((x.ph != 1)||((f != x.jo)||((e != d.ep)||(q != d.last))))=true by rw[←Bool.not_eq_false];intro h8;apply F;simpa using h8];rfl
  cases hcN:pU x d f e q
  ·have aG:x.ph=1:=by unfold pU at hcN;simp at hcN;exact hcN.1
   have ay:Rg ({x with ph:=2}:NB) la rs t:=⟨a.nn,a.id,a.nb,by show(0:Int)<=2/\(2:Int)<=3;decide,λ_ F=>a.an oG (F.imp id (λh8=>absurd h8 (by show¬(3:Int)<=2;decide))),a.g,a.jo,a.ba,a.rf,a.fo,a.on,a.ops,a.rs,a.la⟩;refine(KP hSO hBW hBS P x d fs left t C la lo rs 10 f e b wa p s q bl v la' o.length H W (c.later i) D oG hup a.nn a.id hg.1 a.rf hcN).mono ?_;intro r W1 hq;obtain⟨l,e1,ok,e2⟩:=M4 (x:={x with ph:=2}) (tr:=tr) D K ay hi z oG hup hq;refine⟨l,e1,ok,?_⟩;rw[(E ok).2.2.2.2.2.2.2 rfl,ag,hcN];exact e2.pre i
  ·refine(IU hSO P x d fs left (eB t) t C la lo rs 10 f e b wa p s q bl v la' o.length H W (c.later i) D oG hcN).mono ?_;rintro r W1 ⟨rfl,az⟩;refine⟨_,rfl,true,?_⟩;rw[(E true).2.2.2.2.2.2.2 rfl,ag,hcN];have ah:=i.trans (az.mono i.size);exact⟨dZ.nil _ _,eR.nil _,eT.keep (c.later ah) (.of_below ah) D K a.next hi hJ⟩
def fV.done{w:World}{P:Pl}{t:Nat}{C:Nat->Prop}{left:Int}{n:AG.Nd}(h:fV w P t C left n):Calls pG 129 #[P0 (Y ⟨P.Nd,0,Z⟩)] w λr w'=>∃v,r=.returned v/\fV w' P t C left {n with res:=[]}/\w'.ownsRow P.low 76 5 v n.res.length (n.res.flatMap dO.cells)/\(∀g,v.ownBlock=some g->C g)/\dR C C w w':=by obtain⟨x,d,fs,la,lo,rs,e,m,k,a,hi,c,b⟩:=h.ex;generalize n.tr=tr at c b;subst c;refine(ML P x d fs left (eB t) C la lo rs w e).mono ?_;rintro r w' ⟨rfl,f,i,l⟩;exact⟨x.res,rfl,⟨{x with res:=J Z 0 0},d,fs,la,lo,[],f,m,k,⟨a.nn,a.id,a.nb,a.ph,a.an,a.g,a.jo,a.ba,a.rf,a.fo,a.on,a.ops,sG,a.la⟩,hi,rfl,b⟩,i,λg j=>e.6 g (.inr (.inr j)),l⟩
def fV.recs{w:World}{P:Pl}{t:Nat}{C:Nat->Prop}{left:Int}{n:AG.Nd}(h:fV w P t C left n)(c:t<=20000000):Calls pG 62 #[P0 (Y ⟨P.Nd,0,Z⟩)] w λr w'=>∃v,r=.returned v/\w'.ownsRow w.1.size 66 3 v n.d.recs.length (n.d.recs.flatMap eM.cells)/\Bw w w':=by obtain⟨x,d,fs,la,lo,rs,f,e,g,i,hi,a,b⟩:=h.ex;generalize n.tr=tr at a b;subst a;exact MN P x d fs left (eB t) t C la lo rs w f e c
def fV.om{w:World}{P:Pl}{t:Nat}{C:Nat->Prop}{left:Int}{n:AG.Nd}(h:fV w P t C left n):Calls pG 61 #[P0 (Y ⟨P.Nd,0,Z⟩)] w λr w'=>r=.returned (.bool n.act)/\w'=w:=by
 obtain⟨x,d,fs,la,lo,rs,f,m,k,l,hi,a,j⟩:=h.ex;obtain⟨A,c,i,b⟩:=f.1;have e:n.act=x.act:=by rw[a];rfl
 rw[e];have g:=c.blk.cell 5;simp at g;clear c f a;go_enter func61,ntmps61;go_wp2;go_ret;exact⟨rfl,rfl⟩
def gB.stop{w w':World}{low D H S:Nat}{b:Value}{fs:List FD}{left:Int}{L:Nat}(h:gB w low D H S b fs left L){a:Int}(e:i_ a)(hS:w'.1[S]?=Y (.cells #[b,I a] 98 (0,0)))(c:dM S w w'):gB w' low D H S b fs a L:=by refine⟨h.hands.later (c.block D h.dS) (c.block H h.hS),⟨hS,dW h.ds.row (λg d=>c.block g (λf=>?_))⟩,h.dS,h.hS,e,h.fl,h.bd⟩;have:=h.ds.off dG;rw[f]at d;exact this d
def fV.stop{w:World}{P:Pl}{t:Nat}{C:Nat->Prop}{left:Int}{n:AG.Nd}(h:fV w P t C left n)(k:Int)(W:0<=k/\k<=1000):Calls pG 44 #[P0 (Y ⟨P.H,0,Z⟩),I k] w λr w'=>r=.returned (.tuple #[])/\(∃left',fV w' P t C left' n)/\dR C C w w':=by
 obtain⟨x,d,fs,la,lo,rs,b,hB,V,hR,hi,hn,hJ⟩:=h.ex;obtain⟨A,a,z,y⟩:=b.1;obtain⟨vr,M,h1,m,U⟩:=a.ex;refine(MM P.low P.D P.H P.S M fs left k w m.hands m.ds W.1).mono ?_;rintro r w' ⟨rfl,hS,c⟩;have F:A P.S:=U _ (.inr (.inr (.inr (.inl rfl))));have B:=z _ F;have L:-9223372036854775808<=(bif left==0 then 0 else k)/\(bif left==0 then 0 else k)<=9223372036854775807:=by cases(left==0)<;>simp<;>omega
 have hT:dY w':=b.tabs.below (c.below (b.lt _ B).1) (Nat.le_refl 2);have f:dI w P.S #[M,I left] 98:=⟨m.ds.st⟩;have a0:P.Nd≠P.S:=λu=>by have:=a.blk.blk;rw[u,m.ds.st]at this;simp at this
 have p:w'.1.size=w.1.size:=c.size;have keep:∀{X:Nat} {cs:Array Value} {ty:TypeId},dI w X cs ty->ty≠98->dI w' X cs ty:=by intro X cs ty Q j;refine Q.same (c.block X (λu=>?_));have:=Q.blk;rw[u,m.ds.st]at this;simp at this;exact j this.2.symm
 have E:∀{base:Nat} {e:TypeId} {s n:Nat} {v:Value} {xs:List Value},w.ownsRow base e s v n xs->e≠98->w'.ownsRow base e s v n xs:=by intro base e s n v xs R j;refine dW R (λg q=>c.block g (λu=>?_));obtain⟨a1,O⟩:=fC R q;rw[u,m.ds.st]at O;simp at O;exact j O.2.symm
 have i:∀{o:Option Nat} {l:List Ky},iP w o l->iP w' o l:=by intro o l hm;exact hm.node f c
 have K:eI w' P.low x.St d vr P.Mp P.D:=h1.butG f dG dG c;have N:gI w' P x d fs (bif left==0 then 0 else k) (eB t) A:=⟨keep a.blk dG,⟨vr,M,K,m.stop L hS c,U⟩,a.nd,a.pd,a.ph,a.two,λg q=>by rw[p];exact a.lt g q,by rw[p];exact a.low,hT⟩;refine⟨rfl,⟨_,⟨x,d,fs,la,lo,rs,⟨⟨A,N,z,y⟩,i b.an,i b.oa,b.ne,E b.row dG,b.6,λg q=>by rw[p];exact b.lt g q⟩,hB,V,hR,hi,hn,hJ⟩⟩,dR.node c B⟩
def vE(keep:Int)(a:List UInt8):∀fs:List FD,fQ (dX (fs.map (jH keep)) a)=jH keep (fQ (dX fs a))
 | []=>by simp[dX,fQ,jJ,jH]
 |f::fs=>by
  rw[List.map_cons,iQ,iQ];by_cases h:(f.n==a)=true;·rw[if_pos (show((jH keep f).n==a)=true from h),if_pos h];rfl
  ·rw[if_neg (show¬((jH keep f).n==a)=true from h),if_neg h];exact vE keep a fs
def M5{m:dN}(h:iT m)(k:Nat)(a:k<(fE m).length):pV ((fE m).take k):=by
 have b:=yS h;rw[C1 h]at a⊢;cases k with
 |zero=>exact .inl rfl
 |succ k=>
  refine .inr ⟨_,m.pk.take k,rfl,?_⟩;rw[List.length_take];have:(UInt8.ofNat m.pk.length).toNat=m.pk.length:=by rw[UInt8.toNat_ofNat_of_lt'];simp[UInt8.size];omega
  rw[this];simp at a;omega
def Jr.ny{fs:List FD}{d:SD}{n:Int}{t:Nat}{dn:Bool}{tr:AG.Ms}(h:Jr fs d n t dn tr)(keep:Int):∃ms a,(fQ (dX (fs.map (jH keep)) eY)).d=ms.flatMap fE++a/\(fQ (dX (fs.map (jH keep)) eY)).s=(fQ (dX (fs.map (jH keep)) eY)).d.length/\pV a/\(∀m∈ms,iT m/\iI m.k m.bl m.zs.length)/\ms.length<=3*t+3/\(iL ((fL d.id n 0 true).play ms) d∨(dn=true/\∃m,m.ms=tr/\iT m/\iI m.k m.bl m.zs.length/\(m.k=6->m.e=d.ep/\m.e<1000000000000)/\Kq d.3/\iL ((fL d.id n 0 true).play ms) (d.stepM m)))∨¬Kq d.3:=by
 by_cases g:Kq d.3;case neg=>exact⟨[],[],.inr g⟩
 have hs:(fQ (dX (fs.map (jH keep)) eY)).s=(fQ (dX (fs.map (jH keep)) eY)).d.length:=by rw[vE];rfl
 rcases h.j with⟨ms,a,b,f,o⟩|⟨q,ms,m,b,f,o,u,i,p,v⟩;·refine⟨ms,a,.inl ⟨?_,hs,b.tn,b.re,by have:=b.ln;omega,.inl b.pl⟩⟩;rw[vE];show((fQ (dX fs eY)).d.take _)=_;rw[f,List.take_of_length_le oG];exact b.dt
 ·have l:(fQ (dX (fs.map (jH keep)) eY)).d=ms.flatMap fE++(fE m).take (qZ keep (fQ (dX fs eY))):=by rw[vE];show((fQ (dX fs eY)).d.take ((fQ (dX fs eY)).s+qZ keep (fQ (dX fs eY))))=_;rw[f,o,List.take_append,List.take_of_length_le oG];congr 2;omega
  by_cases r:qZ keep (fQ (dX fs eY))<(fE m).length;·exact⟨ms,_,.inl ⟨l,hs,M5 i _ r,b.re,by have:=b.ln;omega,.inl b.pl⟩⟩
  ·refine⟨ms++[m],[],.inl ⟨?_,hs,.inl rfl,?_,by have:=b.ln;simp;omega,.inr ⟨q,m,u,i,p,v,g,?_⟩⟩⟩;·rw[l,List.take_of_length_le oG];simp
   ·intro z c;rcases List.mem_append.1 c with c|c;·exact b.re z c
    ·simp at c;subst c;exact⟨i,p⟩
   ·rw[sQ];exact b.pl.step (Kq.play _ (pC _ _ _ _)) g m
def Cr(n n':AG.Nd):Prop:=(∃l,n'=(n.fresh n.d).swp l/\∀e,dJ l e=dJ n.d.3 e)∨(n.5=true/\∃l,n'=(n.fresh (n.d.step n.tr)).swp l/\∀e,dJ l e=dJ (n.d.step n.tr).3 e)
@[reducible] def sK(w:World)(n:AG.Nd)(t low D H S B:Nat)(va:Value)(fs:List FD)(ms:List dN)(junk:List UInt8)(d1:SD):Prop:=gB w low D H S va fs (-1) (eB t)/\(∀g,g=D∨g=H∨g=S∨va.ownBlock=some g->B<=g/\g<w.1.size)/\Sf fs/\(fQ (dX fs eY)).d=ms.flatMap fE++junk/\(fQ (dX fs eY)).s=(fQ (dX fs eY)).d.length/\pV junk/\(∀m∈ms,iT m/\iI m.k m.bl m.zs.length)/\ms.length<=3*t+3/\d1=(fL n.id n.2 (ms.length:Int) (junk==[])).play ms/\fS d1 n.2/\BG (t+1) d1/\Cr n (n.fresh d1.du)/\(2<=n.2/\n.2<=5)/\(0<=n.id/\n.id<n.2)/\(1<=n.nb/\n.nb<=4)
def qY(w:World)(n:AG.Nd)(t low D H S B:Nat):Prop:=∃va fs ms junk d1,sK w n t low D H S B va fs ms junk d1
def qY.same{w w':World}{n:AG.Nd}{t low D H S B:Nat}(h:qY w n t low D H S B)(hs:w.1.size<=w'.1.size)(i:∀g,B<=g->g<w.1.size->w'.1[g]?=w.1[g]?):qY w' n t low D H S B:=by obtain⟨e,fs,ms,c,j,b,d,f⟩:=h;have k:∀g,g=D∨g=H∨g=S∨e.ownBlock=some g->w'.1[g]?=w.1[g]?:=λg a=>i g (d g a).1 (d g a).2;exact⟨e,fs,ms,c,j,⟨b.hands.later (k _ (.inl rfl)) (k _ (.inr (.inl rfl))),b.ds.kept (k _ (.inr (.inr (.inl rfl)))) (λg a=>k g (.inr (.inr (.inr a)))),b.dS,b.hS,b.lf,b.fl,b.bd⟩,λg a=>⟨(d g a).1,Nat.lt_of_lt_of_le (d g a).2 hs⟩,f⟩
def P5{a b:SD}(h:iL a b):a.du={b.du with kv:=a.3}:=by
 unfold SD.du;have:a.bk=b.bk:=by funext i;unfold SD.bk;rw[h.b0,h.b1,h.b2,h.b3]
 rw[h.id,h.recs,this,h.seen,h.last]
def P6{a d:SD}{t:Nat}(h:iL a d)(c:Kq a.3)(kd:Kq d.3)(b:BG t d)(g:0<=a.lines)(f:a.lines<=3*(t:Int)+2):BG t a:=by have e:=h.len c kd;exact⟨by rw[h.recs];exact b.ne,by rw[h.recs];exact b.recs,by rw[e];exact b.3,g,f,by rw[h.recs];exact b.re,by rw[h.id];exact b.id⟩
def ON{d:SD}{t:Nat}(h:BG t d)(m:dN)(j:e_ m.e):BG (t+1) (d.stepM m):=by
 obtain⟨s1,s2,s3,s4,s5,s6⟩:=qD d m.k m.e m.b m.p m.s m.q m.bl m.v m.zs;have l:=h.ne;have g:=h.recs;have i:=h.3;have f:=h.l0;have n:=h.l1;unfold SD.stepM;refine⟨oG,oG,oG,by rw[s4];exact f,by rw[s4];omega,λr c=>?_,by rw[s5];exact h.id⟩;rcases s6 r c with a|a;·exact h.re r a
 ·rw[a];omega
def fV.ny{w:World}{P:Pl}{t:Nat}{C:Nat->Prop}{left:Int}{n:AG.Nd}(h:fV w P t C left n)(ht:t<=20000000)(keep:Int):Calls pG 15 #[P0 (Y ⟨P.H,0,Z⟩),I keep] w λr w'=>r=.returned (.tuple #[P0 (Y ⟨w.1.size+1,0,Z⟩),P0 (Y ⟨w.1.size+2,0,Z⟩)])/\qY w' n t w.1.size (w.1.size+1) (w.1.size+2) w.1.size w.1.size/\Bw w w':=by
 obtain⟨x,d,fs,la,lo,rs,hF,X,u,N,hi,W,B⟩:=h.ex;generalize n.tr=tr at W B;subst W;obtain⟨A,hA,a0,O⟩:=hF.nod;obtain⟨vr,va,h1,l,h3⟩:=hA.ex;have hL:eB t<=24000000000:=by unfold eB;omega
 refine(K3 P.low w.1.size P.D P.H P.S va fs left keep (eB t) w l.hands l.ds l.fl l.bd hL B.sf r_).mono ?_;rintro r w' ⟨s,rfl,F,R,q3,q4⟩;refine⟨rfl,?_,q4⟩;have y:∀g,s.ownBlock=some g->g<w'.1.size:=λg i=>(R.row.lt g i).2;have v:w.1.size+1<w'.1.size:=(Array.getElem?_eq_some_iff.1 F.d).1;have L:w.1.size+2<w'.1.size:=(Array.getElem?_eq_some_iff.1 F.h).1;obtain⟨ms,a,E⟩:=B.ny keep;have E:=E.resolve_right (λb=>b u.kn);obtain⟨j1,j2,j3,j4,j5,j6⟩:=E;have M:Sf (fs.map (jH keep)):=by intro f K;obtain⟨g,i,rfl⟩:=List.mem_map.1 K;exact Nat.le_refl _
 have c:Kq ((fL x.id x.2 (ms.length:Int) (a==[])).play ms).3:=Kq.play _ (pC _ _ _ _);have p:d.id=x.id:=hi;have q:iL ((fL x.id x.2 (ms.length:Int) (a==[])).play ms) ((fL d.id x.2 0 true).play ms):=by rw[p];exact(BV _ _ _ _ _ _).play (pC _ _ _ _) (pC _ _ _ _) ms
 have o:((fL x.id x.2 (ms.length:Int) (a==[])).play ms).lines=(ms.length:Int):=(uV ms _).2.1;have j:∃k:SD,iL ((fL x.id x.2 (ms.length:Int) (a==[])).play ms) k/\fS k x.2/\BG (t+1) k/\((k=d)∨(x.5=true/\k.du=d.du.step tr)):=by
  rcases j6 with b|⟨a1,m,a2,U,z,a5,a6,a7⟩;·exact⟨d,q.trans b,u,X.next,.inl rfl⟩
  ·have he:0<=m.e/\m.e<=1000000000000:=by
    obtain⟨_,_,b⟩:=pI U.1;rcases tQ (m:=m) z with c|c|c|c|c<;>rw[c]at b;·exact((nQ _ _ _ _ _ _ _ _ _).1 b).1
    ·exact((nR _ _ _ _ _ _ _ _ _).1 b).1
    ·exact((oD _ _ _ _ _ _ _ _ _).1 b).1
    ·exact((oF _ _ _ _ _ _ _ _ _).1 b).1
    ·exact((oH _ _ _ _ _ _ _ _ _).1 b).1
   exact⟨d.stepM m,q.trans a7,u.step U (tQ (m:=m) z) a5,ON X m he,.inr ⟨a1,by rw[DZ d z,a2]⟩⟩
 obtain⟨k,k1,k2,k3,k4⟩:=j;refine⟨s,fs.map (jH keep),ms,a,_,⟨F,R,oG,oG,dG,by rw[List.length_map];exact l.fl,?_⟩,?_,M,j1,j2,j3,j4,j5,rfl,k2.alk k1 c (PY c),P6 k1 c k2.kn k3 (show 0<=((fL x.id x.2 (ms.length:Int) (a==[])).play ms).lines by rw[o];omega) (show((fL x.id x.2 (ms.length:Int) (a==[])).play ms).lines<=3*((t+1:Nat):Int)+2 by rw[o];omega),?_,N.nn,N.id,N.nb⟩;·intro f K;obtain⟨g,i,rfl⟩:=List.mem_map.1 K;show(g.d.take _).length<=_;rw[List.length_take];have:=l.bd g i;omega
 ·rintro g (rfl|rfl|rfl|i);·exact⟨oG,v⟩
  ·exact⟨oG,L⟩
  ·exact⟨oG,oG⟩
  ·exact⟨q3 g i,y g i⟩
 ·have Q:=P5 k1;rw[show(dK x d.du la lo rs tr).id=x.id from rfl,show(dK x d.du la lo rs tr).2=x.2 from rfl];rcases k4 with rfl|⟨k5,V⟩;·left;refine⟨_,?_,λe=>k1.vt e⟩;rw[Q];rfl
  ·right;refine⟨k5,_,?_,λe=>(k1.vt e).trans ?_⟩;·rw[Q,V];rfl
   ·show dJ k.du.3 e=_;rw[V];rfl
structure fN(w:World)(Kn:Nat)(P:Pl)(t:Nat)(C:Nat->Prop)(left:Int)(n:AG.Nd):Prop where
 blk:dI w Kn (kA 0 P.Nd) 134
 nd:fV w P t C left n
 ne:¬C Kn
 two:2<=Kn
def sK.new{w:World}{n:AG.Nd}{t low D H S B:Nat}{W:Value}{fs:List FD}{ms:List dN}{a:List UInt8}{q:SD}(h:sK w n t low D H S B W fs ms a q)(ht:t+1<=20000000)(R:dY w)(s:low<=w.1.size)(K:2<=B):Calls pG 66 #[I n.id,I n.2,I n.nb,P0 (Y ⟨D,0,Z⟩)] w λr w'=>∃Kn Nd Mp C',r=.returned (.tuple #[P0 (Y ⟨Kn,0,Z⟩),I 0])/\fN w' Kn ⟨low,Nd,Mp,D,H,S⟩ (t+1) C' (-1) (n.fresh q.du)/\(∀g,C' g∨g=Kn->B<=g)/\Bw w w':=by
 obtain⟨h1,i,h3,d,h5,X,F,h8,b,E,v,a0,y,j,p⟩:=h;have hL:eB t<=24000000000:=by unfold eB;omega
 have hS:∃l:Int,((n.2=2/\l=3)∨(n.2=3/\l=7)∨(n.2=4/\l=15)∨(n.2=5/\l=31))/\fL n.id n.2 (ms.length:Int) (a==[])=⟨n.id,[⟨0,0,l⟩],[],0,0,0,0,0,0,(ms.length:Int),a==[]⟩:=by
  have d:n.2=2∨n.2=3∨n.2=4∨n.2=5:=oG;rcases d with d|d|d|d<;>rw[d];·exact⟨3,sG,rfl⟩
  ·exact⟨7,sG,rfl⟩
  ·exact⟨15,sG,rfl⟩
  ·exact⟨31,sG,rfl⟩
 obtain⟨l,N,u⟩:=hS;have A:∀m∈ms,iI m.k m.bl m.zs.length/\0<=m.e/\m.e<=1000000000000:=by
  intro m Q;have f:=F m Q;obtain⟨_,_,c⟩:=pI f.1.1;refine⟨f.2,?_⟩;rcases tQ (m:=m) f.2 with o|o|o|o|o<;>rw[o]at c;·exact((nQ _ _ _ _ _ _ _ _ _).1 c).1
  ·exact((nR _ _ _ _ _ _ _ _ _).1 c).1
  ·exact((oD _ _ _ _ _ _ _ _ _).1 c).1
  ·exact((oF _ _ _ _ _ _ _ _ _).1 c).1
  ·exact((oH _ _ _ _ _ _ _ _ _).1 c).1
 have L:=v.recs;rw[b,u]at L;refine(M6 low n.id n.2 n.nb l D H S W fs (-1) (eB t) ms a w h1 dG hL s R N j.1 j.2 p.1 p.2 d (λm Q=>(F m Q).1) X oG A oG (λg C=>Nat.le_trans K (i g C).1)).mono ?_;rintro r w' ⟨Kn,Nd,rfl,o,a1,a2,St,Mp,C',V,hC,O,hb⟩;rw[←u,←b]at V;have hR:Rg (nX n.id n.2 n.nb St) [] [] (t+1):=⟨y,j,p,by show(0:Int)<=0/\(0:Int)<=3;decide,λb _=>absurd b (by show¬(1:Int)<=0;decide),by show((0:Int)<=0/\(0:Int)<=5)/\((0:Int)<=0/\(0:Int)<=31);decide,by show(0:Int)<=0/\0<n.2;omega,by show(0:Int)<=0/\(0:Int)<=_;decide,by show(0:Int)<=0/\(0:Int)<=_;decide,by show((0:Int)<=0/\(0:Int)<=_)/\((0:Int)<=0/\(0:Int)<=_)/\((0:Int)<=0/\(0:Int)<=_);decide,λb=>absurd b (by show¬(0:Int)<0;decide),by show(0:Int)<=0/\(0:Int)<=_;omega,sG,sG⟩;have x:q.id=n.id:=by rw[b];exact(uV ms _).1
 have M:q.wh=(a==[]):=by rw[b];exact(uV ms _).2.2
 have z:iL ((fL q.id n.2 0 true).play ms) q:=by rw[x,b];exact(BV _ _ _ _ _ _).play (pC _ _ _ _) (pC _ _ _ _) ms
 refine⟨Kn,Nd,Mp,C',rfl,⟨o,⟨nX n.id n.2 n.nb St,q,fs,[],[],[],V.mono (xT t),v,E,hR,x,rfl,⟨h3,.inl ⟨ms,a,⟨d,F,X,oG,z⟩,h5,λ_ U=>?_⟩⟩⟩,λhh=>absurd (O _ hh) (Nat.lt_irrefl _),?_⟩,?_,hb⟩;·rw[M]at U;exact eq_of_beq U
 ·have:=R.two;omega
 ·rintro g (C|rfl)
  ·rcases hC g C with b|b|b|b|b;·exact(i g (.inl b)).1
   ·exact(i g (.inr (.inl b))).1
   ·exact(i g (.inr (.inr (.inl b)))).1
   ·exact(i g (.inr (.inr (.inr b)))).1
   ·have:=i D (.inl rfl);omega
  ·have:=i D (.inl rfl);omega
def qY.new{w:World}{n:AG.Nd}{t low D H S B:Nat}(h:qY w n t low D H S B)(e:t+1<=20000000)(i:dY w)(a:low<=w.1.size)(b:2<=B):Calls pG 66 #[I n.id,I n.2,I n.nb,P0 (Y ⟨D,0,Z⟩)] w λr w'=>∃Kn Nd Mp C' n',r=.returned (.tuple #[P0 (Y ⟨Kn,0,Z⟩),I 0])/\fN w' Kn ⟨low,Nd,Mp,D,H,S⟩ (t+1) C' (-1) n'/\Cr n n'/\(∀g,C' g∨g=Kn->B<=g)/\Bw w w':=by obtain⟨k,fs,ms,c,l,h⟩:=h;refine(sK.new h e i a b).mono ?_;rintro r w' ⟨Kn,Nd,Mp,C',j,d,f⟩;exact⟨Kn,Nd,Mp,C',_,j,d,h.2.2.2.2.2.2.2.2.2.2.2.1,f⟩
end Go.Proofs.YtdcainmlcpafbaaGreatDoor
