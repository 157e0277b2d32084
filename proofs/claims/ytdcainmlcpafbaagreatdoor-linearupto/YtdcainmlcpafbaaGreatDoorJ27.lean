import Derived.Test.YtdcainmlcpafbaaGreatDoorJ26
import Derived.Test.YtdcainmlcpafbaaGreatDoorJ28
set_option linter.all false
set_option maxHeartbeats 4000000
set_option maxRecDepth 20000
namespace Go.Proofs.YtdcainmlcpafbaaGreatDoor
open Go.RowKit
open Value renaming slice->J,pointer->P0
open Tryz renaming prog->pG
open IntKind renaming i64->T
open Option renaming none->Z,some->Y
open Obj renaming cells->G
open Value (bool)
section
variable {w w':World} {P:Pl} {x x':NB} {d:SD} {fs:List FD} {left:Int} {t:Nat} {C C':Nat->Prop} {la lo la' lo':List Ky} {rs rs':List dJ} {tr:AG.Ms}
def MV{n:Int}(b:fN d n)(a:0<d.recs.length){e p s:Int}(h:kI d e p s=true):e=d.ep/\e<1000000000000:=by unfold kI kU lR at h;simp only[Bool.and_eq_true,decide_eq_true_eq]at h;have:=(oX b a).1;omega
def MW{n:Int}(b:fN d n)(a:0<d.recs.length)(e p s:Int)(y:AG.Nd)(hy:y.d=d.du):AG.folB (y.d.rc y.d.ep) (e+1) p s=kI d e p s:=by rw[hy];exact C3 b a (e+1) p s
def B7{n:Int}(b:fN d n)(a:0<d.recs.length)(y:AG.Nd)(hy:y.d=d.du)(m:AG.Ms)(ok:Bool):y.decided m ok=bif kI d m.e m.p m.s then(bif ok then({(y.save m true).stand with act:=d.takes (m.e+1) m.p},true) else(y.fall m,false)) else(y,false):=by
 unfold AG.Nd.decided;rw[MW b a m.e m.p m.s y hy,hy,B1];cases kI d m.e m.p m.s;·rfl
 ·cases ok<;>rfl
def DD(a:Rg x la rs t)(e p:Int):Rg (mB x d e p true) [] rs (t+1):=a.stand.next.act (d.takes (e+1) p) x.down
def JS{r:Ending}{u:List Ky}(m:BG t d)(n:fN d x.nodes)(a:Rg x u rs t)(hi:d.id=x.id)(q:Jr fs d x.nodes t false tr)(M:t+1<=1000000)(i:x.down=false)(H:lW P x d fs left t C lo rs r w w'):∃l,r=.returned l/\∃ok,gJ P t C left x.nodes ((dD x d.du la lo rs tr).conclude ok) ok l w w':=by
 have O:=p9 m (by omega:t<=1000000);have L:=a.id;have K:=a.nn;have c:∀ok,(dD x d.du la lo rs tr).conclude ok=((AG.Nd.decided (dD (gN x) d.du [] lo rs tr) (gW x d).ms ok).1,if(AG.Nd.decided (dD (gN x) d.du [] lo rs tr) (gW x d).ms ok).2=true then(dD x d.du la lo rs tr).tell (gW x d).ms (dD x d.du la lo rs tr).others else[]):=λok=>rfl;have b:=λok=>B7 n m.ne (dD (gN x) d.du [] lo rs tr) rfl (gW x d).ms ok;have o:fH 6 0 [0,d.ep,0,0,x.gP,x.gS,0,0,0,0]=true:=rF 0 d.ep x.gP x.gS dG oG a.g.1 a.g.2;have B:iP (gW x d):=⟨o,by intro z y;exact absurd y (by simp[gW])⟩;have D:iE (gW x d).k (gW x d).bl (gW x d).zs.length:=.inr (.inr (.inl rfl));have A:(gW x d).k=6->(gW x d).e=d.ep/\(gW x d).e<1000000000000:=λ_=>⟨rfl,by show d.ep<_;omega⟩;have f:Rg (gN x) [] rs t:=⟨a.nn,a.id,a.nb,by show(0:Int)<=0/\(0:Int)<=3;decide,λv _=>absurd v (by show¬(1:Int)<=0;decide),by show((0:Int)<=0/\(0:Int)<=5)/\((0:Int)<=0/\(0:Int)<=31);decide,by show(0:Int)<=0/\0<x.nodes;omega,by show(0:Int)<=0/\(0:Int)<=_;decide,by show(0:Int)<=0/\(0:Int)<=_;decide,by show((0:Int)<=0/\(0:Int)<=_)/\((0:Int)<=0/\(0:Int)<=_)/\((0:Int)<=0/\(0:Int)<=_);decide,a.on,a.ops,a.rs,sG⟩;rcases H with⟨N,j,rfl,h,F⟩|⟨j,rfl,h⟩|⟨l,j,rfl,E,h⟩;·refine⟨_,rfl,true,?_⟩;rw[c,b,show kI d (gW x d).ms.e (gW x d).ms.p (gW x d).ms.s=false from j];exact⟨dY.nil _ _,eM.nil _,eP.keep h F m n f.next hi (by rw[show(gN x).down=false from i];exact q)⟩
 ·refine⟨_,rfl,false,?_⟩;rw[c,b,show kI d (gW x d).ms.e (gW x d).ms.p (gW x d).ms.s=true from j];exact⟨dY.nil _ _,eM.nil _,eP.fall (x:=gN x) (la:=[]) (lo:=lo) (tr:=tr) h m oG n f hi q B D A⟩
 ·refine⟨l,rfl,true,?_⟩;rw[c,b,show kI d (gW x d).ms.e (gW x d).ms.p (gW x d).ms.s=true from j];refine⟨?_,?_,eP.save (x':=mB (gN x) d d.ep x.gP true) h m oG n (DD f d.ep x.gP) hi q B D A i tr⟩;·show dY w' w.heap.size l (fS ((dD x d.du la lo rs tr).tell (gW x d).ms (dD x d.du la lo rs tr).others));rw[tN x a.nn a.id (dD x d.du la lo rs tr) rfl rfl (gW x d).ms];exact E
  ·exact tT (dD x d.du la lo rs tr) (gW x d).ms ⟨rF x.id d.ep x.gP x.gS oG oG a.g.1 a.g.2,by intro z y;exact absurd y (by simp[gW,dK.ms]),λv=>absurd v (by show¬(6:Int)=9;decide)⟩
def B9(a:Rg x la rs t):Rg (dU x) la rs t/\(dU x).id=x.id/\(dU x).nodes=x.nodes/\(dU x).down=x.down/\(dU x).ba=x.ba:=by
 unfold dU;cases decide (0<x.fo.wa);·exact⟨a,rfl,rfl,rfl,rfl⟩
 ·exact⟨⟨a.nn,a.id,a.nb,a.ph,a.an,a.fo.2,a.jo,a.ba,a.rf,a.fo,a.on,a.ops,a.rs,a.la⟩,rfl,rfl,rfl,rfl⟩
def JT(u:AG.Du):(if 0<(dD x u la lo rs tr).fo.wa then({dD x u la lo rs tr with gP:=(dD x u la lo rs tr).fo.p,gS:=(dD x u la lo rs tr).fo.s}:AG.Nd) else dD x u la lo rs tr)=dD (dU x) u la lo rs tr:=by
 unfold dU;show(if 0<x.fo.wa then _ else _)=_;by_cases h:0<x.fo.wa;·rw[if_pos h,decide_eq_true h];rfl
 ·rw[if_neg h,decide_eq_false h];rfl
def JU(h:0<=x.ba)(i:x.down=false)(j:(dU x).id=x.id)(f:(dU x).ba=x.ba)(dA:(dU x).down=x.down)(ok:Bool):(dD x d.du la lo rs tr).ig ok=bif iZ d 3 d.ep x.ba (dU x).gP (dU x).gS then(bif ok then({dD (dU x) (d.du.step (gC x d).ms) (mN x d) lo rs tr with ph:=3},(dD (dU x) d.du la lo rs tr).tell (gC x d).ms (dD (dU x) d.du la lo rs tr).others) else((dD (dU x) d.du la lo rs tr).fall (gC x d).ms,[])) else({dD (dU x) d.du (mN x d) lo rs tr with ph:=3},(dD (dU x) d.du la lo rs tr).tell (gC x d).ms (dD (dU x) d.du la lo rs tr).others):=by
 unfold AG.Nd.ig;rw[JT];have m:({AG.Ms.nil with k:=3,e:=(dD (dU x) d.du la lo rs tr).d.ep,b:=(dD (dU x) d.du la lo rs tr).ba,p:=(dD (dU x) d.du la lo rs tr).gP,s:=(dD (dU x) d.du la lo rs tr).gS}:AG.Ms)=(gC x d).ms:=by show({AG.Ms.nil with k:=3,e:=d.ep,b:=(dU x).ba,p:=(dU x).gP,s:=(dU x).gS}:AG.Ms)=_;rw[f];rfl
 dsimp only;rw[m,AX (gC x d).ms (.inr rfl) ok];have n:∀b:Bool,(eJ d 3 d.ep x.ba).k=4->(eJ d 3 d.ep x.ba).e=d.ep/\(eJ d 3 d.ep x.ba).b=x.ba/\(eJ d 3 d.ep x.ba).q=0:=by
  intro _;unfold eJ;split;·intro g;exact absurd g (by show¬(6:Int)=4;decide)
  split;·intro g;exact absurd g (by show¬(5:Int)=4;decide)
  split;·intro _;exact⟨rfl,rfl,rfl⟩
  ·next g=>exact absurd rfl g
 have l:(if(eJ d 3 d.ep x.ba).ms.k=4 then[((4:Int),d.ep,(dU x).ba,(dU x).id)] else[])=mN x d:=by
  unfold mN;by_cases a:(eJ d 3 d.ep x.ba).k=4;·rw[if_pos (show(eJ d 3 d.ep x.ba).ms.k=4 from a),show((eJ d 3 d.ep x.ba).k==4)=true by simpa using a,cond_true];obtain⟨a1,o,u⟩:=n true a;rw[a1,o,u,a,j,f,Int.max_eq_left h];rfl
  ·rw[if_neg (show¬(eJ d 3 d.ep x.ba).ms.k=4 from a),show((eJ d 3 d.ep x.ba).k==4)=false by simpa using a];rfl
 have t:iZ d (gC x d).ms.k (gC x d).ms.e (gC x d).ms.b (gC x d).ms.p (gC x d).ms.s=iZ d 3 d.ep x.ba (dU x).gP (dU x).gS:=rfl;have r:eJ d (gC x d).ms.k (gC x d).ms.e (gC x d).ms.b=eJ d 3 d.ep x.ba:=rfl;rw[t,r];have c:¬(dD (dU x) d.du la lo rs tr).down=true:=by show¬(dU x).down=true;rw[dA,i];simp
 cases iZ d 3 d.ep x.ba (dU x).gP (dU x).gS;·simp only[cond_false];rw[if_neg c];rw[←l];rfl
 ·cases ok;·simp only[cond_false,cond_true];rw[if_pos (show((dD (dU x) d.du la lo rs tr).fall (gC x d).ms).down=true from rfl)]
  ·simp only[cond_true];rw[if_neg (show¬((dD (dU x) d.du la lo rs tr).save (gC x d).ms true).down=true from c)];rw[←l];rfl
def JV{r:Ending}{n:List Ky}(y:BG t d)(Q:fN d x.nodes)(v:Rg x n rs t)(hi:d.id=x.id)(W:Jr fs d x.nodes t false tr)(ht:t+1<=1000000)(h:x.down=false)(R:mC P x d fs left t C lo rs r w w'):∃l,r=.returned l/\∃ok,gJ P t C left x.nodes ((dD x d.du la lo rs tr).ig ok) ok l w w':=by
 have he:=p9 y (by omega:t<=1000000);have E:=v.id;have D:=v.nn;have f:=v.ba;obtain⟨a,j,u,F,V⟩:=B9 v;have p:=λok=>JU (x:=x) (d:=d) (la:=la) (lo:=lo) (rs:=rs) (tr:=tr) f.1 h j V F ok;have K:iP (gC x d):=⟨uY 0 d.ep x.ba _ _ dG oG f a.g.1 a.g.2,by intro z A;exact absurd A (by simp[gC])⟩;have N:iE (gC x d).k (gC x d).bl (gC x d).zs.length:=.inr (.inl rfl);have H:(gC x d).k=6->(gC x d).e=d.ep/\(gC x d).e<1000000000000:=λq=>absurd q (by show¬(3:Int)=6;decide);have i:fN d (dU x).nodes:=by rw[u];exact Q
 have c:Jr fs d (dU x).nodes t false tr:=by rw[u];exact W
 have O:(mN x d).length<=1:=by
  unfold mN;cases(eJ d 3 d.ep x.ba).k==4;·simp
  ·simp[i7]
 have m:∀B,Rg (pZ x B) (mN x d) rs (t+1):=by intro B;have ho:=a.ops;have M:=a.rs;exact⟨a.nn,a.id,a.nb,by show(0:Int)<=3/\(3:Int)<=3;decide,λ_ _=>⟨B,rfl⟩,a.g,a.jo,a.ba,a.rf,a.fo,a.on,by show 0<=(dU x).ops/\(dU x).ops<=((t+1:Nat):Int);omega,oG,oG⟩
 have o:eM x.nodes ((dD (dU x) d.du la lo rs tr).tell (gC x d).ms (dD (dU x) d.du la lo rs tr).others):=by have:=tT (dD (dU x) d.du la lo rs tr) (gC x d).ms ⟨by show fH 3 (dU x).id [0,d.ep,x.ba,0,(dU x).gP,(dU x).gS,0,0,0,0]=true;rw[j];exact uY x.id d.ep x.ba _ _ oG oG f a.g.1 a.g.2,by intro z A;exact absurd A (by simp[gC,dK.ms]),λq=>absurd q (by show¬(3:Int)=9;decide)⟩;rw[←u];exact this
 have s:fS ((dD (dU x) d.du la lo rs tr).tell (gC x d).ms (dD (dU x) d.du la lo rs tr).others)=fT (kC x) (gO 3 x.id d.ep x.ba 0 (dU x).gP (dU x).gS 0 0 0 []) x.nodes.toNat:=tN x D E (dD (dU x) d.du la lo rs tr) j u (gC x d).ms;rcases R with⟨S,rfl,b⟩|⟨B,l,rfl,L,b⟩;·refine⟨_,rfl,false,?_⟩;rw[p,S];exact⟨dY.nil _ _,eM.nil _,eP.fall (x:=dU x) (la:=n) (lo:=lo) (tr:=tr) b y oG i a (hi.trans j.symm) c K N H⟩
 ·refine⟨l,rfl,true,?_⟩;rw[p];cases hN:iZ d 3 d.ep x.ba (dU x).gP (dU x).gS
  ·rw[hN]at b;obtain⟨d',fs',left',L',C2,M,b,X⟩:=b;rcases M with⟨_,e1,U,e3,e4⟩|⟨q,_⟩;·rw[e1,U,e3,e4]at b;refine⟨by show dY w' w.heap.size l (fS ((dD (dU x) d.du la lo rs tr).tell (gC x d).ms (dD (dU x) d.du la lo rs tr).others));rw[s];exact L,o,?_⟩;exact eP.keep (x':=pZ x B) b X y i (m B) (hi.trans j.symm) (by rw[show(pZ x B).down=false from F.trans h];exact c)
   ·exact absurd q sG
  ·rw[hN]at b;refine⟨by show dY w' w.heap.size l (fS ((dD (dU x) d.du la lo rs tr).tell (gC x d).ms (dD (dU x) d.du la lo rs tr).others));rw[s];exact L,o,?_⟩;exact eP.save (x':=pZ x B) (wE b) y oG i (m B) (hi.trans j.symm) c K N H (F.trans h) tr
end
section
variable {w w':World} {P:Pl} {x x':NB} {d:SD} {fs:List FD} {left:Int} {t:Nat} {C C':Nat->Prop} {la lo la' lo':List Ky} {rs rs':List dJ} {tr:AG.Ms}
def xV{e b a:Int}:gQ x d e b a=true↔x.ph=a/\e=d.ep/\b=x.ba/\0<b:=by unfold gQ;simp[and_assoc]
def JW{r:Ending}{f e b wa p s:Int}(O:e_ wa)(Q:0<=p/\p<=5)(hs:0<=s/\s<=31)(B:0<=b)(H:BG t d)(z:fN d x.nodes)(h:Rg x la rs t)(hi:d.id=x.id)(D:Jr fs d x.nodes t false tr)(M:t+1<=1000000)(m:x.down=false)(N:pK P x d fs left t C la lo rs 2 f e b wa p s 0 0 0 r w w'):∃l,r=.returned l/\∃ok,gJ P t C left x.nodes ((dD x d.du la lo rs tr).promised ⟨2,f,e,b,wa,p,s,0,0,0,[]⟩ ok) ok l w w':=by
 have A:iQ 2 f e b 0=(2,e,b,f):=by unfold iQ;rw[Int.max_eq_left B]
 have U:=h.la;have i:((dD x d.du la lo rs tr).ph=2/\(dD x d.du la lo rs tr).qh ⟨2,f,e,b,wa,p,s,0,0,0,[]⟩/\((2:Int),e,b,f)∉(dD x d.du la lo rs tr).an)↔(gQ x d e b 2&&!decide (iQ 2 f e b 0∈la))=true:=by rw[Bool.and_eq_true,xV,A];show(x.ph=2/\(e=d.ep/\b=x.ba/\0<b)/\(2,e,b,f)∉la)↔_;simp[and_assoc]
 have y:({dD x d.du la lo rs tr with fo:=if(dD x d.du la lo rs tr).fo.wa<wa then⟨2,f,e,b,wa,p,s,0,0,0,[]⟩ else(dD x d.du la lo rs tr).fo,an:=(dD x d.du la lo rs tr).an++[(2,e,b,f)]}:AG.Nd)=dD (gT x 2 f e b wa p s 0 0 0) d.du (la++[(2,e,b,f)]) lo rs tr:=by
  unfold gT;show({dD x d.du la lo rs tr with fo:=if x.fo.wa<wa then⟨2,f,e,b,wa,p,s,0,0,0,[]⟩ else x.fo.ms,an:=la++[(2,e,b,f)]}:AG.Nd)=_;by_cases a:x.fo.wa<wa;·rw[if_pos a,decide_eq_true a];rfl
  ·rw[if_neg a,decide_eq_false a];rfl
 have k:(gQ x d e b 2&&!decide (iQ 2 f e b 0∈la))=true->iR x d la 2 f e b 0 2=la++[(2,e,b,f)]:=by intro a;rw[Bool.and_eq_true]at a;unfold iR i7;rw[a.1,cond_true,A];rw[A]at a;rw[if_neg (by simpa using a.2)]
 have o:Rg (gT x 2 f e b wa p s 0 0 0) la rs t:=by
  unfold gT;cases decide (x.fo.wa<wa);·exact h
  ·exact⟨h.nn,h.id,h.nb,h.ph,h.an,h.g,h.jo,h.ba,h.rf,⟨O,Q,hs⟩,h.on,h.ops,h.rs,h.la⟩
 have c:(gT x 2 f e b wa p s 0 0 0).nodes=x.nodes/\(gT x 2 f e b wa p s 0 0 0).id=x.id/\(gT x 2 f e b wa p s 0 0 0).down=x.down:=by unfold gT;cases decide (x.fo.wa<wa)<;>exact⟨rfl,rfl,rfl⟩
 have n:∀ok,(dD x d.du la lo rs tr).promised ⟨2,f,e,b,wa,p,s,0,0,0,[]⟩ ok=if(dD x d.du la lo rs tr).ph=2/\(dD x d.du la lo rs tr).qh ⟨2,f,e,b,wa,p,s,0,0,0,[]⟩/\((2:Int),e,b,f)∉(dD x d.du la lo rs tr).an then(if x.nodes<2*((la++[((2:Int),e,b,f)]).length:Int) then(dD (gT x 2 f e b wa p s 0 0 0) d.du (la++[(2,e,b,f)]) lo rs tr).ig ok else(dD (gT x 2 f e b wa p s 0 0 0) d.du (la++[(2,e,b,f)]) lo rs tr,[])) else(dD x d.du la lo rs tr,[]):=by intro ok;rw[←y];rfl
 rcases N with⟨j,rfl,q,F⟩|⟨j,u,rfl,q,F⟩|⟨j,K⟩
 ·refine⟨_,rfl,true,?_⟩;rw[n,if_neg (λa=>by rw[i.1 a]at j;exact absurd j sG)];have R:iR x d la 2 f e b 0 2=la:=by
   unfold iR i7;cases K:gQ x d e b 2;·rfl
   ·rw[K,Bool.true_and,Bool.not_eq_false',decide_eq_true_eq]at j;rw[cond_true,if_pos j]
  rw[R]at q;exact⟨dY.nil _ _,eM.nil _,eP.keep q F H z h.next hi (by rw[m];exact D)⟩
 ·refine⟨_,rfl,true,?_⟩;rw[k u]at q;have E:¬x.nodes<2*((la++[((2:Int),e,b,f)]).length:Int):=by unfold kJ at j;rw[u,Bool.true_and,k u,decide_eq_false_iff_not]at j;exact j
  rw[n,if_pos (i.2 u),if_neg E];refine⟨dY.nil _ _,eM.nil _,eP.keep q F H (by rw[c.1];exact z) ?_ (hi.trans c.2.1.symm) (by rw[c.2.2,c.1,m];exact D)⟩;have a:=o.next;exact⟨a.nn,a.id,a.nb,a.ph,a.an,a.g,a.jo,a.ba,a.rf,a.fo,a.on,a.ops,a.rs,by simp;omega⟩
 ·have v:(gQ x d e b 2&&!decide (iQ 2 f e b 0∈la))=true:=by unfold kJ at j;rw[Bool.and_eq_true]at j;exact j.1
  have E:x.nodes<2*((la++[((2:Int),e,b,f)]).length:Int):=by unfold kJ at j;rw[v,Bool.true_and,k v,decide_eq_true_eq]at j;exact j
  obtain⟨l,S,ok,L⟩:=JV (x:=gT x 2 f e b wa p s 0 0 0) (la:=la++[(2,e,b,f)]) (tr:=tr) H (by rw[c.1];exact z) o (hi.trans c.2.1.symm) (by rw[c.1];exact D) M (c.2.2.trans m) K;rw[c.1]at L;refine⟨l,S,ok,?_⟩;rw[n,if_pos (i.2 v),if_pos E];exact L
def LK{r:Ending}{f e b:Int}(p:0<=b)(z:BG t d)(v:fN d x.nodes)(o:Rg x la rs t)(hi:d.id=x.id)(q:Jr fs d x.nodes t false tr)(H:t+1<=1000000)(j:x.down=false)(m:AG.Ms)(K:m.k=4/\m.f=f/\m.e=e/\m.b=b)(L:rO P x d fs left t C la lo rs 4 f e b 0 r w w'):∃l,r=.returned l/\∃ok,gJ P t C left x.nodes ((dD x d.du la lo rs tr).accepted m ok) ok l w w':=by
 obtain⟨N,rfl,rfl,rfl⟩:=K;have y:iQ 4 m.f m.e m.b 0=(4,m.e,m.b,m.f):=by unfold iQ;rw[Int.max_eq_left p]
 have O:=o.la;have c:((dD x d.du la lo rs tr).ph=3/\(dD x d.du la lo rs tr).qh m/\((4:Int),m.e,m.b,m.f)∉(dD x d.du la lo rs tr).an)↔(gQ x d m.e m.b 3&&!decide (iQ 4 m.f m.e m.b 0∈la))=true:=by rw[Bool.and_eq_true,xV,y];show(x.ph=3/\(m.e=d.ep/\m.b=x.ba/\0<m.b)/\(4,m.e,m.b,m.f)∉la)↔_;simp[and_assoc]
 have i:(gQ x d m.e m.b 3&&!decide (iQ 4 m.f m.e m.b 0∈la))=true->iR x d la 4 m.f m.e m.b 0 3=la++[(4,m.e,m.b,m.f)]:=by intro a;rw[Bool.and_eq_true]at a;unfold iR i7;rw[a.1,cond_true,y];rw[y]at a;rw[if_neg (by simpa using a.2)]
 have A:Rg x (la++[(4,m.e,m.b,m.f)]) rs (t+1):=by have a:=o.next;exact⟨a.nn,a.id,a.nb,a.ph,a.an,a.g,a.jo,a.ba,a.rf,a.fo,a.on,a.ops,a.rs,by simp;omega⟩
 unfold AG.Nd.accepted;rcases L with⟨h,rfl,n,D⟩|⟨h,B⟩
 ·refine⟨_,rfl,true,?_⟩;cases h2:(gQ x d m.e m.b 3&&!decide (iQ 4 m.f m.e m.b 0∈la))
  ·rw[if_neg (λa=>by rw[c.1 a]at h2;exact absurd h2 sG)];have E:iR x d la 4 m.f m.e m.b 0 3=la:=by
    unfold iR i7;cases B:gQ x d m.e m.b 3;·rfl
    ·rw[B,Bool.true_and,Bool.not_eq_false',decide_eq_true_eq]at h2;rw[cond_true,if_pos h2]
   rw[E]at n;exact⟨dY.nil _ _,eM.nil _,eP.keep n D z v o.next hi (by rw[j];exact q)⟩
  ·rw[if_pos (c.2 h2)];rw[i h2]at n;have u:¬x.nodes<2*((la++[((4:Int),m.e,m.b,m.f)]).length:Int):=by unfold kJ at h;rw[h2,Bool.true_and,i h2,decide_eq_false_iff_not]at h;exact h
   show gJ P t C left x.nodes (if x.nodes<2*((la++[((4:Int),m.e,m.b,m.f)]).length:Int) then _ else _) true _ w w';rw[if_neg u];exact⟨dY.nil _ _,eM.nil _,eP.keep n D z v A hi (by rw[j];exact q)⟩
 ·have s:(gQ x d m.e m.b 3&&!decide (iQ 4 m.f m.e m.b 0∈la))=true:=by unfold kJ at h;rw[Bool.and_eq_true]at h;exact h.1
  obtain⟨l,M,ok,F⟩:=JS (la:=la++[(4,m.e,m.b,m.f)]) (tr:=tr) z v o hi q H j B;refine⟨l,M,ok,?_⟩;rw[if_pos (c.2 s)];have u:x.nodes<2*((la++[((4:Int),m.e,m.b,m.f)]).length:Int):=by unfold kJ at h;rw[s,Bool.true_and,i s,decide_eq_true_eq]at h;exact h
  show gJ P t C left x.nodes (if x.nodes<2*((la++[((4:Int),m.e,m.b,m.f)]).length:Int) then _ else _) ok _ w w';rw[if_pos u];exact F
def LL(m:AG.Ms):(dD x d.du la lo rs tr).refused m=dD (nI x d m.e m.b m.wa) d.du la lo rs tr:=by
 unfold AG.Nd.refused nI;show(if(m.e=d.ep/\m.b=x.ba/\0<m.b) then _ else _)=_;by_cases h:m.e=d.ep/\m.b=x.ba/\0<m.b
 ·rw[if_pos h];have c:(m.e==d.ep&&(m.b==x.ba&&decide (0<m.b)))=true:=by simp[h.1,h.2.1];rw[←h.2.1];exact h.2.2
  rw[c,cond_true];have a:max x.rf m.wa=if x.rf<m.wa then m.wa else x.rf:=by split<;>omega
  show({dD x d.du la lo rs tr with rf:=max x.rf m.wa}:AG.Nd)=_;rw[a];rfl
 ·rw[if_neg h];have c:(m.e==d.ep&&(m.b==x.ba&&decide (0<m.b)))=false:=by rw[Bool.eq_false_iff];intro a;apply h;simp only[Bool.and_eq_true,beq_iff_eq,decide_eq_true_eq]at a;exact a
  rw[c,cond_false]
def IL{r:Ending}{f e q:Int}(k:BG t d)(p:fN d x.nodes)(a:Rg x la rs t)(hi:d.id=x.id)(n:Jr fs d x.nodes t false tr)(b:x.down=false)(m:AG.Ms)(A:m.f=f/\m.e=e/\m.q=q)(i:EY P x d fs left (eA t) C la lo rs 8 f e 0 q r w w'):r=.returned (.tuple #[])/\gJ P t C left x.nodes ((dD x d.du la lo rs tr).wrote m,[]) true (J Z 0 0) w w':=by
 obtain⟨rfl,rfl,rfl⟩:=A;have H:iQ 8 m.f m.e 0 m.q=(8,m.e,max 0 m.q,m.f):=rfl;have z:(0<(dD x d.du la lo rs tr).on/\m.e=(dD x d.du la lo rs tr).ow.e/\m.q=(dD x d.du la lo rs tr).ow.q)↔pL x m.e m.q=true:=by show(0<x.on/\m.e=x.ow.e/\m.q=x.ow.q)↔_;unfold pL;simp
 have o:((dD x d.du la lo rs tr).d.rc (dD x d.du la lo rs tr).d.ep).S=d.dh.S:=congrArg eH.S (nX k.ne);unfold AG.Nd.wrote;rcases i with⟨j,rfl,c,h⟩|⟨j,i⟩;·rw[if_neg (λs=>by rw[z.1 s]at j;exact absurd j sG)];exact⟨rfl,dY.nil _ _,eM.nil _,eP.keep c h k p a.next hi (by rw[b];exact n)⟩
 ·rw[if_pos (z.2 j)];have u:(if((8:Int),m.e,max 0 m.q,m.f)∈(dD x d.du la lo rs tr).oa then(dD x d.du la lo rs tr).oa else(dD x d.du la lo rs tr).oa++[(8,m.e,max 0 m.q,m.f)])=i7 (iQ 8 m.f m.e 0 m.q) lo:=rfl;rw[u];obtain⟨rfl,i⟩:=i;have B:=a.ops;have E:=a.rs;have D:=a.la;refine⟨rfl,?_⟩;unfold AG.Nd.finish;rw[show(({dD x d.du la lo rs tr with oa:=i7 (iQ 8 m.f m.e 0 m.q) lo}:AG.Nd).d.rc ({dD x d.du la lo rs tr with oa:=i7 (iQ 8 m.f m.e 0 m.q) lo}:AG.Nd).d.ep).S=d.dh.S from o];show gJ P t C left x.nodes ((if iD d.dh.S x.id x.ow.e x.ow.q (i7 (iQ 8 m.f m.e 0 m.q) lo) x.nodes.toNat=0 then _ else _),[]) true _ w w';rcases i with⟨l,c,h⟩|⟨l,v,F,c,h⟩;·rw[if_neg l];exact⟨dY.nil _ _,eM.nil _,eP.keep c h k p a.next hi (by rw[b];exact n)⟩
  ·rw[if_pos l];have y:Rg (kY x v) la (rs++[oK x]) (t+1):=⟨a.nn,a.id,a.nb,a.ph,a.an,a.g,a.jo,a.ba,a.rf,a.fo,λs=>absurd s (by show¬(0:Int)<0;decide),by show 0<=x.ops/\x.ops<=((t+1:Nat):Int);omega,by simp;omega,oG⟩;exact⟨dY.nil _ _,eM.nil _,eP.keep (x':=kY x v) c h k p y hi (by rw[show(kY x v).down=false from b];exact n)⟩
def LM{r:Ending}(m:BG t d)(g:fN d x.nodes)(c:Rg x la rs t)(hi:d.id=x.id)(o:Jr fs d x.nodes t false tr)(z:t+1<=1000000)(f:x.down=false)(y:lM P x d fs left t C la lo rs r w w'):∃l,r=.returned l/\∃ok,gJ P t C left x.nodes ((dD x d.du la lo rs tr).prepare ok) ok l w w':=by
 have u:=g.at d.ep;rcases y with⟨j,rfl,h,v⟩|⟨j,rfl,h⟩|⟨B,l,j,rfl,n,h⟩
 ·refine⟨_,rfl,true,?_⟩;have n:(dD x d.du la lo rs tr).prepare true=(dD x d.du la lo rs tr,[]):=by unfold AG.Nd.prepare;dsimp only;rw[if_pos (show 1000000000000<(dD x d.du la lo rs tr).gu (dD x d.du la lo rs tr).rf from j)]
  rw[n];exact⟨dY.nil _ _,eM.nil _,eP.keep h v m g c.next hi (by rw[f];exact o)⟩
 all_goals
  have a:=C7 c g j
  have i:=λok=>wC (x:=x) (d:=d) (la:=la) (lo:=lo) (rs:=rs) (tr:=tr) u.1.1 c.rf.1 c.id.1 f j ok
  obtain⟨q,s,p⟩:=wD (x:=x) m (by omega:t<=1000000) a
 ·refine⟨_,rfl,false,?_⟩;rw[i];exact⟨dY.nil _ _,eM.nil _,eP.fall h m oG g c hi o q s p⟩
 ·refine⟨l,rfl,true,?_⟩;rw[i];refine⟨?_,wO c.id c.nn m oG a,eP.save (x':=jV x d B) h m oG g (xA c g a) hi o q s p f tr⟩;show dY w' w.heap.size l (fS ((dD x d.du la lo rs tr).tell {AG.Ms.nil with k:=1,e:=d.ep,b:=x.nb' d} (dD x d.du la lo rs tr).others));rw[wP c.id c.nn];exact n
end
def N2{a:List Int}(h:(a.length:Int)=0):a=[]:=List.length_eq_zero_iff.1 oG
def fW.receive(hSO:fA)(hBW:fC)(hBS:fD){w:World}{P:Pl}{t:Nat}{C:Nat->Prop}{left:Int}{n:AG.Nd}(h:fW w P t C left n)(ht:t+2<=1000000)(m:AG.Ms)(hm:Rl m)(vb:Value)(Q:gK w w.heap.size vb m.pk):Calls pG 143 #[P0 (Y ⟨P.Nd,0,Z⟩),vb] w λr w'=>∃l,r=.returned l/\∃ok,gJ P t C left n.nodes (n.receive m ok) ok l w w':=by
 obtain⟨x,d,fs,la,lo,rs,c,D,K,a,hi,hn,hJ⟩:=h.ex;generalize n.tr=tr at hn hJ;subst hn;have y:oA m.pk m.k m.f m.e m.b m.wa m.p m.s m.q m.bl m.v m.zs 0:=C4 _ _ _ _ _ _ _ _ _ _ _ hm.1 hm.2.1;obtain⟨aA,aE,a0⟩:=oZ hm.1;have R:∀w',Below w.heap.size w w'->(dD x d.du la lo rs tr).receive m true=(dD x d.du la lo rs tr,[])->gJ P t C left (dD x d.du la lo rs tr).nodes ((dD x d.du la lo rs tr).receive m true) true (J Z 0 0) w w':=by intro w' i he;rw[he];exact⟨dY.nil _ _,eM.nil _,eP.keep (c.later i) (.of_below i) D K a.next hi hJ⟩
 cases hup:x.down;case true=>refine(LC P.Nd x m.pk vb m.k m.f m.e m.b m.wa m.p m.s m.q m.bl m.v m.zs w c.blk c.tabs Q y hup).mono ?_;rintro r w' ⟨rfl,i⟩;refine⟨_,rfl,true,R w' i ?_⟩;unfold AG.Nd.receive;rw[if_pos (.inl (show x.down=true from hup))]
 case false=>
 by_cases L:m.f=x.id;·refine(LB P.Nd x m.pk vb m.k m.f m.e m.b m.wa m.p m.s m.q m.bl m.v m.zs w c.blk c.tabs Q y hup (by simpa using L)).mono ?_;rintro r w' ⟨rfl,i⟩;refine⟨_,rfl,true,R w' i ?_⟩;unfold AG.Nd.receive;rw[if_pos (.inr (.inl (show m.f=x.id from L)))]
 have j:(m.f==x.id)=false:=by simpa using L
 by_cases ac:x.nodes<=m.f;·refine(MU P.Nd x m.pk vb m.k m.f m.e m.b m.wa m.p m.s m.q m.bl m.v m.zs w c.blk c.tabs Q y hup j (by simpa using ac)).mono ?_;rintro r w' ⟨rfl,i⟩;refine⟨_,rfl,true,R w' i ?_⟩;unfold AG.Nd.receive;rw[if_pos (.inr (.inr (show x.nodes<=m.f from ac)))]
 have u:decide (x.nodes<=m.f)=false:=by simpa using ac
 have V:0<=m.f/\m.f<x.nodes:=oG;have z:Jr fs d x.nodes t false tr:=by rw[hup]at hJ;exact hJ
 have E:=λok=>xC (n:=dD x d.du la lo rs tr) (m:=m) hup L V.2 ok;obtain⟨k,f,e,b,wa,p,s,q,bl,v,o⟩:=m;dsimp only at*;have aj:k=1∨k=2∨k=3∨k=4∨k=5∨k=6∨k=7∨k=8∨k=9∨k=10:=oG;have aF:=a.nn;have aC:=a.id;rcases aj with rfl|rfl|rfl|rfl|rfl|rfl|rfl|rfl|rfl|rfl;·refine u4 1 196 dG P.Nd x _ vb f e b wa p s q bl v o w c.blk c.tabs Q y hup j u (λl W2=>∃ok,gJ P t C left x.nodes ((dD x d.du la lo rs tr).receive ⟨1,f,e,b,wa,p,s,q,bl,v,o⟩ ok) ok l w W2) ?_;intro W X la' H i M hX N;exact DC hSO hBW hBS c D K a hi z oG hup ⟨1,f,e,b,wa,p,s,q,bl,v,o⟩ hm (.inl rfl) V L i M hX N
 ·have h2:=(sF _ _ _ _ _ _ _ _ _).1 a0;have hz:=N2 h2.2.2.2.2.2.2.2.2;obtain⟨a1,a2,a3,a4,a5,rfl,rfl,rfl,a9⟩:=h2;subst hz;refine rI 2 197 0 dG P.Nd x _ vb f e b wa p s 0 0 0 [] w c.blk c.tabs Q y hup j u (λl W2=>∃ok,gJ P t C left x.nodes ((dD x d.du la lo rs tr).receive ⟨2,f,e,b,wa,p,s,0,0,0,[]⟩ ok) ok l w W2) ?_;intro W la' H i N O;have e9:=O rfl;obtain⟨B,ab⟩:∃B,gQ x d e b 2=true->x.an=some B:=by
   by_cases F:gQ x d e b 2=true;·have h8:=xV.1 F;obtain⟨B,h7⟩:=a.an oG (.inl oG);exact⟨B,λ_=>h7⟩
   ·exact⟨0,λh8=>absurd h8 F⟩
  have ae:0<=(dU (gT x 2 f e b wa p s 0 0 0)).gP/\(dU (gT x 2 f e b wa p s 0 0 0)).gP<=5/\0<=(dU (gT x 2 f e b wa p s 0 0 0)).gS/\(dU (gT x 2 f e b wa p s 0 0 0)).gS<=31:=by
   have ar:Rg (gT x 2 f e b wa p s 0 0 0) la rs t:=by
    unfold gT;cases decide (x.fo.wa<wa);·exact a
    ·exact⟨a.nn,a.id,a.nb,a.ph,a.an,a.g,a.jo,a.ba,a.rf,⟨a3,a4,a5⟩,a.on,a.ops,a.rs,a.la⟩
   have F:=(B9 ar).1.g;exact⟨F.1.1,F.1.2,F.2.1,F.2.2⟩
  have am:=a.la;rw[show J la' ([]:List Int).length H=J Z 0 0 from e9];refine(FW hSO hBW hBS P x d fs left t C la lo rs 2 f e b wa p s 0 0 0 W (c.later i) D oG hup a.nn a.id a.ba ⟨ae.1,ae.2.1⟩ ae.2.2 oG B ab).mono ?_;intro r W1 hq;obtain⟨l,e1,ok,e2⟩:=JW (tr:=tr) a3 a4 a5 a2.1 D K a hi z oG hup hq;exact⟨l,e1,ok,by rw[(E ok).2.1 rfl];exact e2.pre i⟩
 ·refine u4 3 196 dG P.Nd x _ vb f e b wa p s q bl v o w c.blk c.tabs Q y hup j u (λl W2=>∃ok,gJ P t C left x.nodes ((dD x d.du la lo rs tr).receive ⟨3,f,e,b,wa,p,s,q,bl,v,o⟩ ok) ok l w W2) ?_;intro W X la' H i M hX N;exact DC hSO hBW hBS c D K a hi z oG hup ⟨3,f,e,b,wa,p,s,q,bl,v,o⟩ hm (.inr rfl) V L i M hX N
 ·have h2:=(sH _ _ _ _ _ _ _ _ _).1 a0;obtain⟨a1,a2,a3,a4,a5,a6,a7,a8,a9⟩:=h2;refine rI 4 198 0 dG P.Nd x _ vb f e b wa p s q bl v o w c.blk c.tabs Q y hup j u (λl W2=>∃ok,gJ P t C left x.nodes ((dD x d.du la lo rs tr).receive ⟨4,f,e,b,wa,p,s,q,bl,v,o⟩ ok) ok l w W2) ?_;intro W la' H i N O;obtain⟨B,ab⟩:∃B,x.ph=3->x.an=some B:=by
   by_cases F:x.ph=3;·obtain⟨B,h7⟩:=a.an oG (.inr oG);exact⟨B,λ_=>h7⟩
   ·exact⟨0,λh8=>absurd h8 F⟩
  have am:=a.la;refine(FV hSO hBW hBS P x d fs left t C la lo rs 4 f e b wa p s q bl v la' o.length H W (c.later i) D oG hup a.nn a.id a.g.1 a.g.2 oG B ab).mono ?_;intro r W1 hq;rw[a6]at hq;obtain⟨l,e1,ok,e2⟩:=LK (tr:=tr) a2.1 D K a hi z oG hup ⟨4,f,e,b,wa,p,s,q,bl,v,o⟩ ⟨rfl,rfl,rfl,rfl⟩ hq;exact⟨l,e1,ok,by rw[(E ok).2.2.1 rfl];exact e2.pre i⟩
 ·have h2:=(sI _ _ _ _ _ _ _ _ _).1 a0;refine rI 5 199 1 dG P.Nd x _ vb f e b wa p s q bl v o w c.blk c.tabs Q y hup j u (λl W2=>∃ok,gJ P t C left x.nodes ((dD x d.du la lo rs tr).receive ⟨5,f,e,b,wa,p,s,q,bl,v,o⟩ ok) ok l w W2) ?_;intro W la' H i N O;refine(GP P x d fs left (eA t) t C la lo rs 5 f e b wa p s q bl v la' o.length H W (c.later i) D oG).mono ?_;rintro r W1 ⟨rfl,hf,hx⟩;refine⟨_,⟨rfl,rfl⟩,true,?_⟩;rw[(E true).2.2.2.1 rfl,LL];have U:Rg (nI x d e b wa) la rs t/\(nI x d e b wa).nodes=x.nodes/\(nI x d e b wa).id=x.id/\(nI x d e b wa).down=x.down:=by
   unfold nI;cases(e==d.ep&&(b==x.ba&&decide (0<b)));·exact⟨a,rfl,rfl,rfl⟩
   ·have aB:=a.rf;have:=h2.2.2.1;exact⟨⟨a.nn,a.id,a.nb,a.ph,a.an,a.g,a.jo,a.ba,by show 0<=(if x.rf<wa then wa else x.rf)/\(if x.rf<wa then wa else x.rf)<=1000000000000;split<;>omega,a.fo,a.on,a.ops,a.rs,a.la⟩,rfl,rfl,rfl⟩
  exact⟨dY.nil _ _,eM.nil _,(eP.keep hf hx D (by rw[U.2.1];exact K) U.1.next (hi.trans U.2.2.1.symm) (by rw[U.2.2.2,U.2.1,hup];exact z)).pre i⟩
 ·have h2:=(nT _ _ _ _ _ _ _ _ _).1 a0;refine rI 6 200 2 dG P.Nd x _ vb f e b wa p s q bl v o w c.blk c.tabs Q y hup j u (λl W2=>∃ok,gJ P t C left x.nodes ((dD x d.du la lo rs tr).receive ⟨6,f,e,b,wa,p,s,q,bl,v,o⟩ ok) ok l w W2) ?_;intro W la' H i N O;obtain⟨A,hA,aa,S⟩:=c.nod;obtain⟨aw,ak⟩:=tY N;have av:∀ad,la'=some ad->¬A ad.block:=λad ap hh=>absurd (c.lt _ (aa _ hh)).2 (Nat.not_lt.2 (ak ad ap));have af:=c.later i;have aq:=λok=>B7 K D.ne (dD x d.du la lo rs tr) rfl ⟨6,f,e,b,wa,p,s,q,bl,v,o⟩ ok;refine(zM hSO hBW hBS P x d fs left t A f e b wa p s q bl v la' o H W (hA.later i) D oG aw av h2.1 hup).mono ?_;rintro r W1 ⟨ok,rfl,hs⟩;refine⟨_,⟨⟨_,rfl⟩,rfl⟩,ok,?_⟩;rw[(E ok).2.2.2.2.1 rfl,aq];dsimp only;have r1:iP ⟨6,f,e,b,wa,p,s,q,bl,v,la',H,o⟩:=⟨hm.1,hm.2.1⟩;have r2:iE 6 bl o.length:=.inr (.inr (.inl rfl));rcases hs with⟨hN,rfl,ai,ax⟩|⟨hN,hs⟩;·obtain⟨t1,t2⟩:=af.turn aa S ai ax rfl rfl rfl;rw[hN];exact⟨dY.nil _ _,eM.nil _,(eP.keep t1 t2 D K a.next hi (by rw[hup];exact z)).pre i⟩
  ·have r3:(6:Int)=6->e=d.ep/\e<1000000000000:=λ_=>MV K D.ne hN;rw[hN];cases ok;·have au:=af.jf aa S hs rfl rfl rfl;exact⟨dY.nil _ _,eM.nil _,(eP.fall (x:=x) (la:=la) (lo:=lo) (tr:=tr) au D oG K a hi z r1 r2 r3).pre i⟩
   ·have al:=af.jf aa S hs rfl rfl rfl;exact⟨dY.nil _ _,eM.nil _,(eP.save (x':=mB x d e p true) al D oG K (DD a e p) hi z r1 r2 r3 hup tr).pre i⟩
 ·refine u4 7 201 dG P.Nd x _ vb f e b wa p s q bl v o w c.blk c.tabs Q y hup j u (λl W2=>∃ok,gJ P t C left x.nodes ((dD x d.du la lo rs tr).receive ⟨7,f,e,b,wa,p,s,q,bl,v,o⟩ ok) ok l w W2) ?_;intro W X la' H i M hX N;exact D5 hSO hBW hBS c D K a hi z oG hup ⟨7,f,e,b,wa,p,s,q,bl,v,o⟩ hm (.inl rfl) V L i M hX N
 ·have h2:=(sJ _ _ _ _ _ _ _ _ _).1 a0;refine rI 8 202 1 dG P.Nd x _ vb f e b wa p s q bl v o w c.blk c.tabs Q y hup j u (λl W2=>∃ok,gJ P t C left x.nodes ((dD x d.du la lo rs tr).receive ⟨8,f,e,b,wa,p,s,q,bl,v,o⟩ ok) ok l w W2) ?_;intro W la' H i N O;obtain⟨B0,ao⟩:∃B,0<x.on->x.oa=some B:=by
   by_cases F:0<x.on;·obtain⟨B,D⟩:=(a.on F).1;exact⟨B,λ_=>D⟩
   ·exact⟨0,λh8=>absurd h8 F⟩
  have aD:=a.rs;refine(JI P x d fs left (eA t) t C la lo rs 8 f e b wa p s q bl v la' o.length H B0 W (c.later i) D oG a.nn a.id ao oG).mono ?_;intro r W1 hq;rw[h2.2.2.1]at hq;obtain⟨e1,e2⟩:=IL (tr:=tr) D K a hi z hup ⟨8,f,e,b,wa,p,s,q,bl,v,o⟩ ⟨rfl,rfl,rfl⟩ hq;exact⟨_,⟨e1,rfl⟩,true,by rw[(E true).2.2.2.2.2.2.1 rfl];exact e2.pre i⟩
 ·refine u4 9 201 dG P.Nd x _ vb f e b wa p s q bl v o w c.blk c.tabs Q y hup j u (λl W2=>∃ok,gJ P t C left x.nodes ((dD x d.du la lo rs tr).receive ⟨9,f,e,b,wa,p,s,q,bl,v,o⟩ ok) ok l w W2) ?_;intro W X la' H i M hX N;exact D5 hSO hBW hBS c D K a hi z oG hup ⟨9,f,e,b,wa,p,s,q,bl,v,o⟩ hm (.inr rfl) V L i M hX N
 ·refine rI 10 203 0 dG P.Nd x _ vb f e b wa p s q bl v o w c.blk c.tabs Q y hup j u (λl W2=>∃ok,gJ P t C left x.nodes ((dD x d.du la lo rs tr).receive ⟨10,f,e,b,wa,p,s,q,bl,v,o⟩ ok) ok l w W2) ?_;intro W la' H i N O;have hg:=K.at d.ep;have ag:∀ok,(dD x d.du la lo rs tr).copied ⟨10,f,e,b,wa,p,s,q,bl,v,o⟩ ok=bif pH x d f e q then(dD x d.du la lo rs tr,[]) else(dD ({x with ph:=2}:NB) d.du la lo rs tr).prepare ok:=by
   intro ok;unfold AG.Nd.copied pH;show(if x.ph=1/\f=x.jo/\e=d.ep/\q=d.last then _ else _)=_;by_cases F:x.ph=1/\f=x.jo/\e=d.ep/\q=d.last;·rw[if_pos F,show((x.ph != 1)||((f != x.jo)||((e != d.ep)||(q != d.last))))=false by simp[F.1,F.2.1,F.2.2.1,F.2.2.2]];rfl
   ·rw[if_neg F,show((x.ph != 1)||((f != x.jo)||((e != d.ep)||(q != d.last))))=true by rw[←Bool.not_eq_false];intro h8;apply F;simpa using h8];rfl
  cases hcN:pH x d f e q
  ·have aG:x.ph=1:=by unfold pH at hcN;simp at hcN;exact hcN.1
   have ay:Rg ({x with ph:=2}:NB) la rs t:=⟨a.nn,a.id,a.nb,by show(0:Int)<=2/\(2:Int)<=3;decide,λ_ F=>a.an oG (F.imp id (λh8=>absurd h8 (by show¬(3:Int)<=2;decide))),a.g,a.jo,a.ba,a.rf,a.fo,a.on,a.ops,a.rs,a.la⟩;refine(JH hSO hBW hBS P x d fs left t C la lo rs 10 f e b wa p s q bl v la' o.length H W (c.later i) D oG hup a.nn a.id hg.1 a.rf hcN).mono ?_;intro r W1 hq;obtain⟨l,e1,ok,e2⟩:=LM (x:={x with ph:=2}) (tr:=tr) D K ay hi z oG hup hq;refine⟨l,e1,ok,?_⟩;rw[(E ok).2.2.2.2.2.2.2 rfl,ag,hcN];exact e2.pre i
  ·refine(GQ hSO P x d fs left (eA t) t C la lo rs 10 f e b wa p s q bl v la' o.length H W (c.later i) D oG hcN).mono ?_;rintro r W1 ⟨rfl,az⟩;refine⟨_,rfl,true,?_⟩;rw[(E true).2.2.2.2.2.2.2 rfl,ag,hcN];have ah:=i.trans (az.mono i.size);exact⟨dY.nil _ _,eM.nil _,eP.keep (c.later ah) (.of_below ah) D K a.next hi hJ⟩
def fW.done{w:World}{P:Pl}{t:Nat}{C:Nat->Prop}{left:Int}{n:AG.Nd}(h:fW w P t C left n):Calls pG 129 #[P0 (Y ⟨P.Nd,0,Z⟩)] w λr w'=>∃v,r=.returned v/\fW w' P t C left {n with res:=[]}/\w'.ownsRow P.low 76 5 v n.res.length (n.res.flatMap dJ.cells)/\(∀g,v.ownBlock=some g->C g)/\dP C C w w':=by obtain⟨x,d,fs,la,lo,rs,e,m,k,a,hi,c,b⟩:=h.ex;generalize n.tr=tr at c b;subst c;refine(LE P x d fs left (eA t) C la lo rs w e).mono ?_;rintro r w' ⟨rfl,f,i,l⟩;exact⟨x.res,rfl,⟨{x with res:=J Z 0 0},d,fs,la,lo,[],f,m,k,⟨a.nn,a.id,a.nb,a.ph,a.an,a.g,a.jo,a.ba,a.rf,a.fo,a.on,a.ops,sG,a.la⟩,hi,rfl,b⟩,i,λg j=>e.jq g (.inr (.inr j)),l⟩
def fW.recs{w:World}{P:Pl}{t:Nat}{C:Nat->Prop}{left:Int}{n:AG.Nd}(h:fW w P t C left n)(c:t<=1000000):Calls pG 62 #[P0 (Y ⟨P.Nd,0,Z⟩)] w λr w'=>∃v,r=.returned v/\w'.ownsRow w.heap.size 66 3 v n.d.recs.length (n.d.recs.flatMap eH.cells)/\Below w.heap.size w w':=by obtain⟨x,d,fs,la,lo,rs,f,e,g,i,hi,a,b⟩:=h.ex;generalize n.tr=tr at a b;subst a;exact K7 P x d fs left (eA t) t C la lo rs w f e c
def fV.stop{w w':World}{low D H S:Nat}{b:Value}{fs:List FD}{left:Int}{L:Nat}(h:fV w low D H S b fs left L){a:Int}(e:i_ a)(hS:w'.heap[S]?=Y (.cells #[b,I a] 98 (0,0)))(c:dI S w w'):fV w' low D H S b fs a L:=by refine⟨h.hands.later (c.block D h.dS) (c.block H h.hS),⟨hS,dQ h.ds.row (λg d=>c.block g (λf=>?_))⟩,h.dS,h.hS,e,h.fl,h.bd⟩;have:=h.ds.off dG;rw[f]at d;exact this d
def fW.stop{w:World}{P:Pl}{t:Nat}{C:Nat->Prop}{left:Int}{n:AG.Nd}(h:fW w P t C left n)(k:Int)(W:0<=k/\k<=1000):Calls pG 44 #[P0 (Y ⟨P.H,0,Z⟩),I k] w λr w'=>r=.returned (.tuple #[])/\(∃left',fW w' P t C left' n)/\dP C C w w':=by
 obtain⟨x,d,fs,la,lo,rs,b,hB,V,hR,hi,hn,hJ⟩:=h.ex;obtain⟨A,a,z,y⟩:=b.nod;obtain⟨vr,M,h1,m,U⟩:=a.ex;refine(K6 P.low P.D P.H P.S M fs left k w m.hands m.ds W.1).mono ?_;rintro r w' ⟨rfl,hS,c⟩;have F:A P.S:=U _ (.inr (.inr (.inr (.inl rfl))));have B:=z _ F;have L:-9223372036854775808<=(bif left==0 then 0 else k)/\(bif left==0 then 0 else k)<=9223372036854775807:=by cases(left==0)<;>simp<;>omega
 have hT:dW w':=b.tabs.below (c.below (b.lt _ B).1) (Nat.le_refl 2);have f:dC w P.S #[M,I left] 98:=⟨m.ds.st⟩;have a0:P.Nd≠P.S:=λu=>by have:=a.blk.blk;rw[u,m.ds.st]at this;simp at this
 have p:w'.heap.size=w.heap.size:=c.size;have keep:∀{X:Nat} {cs:Array Value} {ty:TypeId},dC w X cs ty->ty≠98->dC w' X cs ty:=by intro X cs ty Q j;refine Q.same (c.block X (λu=>?_));have:=Q.blk;rw[u,m.ds.st]at this;simp at this;exact j this.2.symm
 have E:∀{base:Nat} {e:TypeId} {s n:Nat} {v:Value} {xs:List Value},w.ownsRow base e s v n xs->e≠98->w'.ownsRow base e s v n xs:=by intro base e s n v xs R j;refine dQ R (λg q=>c.block g (λu=>?_));obtain⟨a1,O⟩:=eU R q;rw[u,m.ds.st]at O;simp at O;exact j O.2.symm
 have i:∀{o:Option Nat} {l:List Ky},iL w o l->iL w' o l:=by intro o l hm;exact hm.node f c
 have K:eE w' P.low x.St d vr P.Mp P.D:=h1.butG f dG dG c;have N:gF w' P x d fs (bif left==0 then 0 else k) (eA t) A:=⟨keep a.blk dG,⟨vr,M,K,m.stop L hS c,U⟩,a.nd,a.pd,a.ph,a.two,λg q=>by rw[p];exact a.lt g q,by rw[p];exact a.low,hT⟩;refine⟨rfl,⟨_,⟨x,d,fs,la,lo,rs,⟨⟨A,N,z,y⟩,i b.an,i b.oa,b.ne,E b.row dG,b.jq,λg q=>by rw[p];exact b.lt g q⟩,hB,V,hR,hi,hn,hJ⟩⟩,dP.node c B⟩
def uQ(keep:Int)(a:List UInt8):∀fs:List FD,fJ (dX (fs.map (jD keep)) a)=jD keep (fJ (dX fs a))
 | []=>by simp[dX,fJ,jG,jD]
 |f::fs=>by
  rw[List.map_cons,iM,iM];by_cases h:(f.n==a)=true;·rw[if_pos (show((jD keep f).n==a)=true from h),if_pos h];rfl
  ·rw[if_neg (show¬((jD keep f).n==a)=true from h),if_neg h];exact uQ keep a fs
def LN{m:dK}(h:iP m)(k:Nat)(a:k<(eT m).length):pI ((eT m).take k):=by
 have b:=xT h;rw[B4 h]at a⊢;cases k with
 |zero=>exact .inl rfl
 |succ k=>
  refine .inr ⟨_,m.pk.take k,rfl,?_⟩;rw[List.length_take];have:(UInt8.ofNat m.pk.length).toNat=m.pk.length:=by rw[UInt8.toNat_ofNat_of_lt'];simp[UInt8.size];omega
  rw[this];simp at a;omega
def Jr.ni{fs:List FD}{d:SD}{n:Int}{t:Nat}{dn:Bool}{tr:AG.Ms}(h:Jr fs d n t dn tr)(keep:Int):∃ms a,(fJ (dX (fs.map (jD keep)) eS)).d=ms.flatMap eT++a/\(fJ (dX (fs.map (jD keep)) eS)).s=(fJ (dX (fs.map (jD keep)) eS)).d.length/\pI a/\(∀m∈ms,iP m/\iE m.k m.bl m.zs.length)/\ms.length<=3*t+3/\(iH ((fE d.id n 0 true).play ms) d∨(dn=true/\∃m,m.ms=tr/\iP m/\iE m.k m.bl m.zs.length/\(m.k=6->m.e=d.ep/\m.e<1000000000000)/\Kq d.dw/\iH ((fE d.id n 0 true).play ms) (d.stepM m)))∨¬Kq d.dw:=by
 by_cases g:Kq d.dw;case neg=>exact⟨[],[],.inr g⟩
 have hs:(fJ (dX (fs.map (jD keep)) eS)).s=(fJ (dX (fs.map (jD keep)) eS)).d.length:=by rw[uQ];rfl
 rcases h.j with⟨ms,a,b,f,o⟩|⟨q,ms,m,b,f,o,u,i,p,v⟩;·refine⟨ms,a,.inl ⟨?_,hs,b.tn,b.re,by have:=b.ln;omega,.inl b.pl⟩⟩;rw[uQ];show((fJ (dX fs eS)).d.take _)=_;rw[f,List.take_of_length_le oG];exact b.dt
 ·have l:(fJ (dX (fs.map (jD keep)) eS)).d=ms.flatMap eT++(eT m).take (qN keep (fJ (dX fs eS))):=by rw[uQ];show((fJ (dX fs eS)).d.take ((fJ (dX fs eS)).s+qN keep (fJ (dX fs eS))))=_;rw[f,o,List.take_append,List.take_of_length_le oG];congr 2;omega
  by_cases r:qN keep (fJ (dX fs eS))<(eT m).length;·exact⟨ms,_,.inl ⟨l,hs,LN i _ r,b.re,by have:=b.ln;omega,.inl b.pl⟩⟩
  ·refine⟨ms++[m],[],.inl ⟨?_,hs,.inl rfl,?_,by have:=b.ln;simp;omega,.inr ⟨q,m,u,i,p,v,g,?_⟩⟩⟩;·rw[l,List.take_of_length_le oG];simp
   ·intro z c;rcases List.mem_append.1 c with c|c;·exact b.re z c
    ·simp at c;subst c;exact⟨i,p⟩
   ·rw[rV];exact b.pl.step (Kq.play _ (oW _ _ _ _)) g m
def Cr(n n':AG.Nd):Prop:=(∃l,n'=(n.fresh n.d).swp l/\∀e,dH l e=dH n.d.dw e)∨(n.down=true/\∃l,n'=(n.fresh (n.d.step n.tr)).swp l/\∀e,dH l e=dH (n.d.step n.tr).dw e)
@[reducible] def rQ(w:World)(n:AG.Nd)(t low D H S B:Nat)(va:Value)(fs:List FD)(ms:List dK)(junk:List UInt8)(d1:SD):Prop:=fV w low D H S va fs (-1) (eA t)/\(∀g,g=D∨g=H∨g=S∨va.ownBlock=some g->B<=g/\g<w.heap.size)/\Sf fs/\(fJ (dX fs eS)).d=ms.flatMap eT++junk/\(fJ (dX fs eS)).s=(fJ (dX fs eS)).d.length/\pI junk/\(∀m∈ms,iP m/\iE m.k m.bl m.zs.length)/\ms.length<=3*t+3/\d1=(fE n.id n.nodes (ms.length:Int) (junk==[])).play ms/\fN d1 n.nodes/\BG (t+1) d1/\Cr n (n.fresh d1.du)/\(2<=n.nodes/\n.nodes<=5)/\(0<=n.id/\n.id<n.nodes)/\(1<=n.nb/\n.nb<=4)
def qM(w:World)(n:AG.Nd)(t low D H S B:Nat):Prop:=∃va fs ms junk d1,rQ w n t low D H S B va fs ms junk d1
def qM.same{w w':World}{n:AG.Nd}{t low D H S B:Nat}(h:qM w n t low D H S B)(hs:w.heap.size<=w'.heap.size)(i:∀g,B<=g->g<w.heap.size->w'.heap[g]?=w.heap[g]?):qM w' n t low D H S B:=by obtain⟨e,fs,ms,c,j,b,d,f⟩:=h;have k:∀g,g=D∨g=H∨g=S∨e.ownBlock=some g->w'.heap[g]?=w.heap[g]?:=λg a=>i g (d g a).1 (d g a).2;exact⟨e,fs,ms,c,j,⟨b.hands.later (k _ (.inl rfl)) (k _ (.inr (.inl rfl))),b.ds.kept (k _ (.inr (.inr (.inl rfl)))) (λg a=>k g (.inr (.inr (.inr a)))),b.dS,b.hS,b.lf,b.fl,b.bd⟩,λg a=>⟨(d g a).1,Nat.lt_of_lt_of_le (d g a).2 hs⟩,f⟩
def N3{a b:SD}(h:iH a b):a.du={b.du with dw:=a.dw}:=by
 unfold SD.du;have:a.bk=b.bk:=by funext i;unfold SD.bk;rw[h.b0,h.b1,h.b2,h.b3]
 rw[h.id,h.recs,this,h.seen,h.last]
def N6{a d:SD}{t:Nat}(h:iH a d)(c:Kq a.dw)(i:Kq d.dw)(b:BG t d)(g:0<=a.lines)(f:a.lines<=3*(t:Int)+2):BG t a:=by have e:=h.len c i;exact⟨by rw[h.recs];exact b.ne,by rw[h.recs];exact b.recs,by rw[e];exact b.dw,g,f,by rw[h.recs];exact b.re,by rw[h.id];exact b.id⟩
def MX{d:SD}{t:Nat}(h:BG t d)(m:dK)(j:e_ m.e):BG (t+1) (d.stepM m):=by
 obtain⟨s1,s2,s3,s4,s5,s6⟩:=pP d m.k m.e m.b m.p m.s m.q m.bl m.v m.zs;have l:=h.ne;have g:=h.recs;have i:=h.dw;have f:=h.l0;have n:=h.l1;unfold SD.stepM;refine⟨oG,oG,oG,by rw[s4];exact f,by rw[s4];omega,λr c=>?_,by rw[s5];exact h.id⟩;rcases s6 r c with a|a;·exact h.re r a
 ·rw[a];omega
def fW.ni{w:World}{P:Pl}{t:Nat}{C:Nat->Prop}{left:Int}{n:AG.Nd}(h:fW w P t C left n)(ht:t<=1000000)(keep:Int):Calls pG 15 #[P0 (Y ⟨P.H,0,Z⟩),I keep] w λr w'=>r=.returned (.tuple #[P0 (Y ⟨w.heap.size+1,0,Z⟩),P0 (Y ⟨w.heap.size+2,0,Z⟩)])/\qM w' n t w.heap.size (w.heap.size+1) (w.heap.size+2) w.heap.size w.heap.size/\Below w.heap.size w w':=by
 obtain⟨x,d,fs,la,lo,rs,hF,X,u,N,hi,W,B⟩:=h.ex;generalize n.tr=tr at W B;subst W;obtain⟨A,hA,a0,O⟩:=hF.nod;obtain⟨vr,va,h1,l,h3⟩:=hA.ex;have hL:eA t<=1200000000:=by unfold eA;omega
 refine(JX P.low w.heap.size P.D P.H P.S va fs left keep (eA t) w l.hands l.ds l.fl l.bd hL B.sf r_).mono ?_;rintro r w' ⟨s,rfl,F,R,q3,q4⟩;refine⟨rfl,?_,q4⟩;have y:∀g,s.ownBlock=some g->g<w'.heap.size:=λg i=>(R.row.lt g i).2;have v:w.heap.size+1<w'.heap.size:=(Array.getElem?_eq_some_iff.1 F.d).1;have L:w.heap.size+2<w'.heap.size:=(Array.getElem?_eq_some_iff.1 F.h).1;obtain⟨ms,a,E⟩:=B.ni keep;have E:=E.resolve_right (λb=>b u.kn);obtain⟨j1,j2,j3,j4,j5,j6⟩:=E;have M:Sf (fs.map (jD keep)):=by intro f K;obtain⟨g,i,rfl⟩:=List.mem_map.1 K;exact Nat.le_refl _
 have c:Kq ((fE x.id x.nodes (ms.length:Int) (a==[])).play ms).dw:=Kq.play _ (oW _ _ _ _);have p:d.id=x.id:=hi;have q:iH ((fE x.id x.nodes (ms.length:Int) (a==[])).play ms) ((fE d.id x.nodes 0 true).play ms):=by rw[p];exact(AV _ _ _ _ _ _).play (oW _ _ _ _) (oW _ _ _ _) ms
 have o:((fE x.id x.nodes (ms.length:Int) (a==[])).play ms).lines=(ms.length:Int):=(uI ms _).2.1;have j:∃k:SD,iH ((fE x.id x.nodes (ms.length:Int) (a==[])).play ms) k/\fN k x.nodes/\BG (t+1) k/\((k=d)∨(x.down=true/\k.du=d.du.step tr)):=by
  rcases j6 with b|⟨a1,m,a2,U,z,a5,a6,a7⟩;·exact⟨d,q.trans b,u,X.next,.inl rfl⟩
  ·have he:0<=m.e/\m.e<=1000000000000:=by
    obtain⟨_,_,b⟩:=oZ U.1;rcases tA (m:=m) z with c|c|c|c|c<;>rw[c]at b;·exact((nA _ _ _ _ _ _ _ _ _).1 b).1
    ·exact((nB _ _ _ _ _ _ _ _ _).1 b).1
    ·exact((nT _ _ _ _ _ _ _ _ _).1 b).1
    ·exact((nU _ _ _ _ _ _ _ _ _).1 b).1
    ·exact((nV _ _ _ _ _ _ _ _ _).1 b).1
   exact⟨d.stepM m,q.trans a7,u.step U (tA (m:=m) z) a5,MX X m he,.inr ⟨a1,by rw[C0 d z,a2]⟩⟩
 obtain⟨k,k1,k2,k3,k4⟩:=j;refine⟨s,fs.map (jD keep),ms,a,_,⟨F,R,oG,oG,dG,by rw[List.length_map];exact l.fl,?_⟩,?_,M,j1,j2,j3,j4,j5,rfl,k2.alk k1 c (NZ c),N6 k1 c k2.kn k3 (show 0<=((fE x.id x.nodes (ms.length:Int) (a==[])).play ms).lines by rw[o];omega) (show((fE x.id x.nodes (ms.length:Int) (a==[])).play ms).lines<=3*((t+1:Nat):Int)+2 by rw[o];omega),?_,N.nn,N.id,N.nb⟩;·intro f K;obtain⟨g,i,rfl⟩:=List.mem_map.1 K;show(g.d.take _).length<=_;rw[List.length_take];have:=l.bd g i;omega
 ·rintro g (rfl|rfl|rfl|i);·exact⟨oG,v⟩
  ·exact⟨oG,L⟩
  ·exact⟨oG,oG⟩
  ·exact⟨q3 g i,y g i⟩
 ·have Q:=N3 k1;rw[show(dD x d.du la lo rs tr).id=x.id from rfl,show(dD x d.du la lo rs tr).nodes=x.nodes from rfl];rcases k4 with rfl|⟨k5,V⟩;·left;refine⟨_,?_,λe=>k1.vt e⟩;rw[Q];rfl
  ·right;refine⟨k5,_,?_,λe=>(k1.vt e).trans ?_⟩;·rw[Q,V];rfl
   ·show dH k.du.dw e=_;rw[V];rfl
structure fO(w:World)(Kn:Nat)(P:Pl)(t:Nat)(C:Nat->Prop)(left:Int)(n:AG.Nd):Prop where
 blk:dC w Kn (kA 0 P.Nd) 134
 nd:fW w P t C left n
 ne:¬C Kn
 two:2<=Kn
def rQ.new{w:World}{n:AG.Nd}{t low D H S B:Nat}{W:Value}{fs:List FD}{ms:List dK}{a:List UInt8}{q:SD}(h:rQ w n t low D H S B W fs ms a q)(ht:t+1<=1000000)(R:dW w)(s:low<=w.heap.size)(K:2<=B):Calls pG 66 #[I n.id,I n.nodes,I n.nb,P0 (Y ⟨D,0,Z⟩)] w λr w'=>∃Kn Nd Mp C',r=.returned (.tuple #[P0 (Y ⟨Kn,0,Z⟩),I 0])/\fO w' Kn ⟨low,Nd,Mp,D,H,S⟩ (t+1) C' (-1) (n.fresh q.du)/\(∀g,C' g∨g=Kn->B<=g)/\Below w.heap.size w w':=by
 obtain⟨h1,i,h3,d,h5,X,F,h8,b,E,v,a0,y,j,p⟩:=h;have hL:eA t<=1200000000:=by unfold eA;omega
 have hS:∃l:Int,((n.nodes=2/\l=3)∨(n.nodes=3/\l=7)∨(n.nodes=4/\l=15)∨(n.nodes=5/\l=31))/\fE n.id n.nodes (ms.length:Int) (a==[])=⟨n.id,[⟨0,0,l⟩],[],0,0,0,0,0,0,(ms.length:Int),a==[]⟩:=by
  have d:n.nodes=2∨n.nodes=3∨n.nodes=4∨n.nodes=5:=oG;rcases d with d|d|d|d<;>rw[d];·exact⟨3,sG,rfl⟩
  ·exact⟨7,sG,rfl⟩
  ·exact⟨15,sG,rfl⟩
  ·exact⟨31,sG,rfl⟩
 obtain⟨l,N,u⟩:=hS;have A:∀m∈ms,iE m.k m.bl m.zs.length/\0<=m.e/\m.e<=1000000000000:=by
  intro m Q;have f:=F m Q;obtain⟨_,_,c⟩:=oZ f.1.1;refine⟨f.2,?_⟩;rcases tA (m:=m) f.2 with o|o|o|o|o<;>rw[o]at c;·exact((nA _ _ _ _ _ _ _ _ _).1 c).1
  ·exact((nB _ _ _ _ _ _ _ _ _).1 c).1
  ·exact((nT _ _ _ _ _ _ _ _ _).1 c).1
  ·exact((nU _ _ _ _ _ _ _ _ _).1 c).1
  ·exact((nV _ _ _ _ _ _ _ _ _).1 c).1
 have L:=v.recs;rw[b,u]at L;refine(LO low n.id n.nodes n.nb l D H S W fs (-1) (eA t) ms a w h1 dG hL s R N j.1 j.2 p.1 p.2 d (λm Q=>(F m Q).1) X oG A oG (λg C=>Nat.le_trans K (i g C).1)).mono ?_;rintro r w' ⟨Kn,Nd,rfl,o,a1,a2,St,Mp,C',V,hC,O,hb⟩;rw[←u,←b]at V;have hR:Rg (nJ n.id n.nodes n.nb St) [] [] (t+1):=⟨y,j,p,by show(0:Int)<=0/\(0:Int)<=3;decide,λb _=>absurd b (by show¬(1:Int)<=0;decide),by show((0:Int)<=0/\(0:Int)<=5)/\((0:Int)<=0/\(0:Int)<=31);decide,by show(0:Int)<=0/\0<n.nodes;omega,by show(0:Int)<=0/\(0:Int)<=_;decide,by show(0:Int)<=0/\(0:Int)<=_;decide,by show((0:Int)<=0/\(0:Int)<=_)/\((0:Int)<=0/\(0:Int)<=_)/\((0:Int)<=0/\(0:Int)<=_);decide,λb=>absurd b (by show¬(0:Int)<0;decide),by show(0:Int)<=0/\(0:Int)<=_;omega,sG,sG⟩;have x:q.id=n.id:=by rw[b];exact(uI ms _).1
 have M:q.wh=(a==[]):=by rw[b];exact(uI ms _).2.2
 have z:iH ((fE q.id n.nodes 0 true).play ms) q:=by rw[x,b];exact(AV _ _ _ _ _ _).play (oW _ _ _ _) (oW _ _ _ _) ms
 refine⟨Kn,Nd,Mp,C',rfl,⟨o,⟨nJ n.id n.nodes n.nb St,q,fs,[],[],[],V.mono (wX t),v,E,hR,x,rfl,⟨h3,.inl ⟨ms,a,⟨d,F,X,oG,z⟩,h5,λ_ U=>?_⟩⟩⟩,λhh=>absurd (O _ hh) (Nat.lt_irrefl _),?_⟩,?_,hb⟩;·rw[M]at U;exact eq_of_beq U
 ·have:=R.two;omega
 ·rintro g (C|rfl)
  ·rcases hC g C with b|b|b|b|b;·exact(i g (.inl b)).1
   ·exact(i g (.inr (.inl b))).1
   ·exact(i g (.inr (.inr (.inl b)))).1
   ·exact(i g (.inr (.inr (.inr b)))).1
   ·have:=i D (.inl rfl);omega
  ·have:=i D (.inl rfl);omega
def qM.new{w:World}{n:AG.Nd}{t low D H S B:Nat}(h:qM w n t low D H S B)(e:t+1<=1000000)(i:dW w)(a:low<=w.heap.size)(b:2<=B):Calls pG 66 #[I n.id,I n.nodes,I n.nb,P0 (Y ⟨D,0,Z⟩)] w λr w'=>∃Kn Nd Mp C' n',r=.returned (.tuple #[P0 (Y ⟨Kn,0,Z⟩),I 0])/\fO w' Kn ⟨low,Nd,Mp,D,H,S⟩ (t+1) C' (-1) n'/\Cr n n'/\(∀g,C' g∨g=Kn->B<=g)/\Below w.heap.size w w':=by obtain⟨k,fs,ms,c,l,h⟩:=h;refine(rQ.new h e i a b).mono ?_;rintro r w' ⟨Kn,Nd,Mp,C',j,d,f⟩;exact⟨Kn,Nd,Mp,C',_,j,d,h.2.2.2.2.2.2.2.2.2.2.2.1,f⟩
end Go.Proofs.YtdcainmlcpafbaaGreatDoor
