import Derived.Test.YtdcainmlcpafbaaGreatDoorJ13
import Derived.Test.YtdcainmlcpafbaaGreatDoorJ25
set_option linter.all false
set_option maxHeartbeats 4000000
set_option maxRecDepth 20000
namespace Go.Proofs.YtdcainmlcpafbaaGreatDoor
open Go.RowKit
open Value renaming slice->J,pointer->P0
open Tryz renaming prog->pG
open IntKind renaming i64->T
open Option renaming none->Z,some->Y
open Obj renaming cells->G
open Value (bool)
section
variable {w w':World} {P:Pl} {x x':NB} {d:SD} {fs:List FD} {left:Int} {t:Nat} {C C':Nat->Prop} {la lo la' lo':List Ky} {rs rs':List dO} {tr:AG.Ms} {m:dN}
def MZ(e:fS d x.2)(a:0<d.recs.length)(set:Int):mH x d set=true↔(bits .andNot .i64 set ((dK x d.du la lo rs tr).d.rc (dK x d.du la lo rs tr).d.ep).S≠0∨AG.folB ((dK x d.du la lo rs tr).d.rc (dK x d.du la lo rs tr).d.ep) ((dK x d.du la lo rs tr).d.ep+1) ((dK x d.du la lo rs tr).id+1) set=false∨1000000000000<(dK x d.du la lo rs tr).fe 0):=by
 have g:(dK x d.du la lo rs tr).d.rc (dK x d.du la lo rs tr).d.ep=d.ek:=oJ a;have b:=D1 e a (d.ep+1) (x.id+1) set;have c:=(pD e a).1;rw[g];have h:AG.folB d.ek ((dK x d.du la lo rs tr).d.ep+1) ((dK x d.du la lo rs tr).id+1) set=lA d.ek.E d.ek.P d.ek.S (d.ek.E+1) (x.id+1) set:=by rw[oJ a]at b;rw[c];rw[c]at b;exact b
 rw[h];unfold mH;have f:(dK x d.du la lo rs tr).fe 0=(gC x d set).nb' d:=rfl;rw[f];simp only[Bool.or_eq_true,bne_iff_ne,Bool.not_eq_true',decide_eq_true_eq]
def xI(j:0<=x.id/\x.id<x.2)(l:2<=x.2/\x.2<=5)(c:BG t d)(f:t<=20000000)(g:0<=x.nb' d/\x.nb' d<=1000000000000):eR x.2 ((dK x d.du la lo rs tr).tell {AG.Ms.nil with k:=1,e:=d.ep,b:=x.nb' d} (dK x d.du la lo rs tr).others):=by have i:=qL c f;exact uF (dK x d.du la lo rs tr) _ ⟨sA x.id d.ep (x.nb' d) oG oG g,by intro z h;exact absurd h (by simp[AG.Ms.nil]),by intro a;exact absurd a (by show¬(1:Int)=9;decide)⟩
def xJ(a:0<=x.id/\x.id<x.2)(c:2<=x.2/\x.2<=5):fY ((dK x d.du la lo rs tr).tell {AG.Ms.nil with k:=1,e:=d.ep,b:=x.nb' d} (dK x d.du la lo rs tr).others)=fZ (kH x) (gR 1 x.id d.ep (x.nb' d) 0 0 0 0 0 0 []) x.2.toNat:=uA x c a (dK x d.du la lo rs tr) rfl rfl _
def wY(a:BG t d)(b:t<=20000000)(c:0<=x.nb' d/\x.nb' d<=1000000000000):iT (fX x d)/\iI (fX x d).k (fX x d).bl (fX x d).zs.length/\((fX x d).k=6->(fX x d).e=d.ep/\(fX x d).e<1000000000000):=by have g:=qL a b;exact⟨Q1 _ _ oG c,.inl rfl,λf=>absurd f (by show¬(1:Int)=6;decide)⟩
def xX{B:Nat}(a:Rg x la rs t)(e:fS d x.2)(f:0<=x.nb' d/\x.nb' d<=1000000000000):Rg (jW x d B) [(2,d.ep,x.nb' d,x.id)] rs (t+1):=by
 have c:=e.at d.ep;have b:(eP d 1 d.ep (x.nb' d)).wa=(dJ d.3 d.ep).ac/\(eP d 1 d.ep (x.nb' d)).p=(dJ d.3 d.ep).pm/\(eP d 1 d.ep (x.nb' d)).s=(dJ d.3 d.ep).st:=by have j:=tI (dJ d.3 d.ep).pr x.rf x.id c.1.1 a.rf.1 a.id.1;rw[wM d (x.nb' d) (by unfold NB.nb';omega)];exact⟨rfl,rfl,rfl⟩
 have h:=a.ops;have i:=a.rs;refine⟨a.nn,a.id,a.nb,by show(0:Int)<=2/\(2:Int)<=3;decide,λ_ _=>⟨B,rfl⟩,a.g,a.jo,f,a.rf,?_,a.on,by show 0<=x.ops/\x.ops<=((t+1:Nat):Int);omega,oG,sG⟩;show(0<=(eP d 1 d.ep (x.nb' d)).wa/\(eP d 1 d.ep (x.nb' d)).wa<=1000000000000)/\(0<=(eP d 1 d.ep (x.nb' d)).p/\(eP d 1 d.ep (x.nb' d)).p<=5)/\(0<=(eP d 1 d.ep (x.nb' d)).s/\(eP d 1 d.ep (x.nb' d)).s<=31);rw[b.1,b.2.1,b.2.2];exact c.2
def D8(a:Rg x la rs t)(c:fS d x.2)(h:¬1000000000000<x.nb' d):0<=x.nb' d/\x.nb' d<=1000000000000:=by have b:=c.at d.ep;have e:=tI (dJ d.3 d.ep).pr x.rf x.id b.1.1 a.rf.1 a.id.1;unfold NB.nb' at h⊢;omega
def C6(a:Rg x la rs t){set:Int}(hs:0<=set/\set<=31)(hi:x.2<=5){B:Nat}:Rg {gC x d set with an:=some B} [] rs t:=by have b:=a.id;have c:=a.nn;exact⟨a.nn,a.id,a.nb,by show(0:Int)<=2/\(2:Int)<=3;decide,λ_ _=>⟨B,rfl⟩,⟨by show 0<=x.id+1/\x.id+1<=5;omega,hs⟩,by show(0:Int)<=0/\0<x.2;omega,by show(0:Int)<=0/\(0:Int)<=_;decide,by show(0:Int)<=0/\(0:Int)<=_;decide,by show((0:Int)<=0/\(0:Int)<=_)/\((0:Int)<=0/\(0:Int)<=_)/\((0:Int)<=0/\(0:Int)<=_);decide,a.on,a.ops,a.rs,sG⟩
end
def fV.eu(hSO:fB)(hBW:fH)(hBS:fI){w:World}{P:Pl}{t:Nat}{C:Nat->Prop}{left:Int}{n:AG.Nd}(h:fV w P t C left n)(N:t+1<=20000000)(set:Int)(hs:0<=set/\set<=31):Calls pG 86 #[P0 (Y ⟨P.Nd,0,Z⟩),I set] w λr w'=>∃l ok,r=.returned (.tuple #[l,I (n.eu set ok).2.2])/\gL P t C left n.2 ((n.eu set ok).1,(n.eu set ok).2.1) ok l w w':=by
 obtain⟨x,d,fs,la,lo,rs,R,p,q,c,hi,F,y⟩:=h.ex;generalize n.tr=tr at F y;subst F;have A:=q.at d.ep;have a:=MZ (x:=x) (la:=la) (lo:=lo) (rs:=rs) (tr:=tr) q p.ne set;refine(IV hSO hBW hBS P x d fs left t C la lo rs set w R p N c.nn c.id A.1 hs).mono ?_;rintro r w' (⟨e,rfl,D,u,U⟩|⟨f,m,c3,D⟩)
 ·have o:(dK x d.du la lo rs tr).eu set true=(dK x d.du la lo rs tr,[],e):=by
   unfold AG.Nd.eu;rcases D with⟨f,rfl⟩|⟨f,m,rfl⟩|⟨f,m,c3,rfl⟩;·rw[if_pos (show(dK x d.du la lo rs tr).5=true from f)]
   ·rw[if_neg (show¬(dK x d.du la lo rs tr).5=true by show¬x.5=true;simp[f]),if_pos (a.1 m)]
   ·rw[if_neg (show¬(dK x d.du la lo rs tr).5=true by show¬x.5=true;simp[f]),if_neg (λi=>by rw[a.2 i]at m;exact absurd m sG),if_pos (show(dK x d.du la lo rs tr).ph≠0 from c3)]
  refine⟨_,true,by rw[o],?_⟩;rw[o];exact⟨dZ.nil _ _,eR.nil _,eT.keep u U p q c.next hi y⟩
 ·have dF:(dK x d.du la lo rs tr).5=false:=f;have v:¬1000000000000<(gC x d set).nb' d:=λi=>by have:mH x d set=true:=a.2 (.inr (.inr i));rw[this]at m;exact absurd m sG
  have S:Rg (gC x d set) [] rs t->True:=λ_=>trivial;have g:0<=(gC x d set).nb' d/\(gC x d set).nb' d<=1000000000000:=by have F:=tI (dJ d.3 d.ep).pr 0 x.id A.1.1 dG c.id.1;have i:(gC x d set).nb' d=kF (dJ d.3 d.ep).pr 0 x.id:=rfl;rw[i]at v⊢;omega
  have j:=λok=>wU (x:=gC x d set) (d:=d) (la:=[]) (lo:=lo) (rs:=rs) (tr:=tr) A.1.1 (by show(0:Int)<=0;decide) c.id.1 f v ok;have o:∀ok,(dK x d.du la lo rs tr).eu set ok=(((dK (gC x d set) d.du [] lo rs tr).fu ok).1,((dK (gC x d set) d.du [] lo rs tr).fu ok).2,if((dK (gC x d set) d.du [] lo rs tr).fu ok).1.5=true then 3 else 0):=by intro ok;unfold AG.Nd.eu;rw[if_neg (show¬(dK x d.du la lo rs tr).5=true by rw[dF];simp),if_neg (λi=>by rw[a.2 i]at m;exact absurd m sG),if_neg (show¬(dK x d.du la lo rs tr).ph≠0 from λi=>i c3)];rfl
  obtain⟨K,L,H⟩:=wY (x:=gC x d set) p (by omega:t<=20000000) g;have W:Rg (gC x d set) [] rs t∨True:=.inr trivial;have s:Jr fs d (gC x d set).2 t false tr:=by rw[f]at y;exact y
  rcases D with⟨rfl,u⟩|⟨l,B,rfl,E,u⟩;·refine⟨_,false,by rw[o,j];rfl,?_⟩;rw[o,j];refine⟨dZ.nil _ _,eR.nil _,?_⟩;obtain⟨M,V,O,X,Q⟩:=eT.fall (x:={gC x d set with an:=some 0}) (la:=[]) (lo:=lo) (tr:=tr) u p oG q (C6 c hs c.nn.2) hi s K L H;exact⟨M,V,O,X,Q⟩
  ·refine⟨l,true,by rw[o,j];rw[if_neg];exact λi=>by have:x.5=true:=i;rw[f]at this;exact absurd this sG,?_⟩;rw[o,j];refine⟨by show dZ w' w.1.size l (fY ((dK (gC x d set) d.du [] lo rs tr).tell {AG.Ms.nil with k:=1,e:=d.ep,b:=(gC x d set).nb' d} (dK (gC x d set) d.du [] lo rs tr).others));rw[xJ (x:=gC x d set) c.id c.nn];exact E,xI (x:=gC x d set) c.id c.nn p oG g,?_⟩;have z:Rg (jW (gC x d set) d B) [(2,d.ep,(gC x d set).nb' d,x.id)] rs (t+1):=xX (x:={gC x d set with an:=some B}) (C6 c hs c.nn.2) q g;exact eT.save (x':=jW (gC x d set) d B) u p oG q z hi s K L H f tr
section
variable {w w':World} {P:Pl} {x x':NB} {d:SD} {fs:List FD} {left:Int} {t:Nat} {C C':Nat->Prop} {la lo la' lo':List Ky} {rs rs':List dO} {tr:AG.Ms} {m:dN}
def uW(x:NB)(d:SD)(la lo:List Ky)(rs:List dO)(tr:AG.Ms)(r:Bool):(dK x d.du la lo rs tr).jl r=jQ x d r:=by
 unfold AG.Nd.jl jQ vM;show(if x.5=true then 3 else if x.act=false then 5 else if r=false∨d.last=1000000000000 then 1 else if x.ph≠0∨0<x.on then 4 else 0)=_;cases x.5
 ·cases x.act;·simp
  ·cases r;·simp
   ·by_cases b:d.last=1000000000000;·simp[b]
    ·have a:(d.last==1000000000000)=false:=by simpa using b
     by_cases e:x.ph=0;·by_cases f:0<x.on<;>simp[b,a,e,f]
     ·have c:(x.ph != 0)=true:=by simpa using e
      simp[b,a,e,c]
 ·simp
def zG(d:SD)(nb:Int)(h:1<=nb/\nb<=4):(List.range nb.toNat).map (λi:Nat=>d.du.bk i)=iJ d nb:=by have a:nb=1∨nb=2∨nb=3∨nb=4:=oG;rcases a with rfl|rfl|rfl|rfl<;>rfl
def C7(d:SD)(nb:Int)(h:1<=nb/\nb<=4):(iJ d nb).length=nb.toNat:=by unfold iJ;simp;omega
def xY{nn:Int}(a:fS d nn)(nb:Int):∀z∈iJ d nb,i_ z:=by
 intro z b;have:=List.mem_of_mem_take b;simp only[List.mem_cons,List.mem_nil_iff,or_false]at this;rcases this with rfl|rfl|rfl|rfl;·exact a.b0
 ·exact a.b1
 ·exact a.b2
 ·exact a.b3
def P1:∀s:Fin 32,∀k:Fin 5,eU (s.val:Int) k.val=false->bits .or .i64 (s.val:Int) (2^k.val)=(s.val:Int)+2^k.val/\(s.val:Int)+2^k.val<=31:=by decide +kernel
end
def fV.admi(hSO:fB)(hBW:fH)(hBS:fI){w:World}{P:Pl}{t:Nat}{C:Nat->Prop}{left:Int}{n:AG.Nd}(h:fV w P t C left n)(Q:t+1<=20000000)(k:Nat)(p:(k:Int)<n.2):Calls pG 87 #[P0 (Y ⟨P.Nd,0,Z⟩),I (k:Int)] w λr w'=>∃l ok,r=.returned (.tuple #[l,I (n.admi k ok).2.2])/\gL P t C left n.2 ((n.admi k ok).1,(n.admi k ok).2.1) ok l w w':=by
 obtain⟨x,d,fs,la,lo,rs,W,m,g,a,hi,N,z⟩:=h.ex;generalize n.tr=tr at N z;subst N;have hS:=pD g m.ne;have he:=qL m (by omega:t<=20000000);have f:(dK x d.du la lo rs tr).adm (k:Int)=!eU d.ek.S k:=by unfold AG.Nd.adm;rw[show((dK x d.du la lo rs tr).d.rc (dK x d.du la lo rs tr).d.ep)=d.ek from oJ m.ne];have j:0<=(k:Int)/\(k:Int)<(dK x d.du la lo rs tr).2:=⟨Int.natCast_nonneg k,p⟩;rw[decide_eq_true j,Int.toNat_natCast,Bool.true_and]
 have hz:(dK x d.du la lo rs tr).fq.zs=iJ d x.nb:=zG d x.nb a.nb;refine(KW hSO hBW hBS P x d fs left t C la lo rs k w W m Q a.nn a.id a.nb g.la hS.2.2 p).mono ?_;rintro r w' (⟨A,rfl,v,hx⟩|⟨A,b,V⟩)
 ·have o:(dK x d.du la lo rs tr).admi k true=(dK x d.du la lo rs tr,[],jQ x d (!eU d.ek.S k)):=by unfold AG.Nd.admi;rw[f,uW,if_pos A]
  refine⟨_,true,by rw[o],?_⟩;rw[o];exact⟨dZ.nil _ _,eR.nil _,eT.keep v hx m g a.next hi z⟩
 ·obtain⟨M,c2,c3,c4,c5,c6⟩:=tJ A;have u:eU d.ek.S k=false:=by simpa using c3
  have B:(jY x d b).ms={(dK x d.du la lo rs tr).fq with q:=d.last+1}:=by unfold jY dN.ms AG.Nd.fq;dsimp only;rw[show((List.range (dK x d.du la lo rs tr).nb.toNat).map (λi:Nat=>(dK x d.du la lo rs tr).d.bk i))=iJ d x.nb from zG d x.nb a.nb];rfl
  have X:=g.la;have hl:d.last+1<=1000000000000:=oG;have c:=C7 d x.nb a.nb;have a1:=a.nb;have a2:=a.id;have a0:=a.nn;have K:iT (jY x d b):=⟨sB 0 d.ep (d.last+1) (iJ d x.nb).length dG oG oG (by rw[c];omega),xY g x.nb⟩;have O:iI (jY x d b).k (jY x d b).bl (jY x d b).zs.length:=.inr (.inr (.inr (.inr ⟨rfl,by show 1<=(iJ d x.nb).length/\(iJ d x.nb).length<=4;rw[c];omega⟩)));have H:(jY x d b).k=6->(jY x d b).e=d.ep/\(jY x d b).e<1000000000000:=λj=>absurd j (by show¬(9:Int)=6;decide);have s:Jr fs d x.2 t false tr:=by rw[M]at z;exact z
  have o:∀ok,(dK x d.du la lo rs tr).admi k ok=if ok=true then({(dK x d.du la lo rs tr).save (jY x d b).ms true with ph:=1,jo:=(k:Int),gP:=d.ek.P,gS:=d.ek.S+2 ^ k,ba:=0,rf:=0,fo:=.nil,an:=[]},(dK x d.du la lo rs tr).tell (jY x d b).ms [(k:Int)],0) else((dK x d.du la lo rs tr).fall (jY x d b).ms,[],3):=by intro ok;unfold AG.Nd.admi;rw[f,uW,if_neg (by rw[A];simp),B];rw[show((dK x d.du la lo rs tr).d.rc (dK x d.du la lo rs tr).d.ep)=d.ek from oJ m.ne,Int.toNat_natCast];rfl
  have L:=P1 ⟨d.ek.S.toNat,oG⟩ ⟨k,by have:(k:Int)<x.2:=p;omega⟩;simp only[show((d.ek.S.toNat:Nat):Int)=d.ek.S by omega]at L;obtain⟨y,U⟩:=L u;rcases V with⟨rfl,v⟩|⟨l,rfl,F,v⟩;·refine⟨_,false,by rw[o];rfl,?_⟩;rw[o];exact⟨dZ.nil _ _,eR.nil _,eT.fall v m oG g a hi s K O H⟩
  ·refine⟨l,true,by rw[o];rfl,?_⟩;rw[o,if_pos rfl];have E:(k:Int)<x.2:=p;refine⟨?_,EW _ _ _ ⟨Int.natCast_nonneg k,p⟩ ⟨sB x.id d.ep (d.last+1) (iJ d x.nb).length oG oG oG (by rw[c];omega),xY g x.nb,λ_=>by show 1<=(iJ d x.nb).length;rw[c];omega⟩,?_⟩;·show dZ w' w.1.size l (fY ((dK x d.du la lo rs tr).tell (jY x d b).ms [(k:Int)]));rw[D0 x a.nn (dK x d.du la lo rs tr) rfl (jY x d b).ms k E];exact F
   ·have D:Rg (nA x d k) [] rs (t+1):=by
     have ho:=a.ops;have hr:=a.rs;refine⟨a.nn,a.id,a.nb,by show(0:Int)<=1/\(1:Int)<=3;decide,λ_ j=>absurd j (by show¬((0:Int)<0∨(3:Int)<=1);decide),⟨hS.2.1,?_⟩,⟨Int.natCast_nonneg k,p⟩,by show(0:Int)<=0/\(0:Int)<=_;decide,by show(0:Int)<=0/\(0:Int)<=_;decide,by show((0:Int)<=0/\(0:Int)<=_)/\((0:Int)<=0/\(0:Int)<=_)/\((0:Int)<=0/\(0:Int)<=_);decide,a.on,by show 0<=x.ops/\x.ops<=((t+1:Nat):Int);omega,oG,sG⟩;show 0<=bits .or .i64 d.ek.S (2^k)/\bits .or .i64 d.ek.S (2^k)<=31;rw[y];have:(0:Int)<=2^k:=by exact Int.le_of_lt (Int.pow_pos dG)
     omega
    have j:=eT.save (x':=nA x d k) v m oG g D hi s K O H M tr;have R:dK (nA x d k) (d.du.step (jY x d b).ms) [] lo rs tr={(dK x d.du la lo rs tr).save (jY x d b).ms true with ph:=1,jo:=(k:Int),gP:=d.ek.P,gS:=d.ek.S+2 ^ k,ba:=0,rf:=0,fo:=.nil,an:=[]}:=by unfold dK AG.Nd.save;dsimp only[nA];rw[y];rfl
    rw[R]at j;exact j
def wZ{d:SD}{fs:List FD}{left:Int}{t:Nat}{m:dN}{P:Pl}{x:NB}{C:Nat->Prop}{la lo:List Ky}{rs:List dO}{w w':World}(h:FX (pT true d fs left t m) P x C la lo rs w w'):eQ P x d fs left t C la lo rs m true w w':=by
 obtain⟨d',fs',left',L',C',b,a,c⟩:=h;rcases b with⟨e,_⟩|⟨_,f,g,rfl,rfl⟩;·exact absurd e sG
 ·exact⟨fs',left',f,C',g,a,c⟩
section
variable {w w':World} {P:Pl} {x x':NB} {d:SD} {fs:List FD} {left:Int} {t:Nat} {C C':Nat->Prop} {la lo la' lo':List Ky} {rs rs':List dO} {tr:AG.Ms} {m:dN}
def D9{bl v:Int}{r:Ending}(n:BG t d)(o:fS d x.2)(a:Rg x la rs t)(hi:d.id=x.id)(M:Jr fs d x.2 t x.5 tr)(ht:t+1<=20000000)(Q:i_ v)(X:zO P x d fs left t C la lo rs bl v r w w'):∃l ok,r=.returned (.tuple #[I (bif ((dK x d.du la lo rs tr).operate bl v ok).2.2==0 then x.ops+1 else 0),l,I ((dK x d.du la lo rs tr).operate bl v ok).2.2])/\gL P t C left x.2 (((dK x d.du la lo rs tr).operate bl v ok).1,((dK x d.du la lo rs tr).operate bl v ok).2.1) ok l w w':=by
 have hS:=pD o n.ne;have he:=qL n (by omega:t<=20000000);have s:(dK x d.du la lo rs tr).blk bl=lM x bl:=rfl;rcases X with⟨u,rfl,b,hx⟩|⟨u,hc⟩
 ·have j:(dK x d.du la lo rs tr).operate bl v true=(dK x d.du la lo rs tr,[],jQ x d (lM x bl)):=by unfold AG.Nd.operate;rw[s,uW,if_pos u]
  have D:(jQ x d (lM x bl)==0)=false:=by simpa using u
  refine⟨J Z 0 0,true,by rw[j];simp[D],?_⟩;rw[j];exact⟨dZ.nil _ _,eR.nil _,eT.keep b hx n o a.next hi M⟩
 ·obtain⟨F,c2,c3,c4,c5,c6⟩:=tJ u;have U:0<=bl/\bl<x.nb:=by unfold lM at c3;simpa using c3
  have a2:=a.nb;have a0:=o.la;have hl:d.last+1<=1000000000000:=oG;have a3:=a.id;have a1:=a.nn;have A:iT (fR d bl v):=⟨vU 0 d.ep (d.last+1) bl v dG oG oG oG Q,by intro z H;exact absurd H (by simp[fR])⟩;have O:iI (fR d bl v).k (fR d bl v).bl (fR d bl v).zs.length:=.inr (.inr (.inr (.inl ⟨rfl,by show 0<=bl/\bl<=3;omega⟩)));have y:(fR d bl v).k=6->(fR d bl v).e=d.ep/\(fR d bl v).e<1000000000000:=λc=>absurd c (by show¬(7:Int)=6;decide);have i:Jr fs d x.2 t false tr:=by rw[F]at M;exact M
  have V:(fR d bl v).ms={AG.Ms.nil with k:=7,e:=d.ep,q:=d.last+1,bl:=bl,v:=v}:=rfl;have L:Rl {(fR d bl v).ms with f:=x.id}:=⟨vU x.id d.ep (d.last+1) bl v oG oG oG oG Q,by intro z H;exact absurd H (by simp[fR,dN.ms]),λc=>absurd c (by show¬(7:Int)=9;decide)⟩;have j:∀ok,(dK x d.du la lo rs tr).operate bl v ok=if ok=true then((dK (iB x d bl v 0) (d.du.step (fR d bl v).ms) la [] rs tr).finish,(dK (iB x d bl v 0) (d.du.step (fR d bl v).ms) la [] rs tr).tell (fR d bl v).ms (dK (iB x d bl v 0) (d.du.step (fR d bl v).ms) la [] rs tr).missing,0) else((dK x d.du la lo rs tr).fall (fR d bl v).ms,[],3):=by intro ok;unfold AG.Nd.operate;rw[s,uW,if_neg (by rw[u];simp)];rfl
  have h:((dK (iB x d bl v 0) (d.du.step (fR d bl v).ms) la [] rs tr).d.rc (dK (iB x d bl v 0) (d.du.step (fR d bl v).ms) la [] rs tr).d.ep).S=d.ek.S:=by have h7:=AG.step79 d.du (m:=(fR d bl v).ms) (.inl rfl);show((d.du.step (fR d bl v).ms).rc (d.du.step (fR d bl v).ms).ep).S=_;unfold AG.Du.rc AG.Du.ep;rw[h7.1];exact congrArg eM.S (oJ n.ne)
  rcases hc with⟨rfl,b⟩|⟨l,B,rfl,N,b⟩;·refine⟨_,false,by rw[j];rfl,?_⟩;rw[j];exact⟨dZ.nil _ _,eR.nil _,eT.fall b n oG o a hi i A O y⟩
  ·refine⟨l,true,by rw[j];rfl,?_⟩;rw[j,if_pos rfl];have ho:=a.ops;have hr:=a.rs;have W:=a.la;refine⟨?_,xU (dK (iB x d bl v 0) (d.du.step (fR d bl v).ms) la [] rs tr) (fR d bl v).ms L,?_⟩;·show dZ w' w.1.size l (fY ((dK (iB x d bl v 0) (d.du.step (fR d bl v).ms) la [] rs tr).tell (fR d bl v).ms (dK (iB x d bl v 0) (d.du.step (fR d bl v).ms) la [] rs tr).missing));rw[xH (iB x d bl v 0) (dK (iB x d bl v 0) (d.du.step (fR d bl v).ms) la [] rs tr) rfl rfl d.ek.S h (fR d bl v).ms];exact N
   ·have p:Rg (iB x d bl v B) la rs (t+1):=⟨a.nn,a.id,a.nb,a.ph,a.an,a.g,a.jo,a.ba,a.rf,a.fo,λ_=>⟨⟨B,rfl⟩,rfl,vU x.id d.ep (d.last+1) bl v oG oG oG oG Q⟩,by show 0<=x.ops+1/\x.ops+1<=((t+1:Nat):Int);omega,oG,oG⟩;rcases b with⟨K,b⟩|⟨K,vv,b⟩
    ·have c:=eT.save (x':=iB x d bl v B) (wZ b) n oG o p hi i A O y F tr;have E:(dK (iB x d bl v 0) (d.du.step (fR d bl v).ms) la [] rs tr).finish=dK (iB x d bl v B) (d.du.step (fR d bl v).ms) la [] rs tr:=by
      unfold AG.Nd.finish;rw[h,if_neg];·rfl
      ·exact K
     rw[E];exact c
    ·have R:Rg (lE (iB x d bl v B) vv) la (rs++[oT (iB x d bl v B)]) (t+1):=⟨a.nn,a.id,a.nb,a.ph,a.an,a.g,a.jo,a.ba,a.rf,a.fo,λc=>absurd c (by show¬(0:Int)<0;decide),by show 0<=x.ops+1/\x.ops+1<=((t+1:Nat):Int);omega,nG,oG⟩;have c:=eT.save (x':=lE (iB x d bl v B) vv) (wZ b) n oG o R hi i A O y F tr;have E:(dK (iB x d bl v 0) (d.du.step (fR d bl v).ms) la [] rs tr).finish=dK (lE (iB x d bl v B) vv) (d.du.step (fR d bl v).ms) la [] (rs++[oT (iB x d bl v B)]) tr:=by
      unfold AG.Nd.finish;rw[h,if_pos];·rfl
      ·exact K
     rw[E];exact c
end
def fV.write(hSO:fB)(hBW:fH)(hBS:fI){w:World}{P:Pl}{t:Nat}{C:Nat->Prop}{left:Int}{n:AG.Nd}(h:fV w P t C left n)(e:t+1<=20000000)(bl v:Int)(i:i_ v):Calls pG 142 #[P0 (Y ⟨P.Nd,0,Z⟩),I bl,I v] w λr w'=>∃l ok,r=.returned (.tuple #[I (bif (n.operate bl v ok).2.2==0 then n.ops+1 else 0),l,I (n.operate bl v ok).2.2])/\gL P t C left n.2 ((n.operate bl v ok).1,(n.operate bl v ok).2.1) ok l w w':=by obtain⟨x,d,fs,la,lo,rs,k,c,b,a,hi,g,f⟩:=h.ex;generalize n.tr=tr at g f;subst g;have hS:=pD b c.ne;have m:=a.ops;have o:=a.rs;refine(KR hSO hBW hBS P x d fs left t C la lo rs bl v i w k c e a.nn a.id a.nb b.la hS.2.2 oG oG).mono ?_;intro r w' j;exact D9 c b a hi f e i j
def Fz{d:SD}{n:Int}(h:fS d n)(i:Int):-9223372036854775808<=d.bk i/\d.bk i<=9223372036854775807:=by
 unfold SD.bk;split;·exact h.b0
 split;·exact h.b1
 split;·exact h.b2
 split;·exact h.b3
 ·decide
def fV.read(hSO:fB)(hBW:fH)(hBS:fI){w:World}{P:Pl}{t:Nat}{C:Nat->Prop}{left:Int}{n:AG.Nd}(h:fV w P t C left n)(e:t+1<=20000000)(bl:Int):Calls pG 141 #[P0 (Y ⟨P.Nd,0,Z⟩),I bl] w λr w'=>∃l ok,r=.returned (.tuple #[I (bif (n.operate bl (n.d.bk bl) ok).2.2==0 then n.ops+1 else 0),l,I (n.operate bl (n.d.bk bl) ok).2.2])/\gL P t C left n.2 ((n.operate bl (n.d.bk bl) ok).1,(n.operate bl (n.d.bk bl) ok).2.1) ok l w w':=by obtain⟨x,d,fs,la,lo,rs,k,c,b,a,hi,g,f⟩:=h.ex;generalize n.tr=tr at g f;subst g;have hS:=pD b c.ne;have m:=a.ops;have o:=a.rs;refine(MK hSO hBW hBS P x d fs left t C la lo rs bl (λi _ _=>Fz b i) w k c e a.nn a.id a.nb b.la hS.2.2 oG oG).mono ?_;intro r w' j;exact D9 c b a hi f e (Fz b bl) j
def fV.gq(hSO:fB)(hBW:fH)(hBS:fI){w:World}{P:Pl}{t:Nat}{C:Nat->Prop}{left:Int}{n:AG.Nd}(h:fV w P t C left n)(ht:t+1<=20000000):Calls pG 85 #[P0 (Y ⟨P.Nd,0,Z⟩)] w λr w'=>∃l ok,r=.returned l/\gL P t C left n.2 (n.gq ok) ok l w w':=by
 obtain⟨x,d,fs,la,lo,rs,hF,g,j,c,hi,hn,U⟩:=h.ex;generalize n.tr=tr at hn U;subst hn;have hS:=pD j g.ne;have hg:=j.at d.ep;have he:=qL g (by omega:t<=20000000);have a1:=c.id;have a3:=c.nn;have a0:=j.la;have a4:=c.nb;have Q:=C7 d x.nb c.nb;have a2:=c.jo;obtain⟨B0,X⟩:∃B,0<x.on->x.oa=some B:=by
  by_cases a:0<x.on;·obtain⟨B,g⟩:=(c.on a).1;exact⟨B,λ_=>g⟩
  ·exact⟨0,λN=>absurd N a⟩
 have u:0<x.on->Rl {x.ow.ms with f:=x.id}:=by intro a;obtain⟨_,h7,N⟩:=c.on a;refine⟨?_,by intro z M;exact absurd M (by simp[iO.ms]),λh6=>absurd h6 (by show¬x.ow.k=9;omega)⟩;show fP x.ow.k x.id [0,x.ow.e,x.ow.b,x.ow.wa,x.ow.p,x.ow.s,x.ow.q,x.ow.bl,x.ow.v,0]=true;rw[h7];exact N
 refine(KS hSO hBW hBS P x d fs left t C la lo rs B0 w hF g ht c.nn c.id hg.1 c.rf c.nb oG j.la c.ph.1 hS.2.2 X (λa=>by have N:=c.on a;rw[N.2.1];exact N.2.2)).mono ?_;rintro r w' (⟨o,rfl,F,hx⟩|⟨o,A,l,rfl,H,F,hx⟩|⟨o,A,rfl,F⟩|⟨o,A,l,B,rfl,H,F⟩)
 ·have O:(dK x d.du la lo rs tr).gq true=(dK x d.du la lo rs tr,[]):=by unfold AG.Nd.gq;rw[if_pos (show(dK x d.du la lo rs tr).5=true from o)]
  refine⟨_,true,rfl,?_⟩;rw[O];exact⟨dZ.nil _ _,eR.nil _,eT.keep F hx g j c.next hi U⟩
 ·have y:fY (if 0<x.on then(dK x d.du la lo rs tr).tell x.ow.ms (dK x d.du la lo rs tr).missing else[])=oU x d lo:=by
   unfold oU;by_cases a:0<x.on;·rw[if_pos a,decide_eq_true a,cond_true];exact xH x (dK x d.du la lo rs tr) rfl rfl d.ek.S (congrArg eM.S (oJ g.ne)) x.ow.ms
   ·rw[if_neg a,decide_eq_false a,cond_false];rfl
  have D:eR x.2 (if 0<x.on then(dK x d.du la lo rs tr).tell x.ow.ms (dK x d.du la lo rs tr).missing else[]):=by
   by_cases a:0<x.on;·rw[if_pos a];exact xU (dK x d.du la lo rs tr) x.ow.ms (u a)
   ·rw[if_neg a];exact eR.nil _
  have K:∃out,(dK x d.du la lo rs tr).ic true=(dK x d.du la lo rs tr,out)/\fY out=sJ x d/\eR x.2 out:=by
   unfold AG.Nd.ic sJ;show ∃out,(if x.ph=0 then _ else if x.ph=1 then _ else _)=_/\_/\_;by_cases L:x.ph=0;·rw[if_pos L,if_pos L];exact⟨_,rfl,uA x c.nn c.id (dK x d.du la lo rs tr) rfl rfl _,uF (dK x d.du la lo rs tr) _ ⟨sA x.id d.ep 0 oG oG oG,by intro z M;exact absurd M (by simp[AG.Ms.nil]),by intro a;exact absurd a (by show¬(1:Int)=9;decide)⟩⟩
   ·rw[if_neg L,if_neg L];by_cases E:x.ph=1
    ·rw[if_pos E,if_pos E];have M:(dK x d.du la lo rs tr).fq=⟨9,0,d.ep,0,0,0,0,d.last,0,0,iJ d x.nb⟩:=by unfold AG.Nd.fq;rw[show((List.range (dK x d.du la lo rs tr).nb.toNat).map (λi:Nat=>(dK x d.du la lo rs tr).d.bk i))=iJ d x.nb from zG d x.nb c.nb];rfl
     refine⟨_,rfl,?_,?_⟩;·rw[M];have:=D0 x c.nn (dK x d.du la lo rs tr) rfl ⟨9,0,d.ep,0,0,0,0,d.last,0,0,iJ d x.nb⟩ x.jo.toNat oG;rw[show((x.jo.toNat:Nat):Int)=x.jo by omega]at this;exact this
     ·rw[M];exact EW (dK x d.du la lo rs tr) _ _ c.jo ⟨sB x.id d.ep d.last (iJ d x.nb).length oG oG j.la (by rw[Q];omega),xY j x.nb,λ_=>by show 1<=(iJ d x.nb).length;rw[Q];omega⟩
    ·rw[if_neg E,if_neg E];have p2:1000000000000<x.nb' d:=by rcases A with a|a|a;exact absurd a L;exact absurd a E;exact a
     refine⟨[],?_,rfl,eR.nil _⟩;unfold AG.Nd.fu;dsimp only;rw[if_pos (show 1000000000000<(dK x d.du la lo rs tr).fe (dK x d.du la lo rs tr).rf from p2)]
  obtain⟨out,o1,o2,o3⟩:=K;have O:(dK x d.du la lo rs tr).gq true=(dK x d.du la lo rs tr,out++if 0<x.on then(dK x d.du la lo rs tr).tell x.ow.ms (dK x d.du la lo rs tr).missing else[]):=by unfold AG.Nd.gq;rw[if_neg (show¬(dK x d.du la lo rs tr).5=true by show¬x.5=true;simp[o]),o1];rfl
  refine⟨l,true,rfl,?_⟩;rw[O];exact⟨by show dZ w' w.1.size l (fY (_++_));rw[CV,o2,y];exact H,o3.app D,eT.keep F hx g j c.next hi U⟩
 all_goals
  have L:¬x.ph=0:=by have:=A.1;omega
  have E:¬x.ph=1:=by have:=A.1;omega
  have m:=D8 c j A.2
  have V:=λok=>wU (x:=x) (d:=d) (la:=la) (lo:=lo) (rs:=rs) (tr:=tr) hg.1.1 c.rf.1 c.id.1 o A.2 ok
  have K:∀ok,(dK x d.du la lo rs tr).ic ok=(dK x d.du la lo rs tr).fu ok:=by
   intro ok
   unfold AG.Nd.ic
   rw[if_neg (show¬(dK x d.du la lo rs tr).ph=0 from L),if_neg (show¬(dK x d.du la lo rs tr).ph=1 from E)]
  have O:∀ok,(dK x d.du la lo rs tr).gq ok=(((dK x d.du la lo rs tr).fu ok).1,((dK x d.du la lo rs tr).fu ok).2++if 0<((dK x d.du la lo rs tr).fu ok).1.on then((dK x d.du la lo rs tr).fu ok).1.tell ((dK x d.du la lo rs tr).fu ok).1.ow ((dK x d.du la lo rs tr).fu ok).1.missing else[]):=by
   intro ok
   unfold AG.Nd.gq
   rw[if_neg (show¬(dK x d.du la lo rs tr).5=true by show¬x.5=true;simp[o]),K]
  obtain⟨r1,r2,r3⟩:=wY (x:=x) g (by omega:t<=20000000) m
  have R:Jr fs d x.2 t false tr:=by rw[o]at U;exact U
 ·refine⟨_,false,rfl,?_⟩;rw[O,V];exact⟨dZ.nil _ _,eR.nil _,eT.fall F g oG j c hi R r1 r2 r3⟩
 ·refine⟨l,true,rfl,?_⟩;rw[O,V];dsimp only[cond_true];have W:((d.du.step (fX x d).ms).rc (d.du.step (fX x d).ms).ep).S=d.ek.S:=by have h7:(d.du.step (fX x d).ms).recs=d.recs:=rfl;unfold AG.Du.rc AG.Du.ep;rw[h7];exact congrArg eM.S (oJ g.ne)
  have y:fY (if 0<x.on then(dK (jW x d B) (d.du.step (fX x d).ms) [(2,d.ep,x.nb' d,x.id)] lo rs tr).tell x.ow.ms (dK (jW x d B) (d.du.step (fX x d).ms) [(2,d.ep,x.nb' d,x.id)] lo rs tr).missing else[])=oU x d lo:=by
   unfold oU;by_cases a:0<x.on;·rw[if_pos a,decide_eq_true a,cond_true];exact xH (jW x d B) (dK (jW x d B) (d.du.step (fX x d).ms) [(2,d.ep,x.nb' d,x.id)] lo rs tr) rfl rfl d.ek.S W x.ow.ms
   ·rw[if_neg a,decide_eq_false a,cond_false];rfl
  have D:eR x.2 (if 0<x.on then(dK (jW x d B) (d.du.step (fX x d).ms) [(2,d.ep,x.nb' d,x.id)] lo rs tr).tell x.ow.ms (dK (jW x d B) (d.du.step (fX x d).ms) [(2,d.ep,x.nb' d,x.id)] lo rs tr).missing else[]):=by
   by_cases a:0<x.on;·rw[if_pos a];exact xU (dK (jW x d B) (d.du.step (fX x d).ms) [(2,d.ep,x.nb' d,x.id)] lo rs tr) x.ow.ms (u a)
   ·rw[if_neg a];exact eR.nil _
  refine⟨?_,?_,?_⟩;·show dZ w' w.1.size l (fY (_++(if 0<x.on then(dK (jW x d B) (d.du.step (fX x d).ms) [(2,d.ep,x.nb' d,x.id)] lo rs tr).tell x.ow.ms (dK (jW x d B) (d.du.step (fX x d).ms) [(2,d.ep,x.nb' d,x.id)] lo rs tr).missing else[])));rw[CV,y,xJ c.id c.nn];exact H
  ·exact eR.app (xI c.id c.nn g oG m) D
  ·exact eT.save (x':=jW x d B) F g oG j (xX c j m) hi R r1 r2 r3 o tr
def fV.same{w w':World}{P:Pl}{t:Nat}{C:Nat->Prop}{left:Int}{n:AG.Nd}(h:fV w P t C left n)(hs:w.1.size<=w'.1.size)(c:∀g,C g->w'.1[g]?=w.1[g]?)(b:dY w'):fV w' P t C left n:=by obtain⟨x,d,fs,la,lo,rs,e,a⟩:=h.ex;exact⟨x,d,fs,la,lo,rs,e.same hs c b,a⟩
def fV.tabs{w:World}{P:Pl}{t:Nat}{C:Nat->Prop}{left:Int}{n:AG.Nd}(h:fV w P t C left n):dY w:=by obtain⟨x,d,fs,la,lo,rs,a,b⟩:=h.ex;exact a.tabs
def fV.lt{w:World}{P:Pl}{t:Nat}{C:Nat->Prop}{left:Int}{n:AG.Nd}(h:fV w P t C left n):∀g,C g->2<=g/\g<w.1.size:=by obtain⟨x,d,fs,la,lo,rs,a,b⟩:=h.ex;exact a.lt
def fV.later{w w':World}{P:Pl}{t:Nat}{C:Nat->Prop}{left:Int}{n:AG.Nd}(h:fV w P t C left n)(a:Bw w w'):fV w' P t C left n:=h.same a.size (λg b=>a.block g (h.lt g b).2) (h.tabs.below a h.tabs.two)
def eT.later{w w1 w2:World}{P:Pl}{t:Nat}{C:Nat->Prop}{left:Int}{n:AG.Nd}{ok:Bool}(h:eT P t C left n ok w w1)(a:Bw w1 w2):eT P t C left n ok w w2:=by obtain⟨C',c,d,b,e⟩:=h;exact⟨C',c,d.later a,b.later a,e⟩
def eT.pre{w w1 w2:World}{P:Pl}{t:Nat}{C:Nat->Prop}{left:Int}{n:AG.Nd}{ok:Bool}(h:eT P t C left n ok w1 w2)(d:Bw w w1):eT P t C left n ok w w2:=by obtain⟨C',b,c,a,e⟩:=h;exact⟨C',b,c,a.pre d,e⟩
def gL.pre{w w1 w2:World}{P:Pl}{t:Nat}{C:Nat->Prop}{left:Int}{n:Int}{f:AG.Nd×List (Int×AG.Ms)}{ok:Bool}{l:Value}(h:gL P t C left n f ok l w1 w2)(a:Bw w w1):gL P t C left n f ok l w w2:=⟨h.1.mono a.size,h.2.1,h.2.2.pre a⟩
def gL.later{w w1 w2:World}{P:Pl}{t:Nat}{C:Nat->Prop}{left:Int}{n:Int}{f:AG.Nd×List (Int×AG.Ms)}{ok:Bool}{l:Value}(h:gL P t C left n f ok l w w1)(a:Bw w1 w2):gL P t C left n f ok l w w2:=⟨h.1.later a,h.2.1,h.2.2.later a⟩
section
variable {w w':World} {P:Pl} {x x':NB} {d:SD} {fs:List FD} {left:Int} {t:Nat} {C C':Nat->Prop} {la lo la' lo':List Ky} {rs rs':List dO} {tr:AG.Ms}
def B4(m:AG.Ms)(g:m.k=1∨m.k=3)(ok:Bool):(dK x d.du la lo rs tr).iy m ok=bif jA d m.k m.e m.b m.p m.s then(bif ok then((dK x d.du la lo rs tr).save m true,(eP d m.k m.e m.b).ms) else((dK x d.du la lo rs tr).fall m,.nil)) else(dK x d.du la lo rs tr,(eP d m.k m.e m.b).ms):=by
 unfold AG.Nd.iy jA eP;show(if m.e<d.ep then _ else if m.b<(dJ d.3 m.e).pr then _ else _)=_;by_cases c:m.e<d.ep;·rw[if_pos c,if_pos c,decide_eq_true c];rfl
 ·rw[if_neg c,if_neg c,decide_eq_false c];by_cases a:m.b<(dJ d.3 m.e).pr;·rw[if_pos a,if_pos a,decide_eq_true a];rfl
  ·rw[if_neg a,if_neg a,decide_eq_false a];dsimp only;show(if((dJ d.3 m.e).after m.k m.b m.p m.s).nk (dJ d.3 m.e)=true then _ else _)=_;have f:(if m.k=3 then({AG.Ms.nil with k:=4,e:=m.e,b:=m.b}:AG.Ms) else{AG.Ms.nil with k:=2,e:=m.e,b:=m.b,wa:=(dJ d.3 m.e).ac,p:=(dJ d.3 m.e).pm,s:=(dJ d.3 m.e).st})=(if m.k=3 then(⟨4,0,m.e,m.b,0,0,0,0,0,0⟩:iO) else⟨2,0,m.e,m.b,(dJ d.3 m.e).ac,(dJ d.3 m.e).pm,(dJ d.3 m.e).st,0,0,0⟩).ms:=by split<;>rfl
   cases h3:((dJ d.3 m.e).after m.k m.b m.p m.s).nk (dJ d.3 m.e)
   ·rw[if_neg sG];cases ok;·rfl
    ·rw[if_pos rfl];exact congrArg (Prod.mk _) f
   ·rw[if_pos rfl];exact congrArg (Prod.mk _) f
def KX{i nn:Int}(hi:0<=i/\i<5)(h:fS d nn)(m:BG t d)(n:t<=20000000){k e b:Int}(l:k=1∨k=3)(a:e_ e)(f:e_ b):fP (eP d k e b).k i [0,(eP d k e b).e,(eP d k e b).b,(eP d k e b).wa,(eP d k e b).p,(eP d k e b).s,(eP d k e b).q,(eP d k e b).bl,(eP d k e b).v,0]=true:=by
 have c:=h.at e;unfold eP;split
 ·next h1=>
  have g:=h.re (e+1).toNat (by unfold SD.ep at h1;omega);have j:d.qi (e+1)=d.recs[(e+1).toNat]'(by unfold SD.ep at h1;omega):=by unfold SD.qi;rw[List.getD_eq_getElem?_getD,List.getElem?_eq_getElem (by unfold SD.ep at h1;omega)];rfl
  rw[j];exact rZ i e _ _ hi a g.2.1 g.2.2
 split;·exact SE i e b _ hi a f c.1
 split;·exact SF i e b hi a f
 ·exact SG i e b _ _ _ hi a f c.2.1 c.2.2.1 c.2.2.2
def rF{W1:World}{X:Nat}{cs:Array Value}{n':AG.Nd}{id nodes:Int}{ok:Bool}{a:iO}{ms:Value}{K F E B O R N Q H V:Int}(h:eT P t C left n' ok w W1)(e1:n'.id=id)(e2:n'.2=nodes)(hn:nodes<=5)(M:0<=F/\F<nodes)(i:a.k=0∨fP a.k id [0,a.e,a.b,a.wa,a.p,a.s,a.q,a.bl,a.v,0]=true)(A:a.k≠9)(U:dI W1 X cs 136):Calls pG 195 #[P0 (Y ⟨P.Nd,0,Z⟩),.agg (mA K F E B O R N Q H V ms),a.ag] W1 λr2 W2=>∃l,r2=.returned l/\dI W2 X cs 136/\gL P t C left nodes (n',if a.ms.k=0 then[] else[(F,{a.ms with f:=id})]) ok l w W2:=by
 obtain⟨S,l2,L,D,h3⟩:=h;obtain⟨x,d,fs,la,lo,rs,c,hB,hD,hR,hi,j,hJ⟩:=L.ex;have c0:=c.blk.cell 0;have c1:=c.blk.cell 1;have e3:x.id=id:=by rw[←e1,j];rfl
 have e4:x.2=nodes:=by rw[←e2,j];rfl
 have n:W1.cell? ⟨P.Nd,0,Z⟩=Y (I id):=by rw[←e3];exact c0
 have o:W1.cell? ⟨P.Nd,1,Z⟩=Y (I nodes):=by rw[←e4];exact c1
 refine(KO P.Nd id nodes K F E B O R N Q H V ms a W1 n o c.blk.lt c.tabs hn M i).mono ?_;rintro r W2 ⟨l,rfl,hp,u⟩;refine⟨l,rfl,U.later u,?_,?_,⟨S,l2,L.later u,D.later u,h3⟩⟩
 ·have y:=hp.mono D.kept.size;have W:fY (if a.ms.k=0 then[] else[(F,{a.ms with f:=id})])=qV a id F:=by
   unfold qV;by_cases g:a.k=0;·rw[if_pos (show a.ms.k=0 from g),g];rfl
   ·rw[if_neg (show¬a.ms.k=0 from g),show(a.k==0)=false by simpa using g];rfl
  show dZ W2 w.1.size l (fY (if a.ms.k=0 then[] else[(F,{a.ms with f:=id})]));rw[W];exact y
 ·show eR nodes (if a.ms.k=0 then[] else[(F,{a.ms with f:=id})]);by_cases g:a.k=0;·rw[if_pos (show a.ms.k=0 from g)];exact eR.nil _
  ·rw[if_neg (show¬a.ms.k=0 from g)];intro z m;simp only[List.mem_singleton]at m;subst m;rcases i with i|i;·exact absurd i g
   ·refine⟨M,i,by intro z m;exact absurd m (by simp[iO.ms]),λy=>absurd y A⟩
def EA(d:SD)(k e b:Int):(eP d k e b).k≠9:=by
 unfold eP;split;·show(6:Int)≠9;decide
 split;·show(5:Int)≠9;decide
 split;·show(4:Int)≠9;decide
 ·show(2:Int)≠9;decide
def xZ{n:AG.Nd}{m:AG.Ms}(b:n.5=false)(d:m.f≠n.id)(e:m.f<n.2)(ok:Bool):(m.k=1∨m.k=3->n.receive m ok=n.ku m.f (n.iy m ok))/\(m.k=2->n.receive m ok=n.promised m ok)/\(m.k=4->n.receive m ok=n.accepted m ok)/\(m.k=5->n.receive m ok=(n.refused m,[]))/\(m.k=6->n.receive m ok=((n.decided m ok).1,[]))/\(m.k=7∨m.k=9->n.receive m ok=n.ku m.f (n.update m ok))/\(m.k=8->n.receive m ok=(n.wrote m,[]))/\(m.k=10->n.receive m ok=n.copied m ok):=by
 have c:¬(n.5=true∨m.f=n.id∨n.2<=m.f):=by rw[b];simp only[Bool.false_eq_true,false_or];omega
 unfold AG.Nd.receive;rw[if_neg c];refine⟨λa=>?_,λa=>?_,λa=>?_,λa=>?_,λa=>?_,λa=>?_,λa=>?_,λa=>?_⟩;·rw[if_pos a]
 ·rw[if_neg oG,if_pos a]
 ·rw[if_neg oG,if_neg oG,if_pos a]
 ·rw[if_neg oG,if_neg oG,if_neg oG,if_pos a]
 ·rw[if_neg oG,if_neg oG,if_neg oG,if_neg oG,if_pos a]
 ·rw[if_neg oG,if_neg oG,if_neg oG,if_neg oG,if_neg oG,if_pos a]
 ·rw[if_neg oG,if_neg oG,if_neg oG,if_neg oG,if_neg oG,if_neg oG,if_pos a]
 ·rw[if_neg oG,if_neg oG,if_neg oG,if_neg oG,if_neg oG,if_neg oG,if_neg oG,if_pos a]
def EB(hSO:fB)(hBW:fH)(hBS:fI)(Q:dP w P x d fs left (eB t) C la lo rs)(V:BG t d)(hD:fS d x.2)(U:Rg x la rs t)(hi:d.id=x.id)(hJ:Jr fs d x.2 t false tr)(ht:t+1<=20000000)(y:x.5=false)(m:AG.Ms)(hm:Rl m)(h:m.k=1∨m.k=3)(hf:0<=m.f/\m.f<x.2)(a7:m.f≠x.id){W:World}{X:Nat}{a:Option Addr}{c:Nat}(O:Bw w W)(a6:w.1.size<=X)(hX:dI W X (mA m.k m.f m.e m.b m.wa m.p m.s m.q m.bl m.v (J a m.zs.length c)) 136)(ho:fU W w.1.size (J a m.zs.length c) m.zs):Calls pG 196 #[P0 (Y ⟨P.Nd,0,Z⟩),.agg (mA m.k m.f m.e m.b m.wa m.p m.s m.q m.bl m.v (J a m.zs.length c))] W λr W1=>∃m2:iO,r=.returned m2.ag/\dI W1 X (mA m.k m.f m.e m.b m.wa m.p m.s m.q m.bl m.v (J a m.zs.length c)) 136/\Calls pG 195 #[P0 (Y ⟨P.Nd,0,Z⟩),.agg (mA m.k m.f m.e m.b m.wa m.p m.s m.q m.bl m.v (J a m.zs.length c)),m2.ag] W1 λK W2=>∃l,K=.returned l/\dI W2 X (mA m.k m.f m.e m.b m.wa m.p m.s m.q m.bl m.v (J a m.zs.length c)) 136/\∃ok,gL P t C left x.2 ((dK x d.du la lo rs tr).receive m ok) ok l w W2:=by
 obtain⟨A,hA,g,u⟩:=Q.nod;obtain⟨a3,a4⟩:=uK ho;obtain⟨_,_,S⟩:=pI hm.1;have D:(e_ m.e)/\(e_ m.b):=by
  rcases h with h|h<;>rw[h]at S;·exact⟨((nQ _ _ _ _ _ _ _ _ _).1 S).1,((nQ _ _ _ _ _ _ _ _ _).1 S).2.1⟩
  ·exact⟨((nR _ _ _ _ _ _ _ _ _).1 S).1,((nR _ _ _ _ _ _ _ _ _).1 S).2.1⟩
 have aa:=U.id;have L:=U.nn;have B:¬C X:=Q.fresh a6;have a9:2<=X:=by have:=Q.tabs.two;omega
 have o:∀ok,(dK x d.du la lo rs tr).receive m ok=(dK x d.du la lo rs tr).ku m.f ((dK x d.du la lo rs tr).iy m ok):=λok=>(xZ (n:=dK x d.du la lo rs tr) y a7 hf.2 ok).1 h;have a2:∀ad,a=some ad->¬A ad.block:=λad a8 F=>absurd (Q.lt _ (g _ F)).2 (Nat.not_lt.2 (a4 ad a8));have r1:iT ⟨m.k,m.f,m.e,m.b,m.wa,m.p,m.s,m.q,m.bl,m.v,a,c,m.zs⟩:=⟨hm.1,hm.2.1⟩;have K:iI m.k m.bl m.zs.length:=by rcases h with h|h;exact .inl h;exact .inr (.inl h)
 have r3:m.k=6->m.e=d.ep/\m.e<1000000000000:=λM=>by omega
 have H:=Q.later O;refine(CW hSO hBW hBS P x d fs left t A m.k m.f m.e m.b m.wa m.p m.s m.q m.bl m.v a m.zs c W (hA.later O) V oG a3 a2 D.1 h y).mono ?_;rintro r W1 ⟨ok,rfl,hs⟩;have N:=KX (i:=x.id) oG hD V (by omega:t<=20000000) h D.1 D.2;have hv:=B4 (x:=x) (d:=d) (la:=la) (lo:=lo) (rs:=rs) (tr:=tr) m h;rcases hs with⟨hN,rfl,a0,E⟩|⟨hN,hs⟩;·obtain⟨t1,t2⟩:=H.turn g u a0 E rfl rfl rfl;have F:eT P t C left (dK x d.du la lo rs tr) true w W1:=(eT.keep t1 t2 V hD U.next hi (by rw[y];exact hJ)).pre O;refine⟨eP d m.k m.e m.b,rfl,E.blk hX (λM=>B (g _ M)),?_⟩;refine(rF F rfl rfl L.2 hf (.inr N) (EA _ _ _ _) (E.blk hX (λM=>B (g _ M)))).mono ?_;rintro K W2 ⟨l,rfl,j,R⟩;refine⟨l,rfl,j,true,?_⟩;rw[o,hv,hN,cond_false];exact R
 ·have z:dI W1 X (mA m.k m.f m.e m.b m.wa m.p m.s m.q m.bl m.v (J a m.zs.length c)) 136:=hs.blk hX (λM=>B (g _ M));cases ok;·have a1:=H.jk g u hs rfl rfl rfl;have F:=(eT.fall (la:=la) (lo:=lo) (tr:=tr) a1 V oG hD U hi hJ r1 K r3).pre O;refine⟨.nil,rfl,z,?_⟩;refine(rF F rfl rfl L.2 hf (.inl rfl) dG z).mono ?_;rintro K W2 ⟨l,rfl,j,R⟩;refine⟨l,rfl,j,false,?_⟩;rw[o,hv,hN,cond_true];exact R
  ·have a5:=H.saved g u hs rfl rfl rfl;have F:=(eT.save (x':=x) a5 V oG hD U.next hi hJ r1 K r3 y tr).pre O;refine⟨eP d m.k m.e m.b,rfl,z,?_⟩;refine(rF F rfl rfl L.2 hf (.inr N) (EA _ _ _ _) z).mono ?_;rintro K W2 ⟨l,rfl,j,R⟩;refine⟨l,rfl,j,true,?_⟩;rw[o,hv,hN,cond_true];exact R
def M0(m:AG.Ms)(c:m.k=7∨m.k=9)(ok:Bool):(dK x d.du la lo rs tr).update m ok=bif tU x d m.k m.e m.q m.bl m.zs.length then(bif ok then(bif (m.e==d.seen) then(dK x d.du la lo rs tr).save m true else((dK x d.du la lo rs tr).save m true).stand,(jZ x d m.k m.e m.q m.bl m.zs.length).ms) else((dK x d.du la lo rs tr).fall m,.nil)) else(dK x d.du la lo rs tr,(jZ x d m.k m.e m.q m.bl m.zs.length).ms):=by
 unfold AG.Nd.update tU jZ;show(if mK m.k x.nb m.bl m.zs.length=false∨m.e=d.seen/\(x.act=true∨m.q<d.last) then _ else if m.e<d.seen then(_,if m.e<d.ep then _ else _) else _)=_;have j:({AG.Ms.nil with k:=m.k+1,e:=m.e,q:=m.q}:AG.Ms)=(⟨nF m.k,0,m.e,0,0,0,0,m.q,0,0⟩:iO).ms:=by unfold nF iO.ms;rcases c with c|c<;>simp[c,AG.Ms.nil]
 cases hfb:mK m.k x.nb m.bl m.zs.length;·rw[if_pos (.inl rfl)];rfl
 ·have i:((m.e==d.seen)&&(x.act||decide (m.q<d.last)))=decide (m.e=d.seen/\(x.act=true∨m.q<d.last)):=by rw[Bool.eq_iff_iff];simp
  rw[i];by_cases g:m.e=d.seen/\(x.act=true∨m.q<d.last);·rw[if_pos (.inr g),decide_eq_true g];rfl
  ·rw[if_neg (by rintro(h|h);exact absurd h sG;exact g h),decide_eq_false g];by_cases a:m.e<d.seen;·rw[if_pos a,decide_eq_true a];simp only[Bool.not_false,Bool.not_true,Bool.and_true,Bool.true_and,Bool.false_and,Bool.and_false,cond_true,cond_false];congr 1;split<;>rfl
   ·rw[if_neg a,decide_eq_false a];dsimp only;have l:((m.e==d.seen)&&(m.q==d.last))=decide (m.e=d.seen/\m.q=d.last):=by rw[Bool.eq_iff_iff];simp
    rw[l,j];show(if m.e=d.seen/\m.q=d.last then _ else if ok=true then(if m.e=d.seen then _ else _,_) else _)=_;by_cases b:m.e=d.seen/\m.q=d.last;·rw[if_pos b,decide_eq_true b];rfl
    ·rw[if_neg b,decide_eq_false b];cases ok;·rfl
     ·by_cases f:m.e=d.seen;·rw[if_pos rfl,if_pos f,show(m.e==d.seen)=true by simpa using f];rfl
      ·rw[if_pos rfl,if_neg f,show(m.e==d.seen)=false by simpa using f];rfl
def M1{i nn:Int}(hi:0<=i/\i<5)(j:fS d nn){k e q bl:Int}{z:Nat}(g:k=7∨k=9)(a:e_ e)(f:e_ q):((jZ x d k e q bl z).k=0∨fP (jZ x d k e q bl z).k i [0,(jZ x d k e q bl z).e,(jZ x d k e q bl z).b,(jZ x d k e q bl z).wa,(jZ x d k e q bl z).p,(jZ x d k e q bl z).s,(jZ x d k e q bl z).q,(jZ x d k e q bl z).bl,(jZ x d k e q bl z).v,0]=true)/\(jZ x d k e q bl z).k≠9:=by
 unfold jZ;cases mK k x.nb bl z&&!((e==d.seen)&&(x.act||decide (q<d.last)));·exact⟨.inl rfl,by show(0:Int)≠9;decide⟩
 ·rw[cond_true];cases decide (e<d.seen)
  ·rw[cond_false];unfold nF;rcases g with rfl|rfl;·exact⟨.inr (SH i e q hi a f),by show(8:Int)≠9;decide⟩
   ·exact⟨.inr (Q2 i e q hi a f),by show(10:Int)≠9;decide⟩
  ·rw[cond_true];split
   ·next h1=>
    have c:=j.re (e+1).toNat (by unfold SD.ep at h1;omega);have h:d.qi (e+1)=d.recs[(e+1).toNat]'(by unfold SD.ep at h1;omega):=by unfold SD.qi;rw[List.getD_eq_getElem?_getD,List.getElem?_eq_getElem (by unfold SD.ep at h1;omega)];rfl
    rw[h];exact⟨.inr (rZ i e _ _ hi a c.2.1 c.2.2),by show(6:Int)≠9;decide⟩
   ·exact⟨.inl rfl,dG⟩
def E2(hSO:fB)(hBW:fH)(hBS:fI)(hF:dP w P x d fs left (eB t) C la lo rs)(hB:BG t d)(V:fS d x.2)(U:Rg x la rs t)(hi:d.id=x.id)(hJ:Jr fs d x.2 t false tr)(ht:t+1<=20000000)(u:x.5=false)(m:AG.Ms)(hm:Rl m)(y:m.k=7∨m.k=9)(hf:0<=m.f/\m.f<x.2)(a6:m.f≠x.id){W:World}{X:Nat}{a:Option Addr}{c:Nat}(S:Bw w W)(a5:w.1.size<=X)(hX:dI W X (mA m.k m.f m.e m.b m.wa m.p m.s m.q m.bl m.v (J a m.zs.length c)) 136)(ho:fU W w.1.size (J a m.zs.length c) m.zs):Calls pG 201 #[P0 (Y ⟨P.Nd,0,Z⟩),.agg (mA m.k m.f m.e m.b m.wa m.p m.s m.q m.bl m.v (J a m.zs.length c))] W λr W1=>∃m2:iO,r=.returned m2.ag/\dI W1 X (mA m.k m.f m.e m.b m.wa m.p m.s m.q m.bl m.v (J a m.zs.length c)) 136/\Calls pG 195 #[P0 (Y ⟨P.Nd,0,Z⟩),.agg (mA m.k m.f m.e m.b m.wa m.p m.s m.q m.bl m.v (J a m.zs.length c)),m2.ag] W1 λK W2=>∃l,K=.returned l/\dI W2 X (mA m.k m.f m.e m.b m.wa m.p m.s m.q m.bl m.v (J a m.zs.length c)) 136/\∃ok,gL P t C left x.2 ((dK x d.du la lo rs tr).receive m ok) ok l w W2:=by
 obtain⟨A,hA,g,h⟩:=hF.nod;obtain⟨a3,a4⟩:=uK ho;obtain⟨_,_,hn⟩:=pI hm.1;have E:(e_ m.e)/\(e_ m.q)/\iI m.k m.bl m.zs.length:=by
  rcases y with y|y<;>rw[y]at hn;·have j:=(oF _ _ _ _ _ _ _ _ _).1 hn;exact⟨j.1,j.2.1,.inr (.inr (.inr (.inl ⟨y,j.2.2.1⟩)))⟩
  ·have j:=(oH _ _ _ _ _ _ _ _ _).1 hn;exact⟨j.1,j.2.1,.inr (.inr (.inr (.inr ⟨y,hm.2.2 y,oG⟩)))⟩
 have a9:=U.id;have R:=U.nn;have N:¬C X:=hF.fresh a5;have a8:2<=X:=by have:=hF.tabs.two;omega
 have B:∀ok,(dK x d.du la lo rs tr).receive m ok=(dK x d.du la lo rs tr).ku m.f ((dK x d.du la lo rs tr).update m ok):=λok=>(xZ (n:=dK x d.du la lo rs tr) u a6 hf.2 ok).2.2.2.2.2.1 y;have a2:∀ad,a=some ad->¬A ad.block:=λad a7 L=>absurd (hF.lt _ (g _ L)).2 (Nat.not_lt.2 (a4 ad a7));have r1:iT ⟨m.k,m.f,m.e,m.b,m.wa,m.p,m.s,m.q,m.bl,m.v,a,c,m.zs⟩:=⟨hm.1,hm.2.1⟩;have K:=E.2.2;have r3:m.k=6->m.e=d.ep/\m.e<1000000000000:=λj=>by omega
 have H:=hF.later S;refine(JP hSO hBW hBS P x d fs left t A m.k m.f m.e m.b m.wa m.p m.s m.q m.bl m.v a m.zs c W (hA.later S) hB oG a3 a2 E.1 y K u).mono ?_;rintro r W1 ⟨ok,rfl,hs⟩;have D:=M1 (x:=x) (bl:=m.bl) (z:=m.zs.length) (i:=x.id) oG V y E.1 E.2.1;have hv:=M0 (x:=x) (d:=d) (la:=la) (lo:=lo) (rs:=rs) (tr:=tr) m y;rcases hs with⟨hN,rfl,a0,O⟩|⟨hN,hs⟩;·obtain⟨t1,t2⟩:=H.turn g h a0 O rfl rfl rfl;have L:eT P t C left (dK x d.du la lo rs tr) true w W1:=(eT.keep t1 t2 hB V U.next hi (by rw[u];exact hJ)).pre S;refine⟨jZ x d m.k m.e m.q m.bl m.zs.length,rfl,O.blk hX (λj=>N (g _ j)),?_⟩;refine(rF L rfl rfl R.2 hf D.1 D.2 (O.blk hX (λj=>N (g _ j)))).mono ?_;rintro K W2 ⟨l,rfl,o,hl⟩;refine⟨l,rfl,o,true,?_⟩;rw[B,hv,hN,cond_false];exact hl
 ·have F:dI W1 X (mA m.k m.f m.e m.b m.wa m.p m.s m.q m.bl m.v (J a m.zs.length c)) 136:=hs.blk hX (λj=>N (g _ j));cases ok;·have a1:=H.jk g h hs rfl rfl rfl;have L:=(eT.fall (la:=la) (lo:=lo) (tr:=tr) a1 hB oG V U hi hJ r1 K r3).pre S;refine⟨.nil,rfl,F,?_⟩;refine(rF L rfl rfl R.2 hf (.inl rfl) dG F).mono ?_;rintro K W2 ⟨l,rfl,o,hl⟩;refine⟨l,rfl,o,false,?_⟩;rw[B,hv,hN,cond_true];exact hl
  ·cases hse:(m.e==d.seen);focus
    have M:qQ x d m.e true=x.stand:=by unfold qQ;rw[hse];rfl
    rw[M]at hs
    have Q:=H.jk g h hs rfl rfl rfl
    have L:=(eT.save (x':=x.stand) Q hB oG V U.stand.next hi hJ r1 K r3 u tr).pre S
   rotate_left;focus
    have M:qQ x d m.e true=x:=by unfold qQ;rw[hse];rfl
    rw[M]at hs
    have Q:=H.saved g h hs rfl rfl rfl
    have L:=(eT.save (x':=x) Q hB oG V U.next hi hJ r1 K r3 u tr).pre S
   all_goals
    refine⟨jZ x d m.k m.e m.q m.bl m.zs.length,rfl,F,?_⟩
    refine(rF L rfl rfl R.2 hf D.1 D.2 F).mono ?_
    rintro K W2 ⟨l,rfl,o,hl⟩
    refine⟨l,rfl,o,true,?_⟩
    rw[B,hv,hN,cond_true,hse];exact hl
end
end Go.Proofs.YtdcainmlcpafbaaGreatDoor
