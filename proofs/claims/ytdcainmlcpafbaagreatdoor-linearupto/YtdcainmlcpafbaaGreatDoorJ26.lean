import Derived.Test.YtdcainmlcpafbaaGreatDoorJ23
set_option linter.all false
set_option maxHeartbeats 4000000
set_option maxRecDepth 20000
namespace Go.Proofs.YtdcainmlcpafbaaGreatDoor
open Go.RowKit
open Value renaming slice->J,pointer->P0
open Tryz renaming prog->pG
open IntKind renaming i64->T
open Option renaming none->Z,some->Y
open Obj renaming cells->G
open Value (bool)
section
variable {w w':World} {P:Pl} {x x':NB} {d:SD} {fs:List FD} {left:Int} {t:Nat} {C C':Nat->Prop} {la lo la' lo':List Ky} {rs rs':List dJ} {tr:AG.Ms} {m:dK}
def LG(e:fN d x.nodes)(a:0<d.recs.length)(set:Int):lY x d set=true↔(bits .andNot .i64 set ((dD x d.du la lo rs tr).d.rc (dD x d.du la lo rs tr).d.ep).S≠0∨AG.folB ((dD x d.du la lo rs tr).d.rc (dD x d.du la lo rs tr).d.ep) ((dD x d.du la lo rs tr).d.ep+1) ((dD x d.du la lo rs tr).id+1) set=false∨1000000000000<(dD x d.du la lo rs tr).gu 0):=by
 have g:(dD x d.du la lo rs tr).d.rc (dD x d.du la lo rs tr).d.ep=d.dh:=nX a;have b:=C3 e a (d.ep+1) (x.id+1) set;have c:=(oX e a).1;rw[g];have h:AG.folB d.dh ((dD x d.du la lo rs tr).d.ep+1) ((dD x d.du la lo rs tr).id+1) set=kU d.dh.E d.dh.P d.dh.S (d.dh.E+1) (x.id+1) set:=by rw[nX a]at b;rw[c];rw[c]at b;exact b
 rw[h];unfold lY;have f:(dD x d.du la lo rs tr).gu 0=(fX x d set).nb' d:=rfl;rw[f];simp only[Bool.or_eq_true,bne_iff_ne,Bool.not_eq_true',decide_eq_true_eq]
def wO(j:0<=x.id/\x.id<x.nodes)(l:2<=x.nodes/\x.nodes<=5)(c:BG t d)(f:t<=1000000)(g:0<=x.nb' d/\x.nb' d<=1000000000000):eM x.nodes ((dD x d.du la lo rs tr).tell {AG.Ms.nil with k:=1,e:=d.ep,b:=x.nb' d} (dD x d.du la lo rs tr).others):=by have i:=p9 c f;exact tT (dD x d.du la lo rs tr) _ ⟨rG x.id d.ep (x.nb' d) oG oG g,by intro z h;exact absurd h (by simp[AG.Ms.nil]),by intro a;exact absurd a (by show¬(1:Int)=9;decide)⟩
def wP(a:0<=x.id/\x.id<x.nodes)(c:2<=x.nodes/\x.nodes<=5):fS ((dD x d.du la lo rs tr).tell {AG.Ms.nil with k:=1,e:=d.ep,b:=x.nb' d} (dD x d.du la lo rs tr).others)=fT (kC x) (gO 1 x.id d.ep (x.nb' d) 0 0 0 0 0 0 []) x.nodes.toNat:=tN x c a (dD x d.du la lo rs tr) rfl rfl _
def wD(a:BG t d)(b:t<=1000000)(c:0<=x.nb' d/\x.nb' d<=1000000000000):iP (fR x d)/\iE (fR x d).k (fR x d).bl (fR x d).zs.length/\((fR x d).k=6->(fR x d).e=d.ep/\(fR x d).e<1000000000000):=by have g:=p9 a b;exact⟨O2 _ _ oG c,.inl rfl,λf=>absurd f (by show¬(1:Int)=6;decide)⟩
def xA{B:Nat}(a:Rg x la rs t)(e:fN d x.nodes)(f:0<=x.nb' d/\x.nb' d<=1000000000000):Rg (jV x d B) [(2,d.ep,x.nb' d,x.id)] rs (t+1):=by
 have c:=e.at d.ep;have b:(eJ d 1 d.ep (x.nb' d)).wa=(dH d.dw d.ep).ac/\(eJ d 1 d.ep (x.nb' d)).p=(dH d.dw d.ep).pm/\(eJ d 1 d.ep (x.nb' d)).s=(dH d.dw d.ep).st:=by have j:=sQ (dH d.dw d.ep).pr x.rf x.id c.1.1 a.rf.1 a.id.1;rw[vO d (x.nb' d) (by unfold NB.nb';omega)];exact⟨rfl,rfl,rfl⟩
 have h:=a.ops;have i:=a.rs;refine⟨a.nn,a.id,a.nb,by show(0:Int)<=2/\(2:Int)<=3;decide,λ_ _=>⟨B,rfl⟩,a.g,a.jo,f,a.rf,?_,a.on,by show 0<=x.ops/\x.ops<=((t+1:Nat):Int);omega,oG,sG⟩;show(0<=(eJ d 1 d.ep (x.nb' d)).wa/\(eJ d 1 d.ep (x.nb' d)).wa<=1000000000000)/\(0<=(eJ d 1 d.ep (x.nb' d)).p/\(eJ d 1 d.ep (x.nb' d)).p<=5)/\(0<=(eJ d 1 d.ep (x.nb' d)).s/\(eJ d 1 d.ep (x.nb' d)).s<=31);rw[b.1,b.2.1,b.2.2];exact c.2
def C7(a:Rg x la rs t)(c:fN d x.nodes)(h:¬1000000000000<x.nb' d):0<=x.nb' d/\x.nb' d<=1000000000000:=by have b:=c.at d.ep;have e:=sQ (dH d.dw d.ep).pr x.rf x.id b.1.1 a.rf.1 a.id.1;unfold NB.nb' at h⊢;omega
def B5(a:Rg x la rs t){set:Int}(hs:0<=set/\set<=31)(hi:x.nodes<=5){B:Nat}:Rg {fX x d set with an:=some B} [] rs t:=by have b:=a.id;have c:=a.nn;exact⟨a.nn,a.id,a.nb,by show(0:Int)<=2/\(2:Int)<=3;decide,λ_ _=>⟨B,rfl⟩,⟨by show 0<=x.id+1/\x.id+1<=5;omega,hs⟩,by show(0:Int)<=0/\0<x.nodes;omega,by show(0:Int)<=0/\(0:Int)<=_;decide,by show(0:Int)<=0/\(0:Int)<=_;decide,by show((0:Int)<=0/\(0:Int)<=_)/\((0:Int)<=0/\(0:Int)<=_)/\((0:Int)<=0/\(0:Int)<=_);decide,a.on,a.ops,a.rs,sG⟩
end
def fW.gq(hSO:fA)(hBW:fC)(hBS:fD){w:World}{P:Pl}{t:Nat}{C:Nat->Prop}{left:Int}{n:AG.Nd}(h:fW w P t C left n)(N:t+1<=1000000)(set:Int)(hs:0<=set/\set<=31):Calls pG 86 #[P0 (Y ⟨P.Nd,0,Z⟩),I set] w λr w'=>∃l ok,r=.returned (.tuple #[l,I (n.gq set ok).2.2])/\gJ P t C left n.nodes ((n.gq set ok).1,(n.gq set ok).2.1) ok l w w':=by
 obtain⟨x,d,fs,la,lo,rs,R,p,q,c,hi,F,y⟩:=h.ex;generalize n.tr=tr at F y;subst F;have A:=q.at d.ep;have a:=LG (x:=x) (la:=la) (lo:=lo) (rs:=rs) (tr:=tr) q p.ne set;refine(GR hSO hBW hBS P x d fs left t C la lo rs set w R p N c.nn c.id A.1 hs).mono ?_;rintro r w' (⟨e,rfl,D,u,U⟩|⟨f,m,c3,D⟩)
 ·have o:(dD x d.du la lo rs tr).gq set true=(dD x d.du la lo rs tr,[],e):=by
   unfold AG.Nd.gq;rcases D with⟨f,rfl⟩|⟨f,m,rfl⟩|⟨f,m,c3,rfl⟩;·rw[if_pos (show(dD x d.du la lo rs tr).down=true from f)]
   ·rw[if_neg (show¬(dD x d.du la lo rs tr).down=true by show¬x.down=true;simp[f]),if_pos (a.1 m)]
   ·rw[if_neg (show¬(dD x d.du la lo rs tr).down=true by show¬x.down=true;simp[f]),if_neg (λi=>by rw[a.2 i]at m;exact absurd m sG),if_pos (show(dD x d.du la lo rs tr).ph≠0 from c3)]
  refine⟨_,true,by rw[o],?_⟩;rw[o];exact⟨dY.nil _ _,eM.nil _,eP.keep u U p q c.next hi y⟩
 ·have dA:(dD x d.du la lo rs tr).down=false:=f;have v:¬1000000000000<(fX x d set).nb' d:=λi=>by have:lY x d set=true:=a.2 (.inr (.inr i));rw[this]at m;exact absurd m sG
  have S:Rg (fX x d set) [] rs t->True:=λ_=>trivial;have g:0<=(fX x d set).nb' d/\(fX x d set).nb' d<=1000000000000:=by have F:=sQ (dH d.dw d.ep).pr 0 x.id A.1.1 dG c.id.1;have i:(fX x d set).nb' d=nH (dH d.dw d.ep).pr 0 x.id:=rfl;rw[i]at v⊢;omega
  have j:=λok=>wC (x:=fX x d set) (d:=d) (la:=[]) (lo:=lo) (rs:=rs) (tr:=tr) A.1.1 (by show(0:Int)<=0;decide) c.id.1 f v ok;have o:∀ok,(dD x d.du la lo rs tr).gq set ok=(((dD (fX x d set) d.du [] lo rs tr).prepare ok).1,((dD (fX x d set) d.du [] lo rs tr).prepare ok).2,if((dD (fX x d set) d.du [] lo rs tr).prepare ok).1.down=true then 3 else 0):=by intro ok;unfold AG.Nd.gq;rw[if_neg (show¬(dD x d.du la lo rs tr).down=true by rw[dA];simp),if_neg (λi=>by rw[a.2 i]at m;exact absurd m sG),if_neg (show¬(dD x d.du la lo rs tr).ph≠0 from λi=>i c3)];rfl
  obtain⟨K,L,H⟩:=wD (x:=fX x d set) p (by omega:t<=1000000) g;have W:Rg (fX x d set) [] rs t∨True:=.inr trivial;have s:Jr fs d (fX x d set).nodes t false tr:=by rw[f]at y;exact y
  rcases D with⟨rfl,u⟩|⟨l,B,rfl,E,u⟩;·refine⟨_,false,by rw[o,j];rfl,?_⟩;rw[o,j];refine⟨dY.nil _ _,eM.nil _,?_⟩;obtain⟨M,V,O,X,Q⟩:=eP.fall (x:={fX x d set with an:=some 0}) (la:=[]) (lo:=lo) (tr:=tr) u p oG q (B5 c hs c.nn.2) hi s K L H;exact⟨M,V,O,X,Q⟩
  ·refine⟨l,true,by rw[o,j];rw[if_neg];exact λi=>by have:x.down=true:=i;rw[f]at this;exact absurd this sG,?_⟩;rw[o,j];refine⟨by show dY w' w.heap.size l (fS ((dD (fX x d set) d.du [] lo rs tr).tell {AG.Ms.nil with k:=1,e:=d.ep,b:=(fX x d set).nb' d} (dD (fX x d set) d.du [] lo rs tr).others));rw[wP (x:=fX x d set) c.id c.nn];exact E,wO (x:=fX x d set) c.id c.nn p oG g,?_⟩;have z:Rg (jV (fX x d set) d B) [(2,d.ep,(fX x d set).nb' d,x.id)] rs (t+1):=xA (x:={fX x d set with an:=some B}) (B5 c hs c.nn.2) q g;exact eP.save (x':=jV (fX x d set) d B) u p oG q z hi s K L H f tr
section
variable {w w':World} {P:Pl} {x x':NB} {d:SD} {fs:List FD} {left:Int} {t:Nat} {C C':Nat->Prop} {la lo la' lo':List Ky} {rs rs':List dJ} {tr:AG.Ms} {m:dK}
def uJ(x:NB)(d:SD)(la lo:List Ky)(rs:List dJ)(tr:AG.Ms)(r:Bool):(dD x d.du la lo rs tr).jv r=jQ x d r:=by
 unfold AG.Nd.jv jQ uU;show(if x.down=true then 3 else if x.act=false then 5 else if r=false∨d.last=1000000000000 then 1 else if x.ph≠0∨0<x.on then 4 else 0)=_;cases x.down
 ·cases x.act;·simp
  ·cases r;·simp
   ·by_cases b:d.last=1000000000000;·simp[b]
    ·have a:(d.last==1000000000000)=false:=by simpa using b
     by_cases e:x.ph=0;·by_cases f:0<x.on<;>simp[b,a,e,f]
     ·have c:(x.ph != 0)=true:=by simpa using e
      simp[b,a,e,c]
 ·simp
def yI(d:SD)(nb:Int)(h:1<=nb/\nb<=4):(List.range nb.toNat).map (λi:Nat=>d.du.bk i)=iF d nb:=by have a:nb=1∨nb=2∨nb=3∨nb=4:=oG;rcases a with rfl|rfl|rfl|rfl<;>rfl
def B6(d:SD)(nb:Int)(h:1<=nb/\nb<=4):(iF d nb).length=nb.toNat:=by unfold iF;simp;omega
def xB{nn:Int}(a:fN d nn)(nb:Int):∀z∈iF d nb,i_ z:=by
 intro z b;have:=List.mem_of_mem_take b;simp only[List.mem_cons,List.mem_nil_iff,or_false]at this;rcases this with rfl|rfl|rfl|rfl;·exact a.b0
 ·exact a.b1
 ·exact a.b2
 ·exact a.b3
def N1:∀s:Fin 32,∀k:Fin 5,fK (s.val:Int) k.val=false->bits .or .i64 (s.val:Int) (2^k.val)=(s.val:Int)+2^k.val/\(s.val:Int)+2^k.val<=31:=by decide +kernel
end
def fW.admi(hSO:fA)(hBW:fC)(hBS:fD){w:World}{P:Pl}{t:Nat}{C:Nat->Prop}{left:Int}{n:AG.Nd}(h:fW w P t C left n)(Q:t+1<=1000000)(k:Nat)(p:(k:Int)<n.nodes):Calls pG 87 #[P0 (Y ⟨P.Nd,0,Z⟩),I (k:Int)] w λr w'=>∃l ok,r=.returned (.tuple #[l,I (n.admi k ok).2.2])/\gJ P t C left n.nodes ((n.admi k ok).1,(n.admi k ok).2.1) ok l w w':=by
 obtain⟨x,d,fs,la,lo,rs,W,m,g,a,hi,N,z⟩:=h.ex;generalize n.tr=tr at N z;subst N;have hS:=oX g m.ne;have he:=p9 m (by omega:t<=1000000);have f:(dD x d.du la lo rs tr).adm (k:Int)=!fK d.dh.S k:=by unfold AG.Nd.adm;rw[show((dD x d.du la lo rs tr).d.rc (dD x d.du la lo rs tr).d.ep)=d.dh from nX m.ne];have j:0<=(k:Int)/\(k:Int)<(dD x d.du la lo rs tr).nodes:=⟨Int.natCast_nonneg k,p⟩;rw[decide_eq_true j,Int.toNat_natCast,Bool.true_and]
 have hz:(dD x d.du la lo rs tr).eu.zs=iF d x.nb:=yI d x.nb a.nb;refine(JQ hSO hBW hBS P x d fs left t C la lo rs k w W m Q a.nn a.id a.nb g.la hS.2.2 p).mono ?_;rintro r w' (⟨A,rfl,v,hx⟩|⟨A,b,V⟩)
 ·have o:(dD x d.du la lo rs tr).admi k true=(dD x d.du la lo rs tr,[],jQ x d (!fK d.dh.S k)):=by unfold AG.Nd.admi;rw[f,uJ,if_pos A]
  refine⟨_,true,by rw[o],?_⟩;rw[o];exact⟨dY.nil _ _,eM.nil _,eP.keep v hx m g a.next hi z⟩
 ·obtain⟨M,c2,c3,c4,c5,c6⟩:=sR A;have u:fK d.dh.S k=false:=by simpa using c3
  have B:(jX x d b).ms={(dD x d.du la lo rs tr).eu with q:=d.last+1}:=by unfold jX dK.ms AG.Nd.eu;dsimp only;rw[show((List.range (dD x d.du la lo rs tr).nb.toNat).map (λi:Nat=>(dD x d.du la lo rs tr).d.bk i))=iF d x.nb from yI d x.nb a.nb];rfl
  have X:=g.la;have hl:d.last+1<=1000000000000:=oG;have c:=B6 d x.nb a.nb;have a1:=a.nb;have a2:=a.id;have a0:=a.nn;have K:iP (jX x d b):=⟨rH 0 d.ep (d.last+1) (iF d x.nb).length dG oG oG (by rw[c];omega),xB g x.nb⟩;have O:iE (jX x d b).k (jX x d b).bl (jX x d b).zs.length:=.inr (.inr (.inr (.inr ⟨rfl,by show 1<=(iF d x.nb).length/\(iF d x.nb).length<=4;rw[c];omega⟩)));have H:(jX x d b).k=6->(jX x d b).e=d.ep/\(jX x d b).e<1000000000000:=λj=>absurd j (by show¬(9:Int)=6;decide);have s:Jr fs d x.nodes t false tr:=by rw[M]at z;exact z
  have o:∀ok,(dD x d.du la lo rs tr).admi k ok=if ok=true then({(dD x d.du la lo rs tr).save (jX x d b).ms true with ph:=1,jo:=(k:Int),gP:=d.dh.P,gS:=d.dh.S+2 ^ k,ba:=0,rf:=0,fo:=.nil,an:=[]},(dD x d.du la lo rs tr).tell (jX x d b).ms [(k:Int)],0) else((dD x d.du la lo rs tr).fall (jX x d b).ms,[],3):=by intro ok;unfold AG.Nd.admi;rw[f,uJ,if_neg (by rw[A];simp),B];rw[show((dD x d.du la lo rs tr).d.rc (dD x d.du la lo rs tr).d.ep)=d.dh from nX m.ne,Int.toNat_natCast];rfl
  have L:=N1 ⟨d.dh.S.toNat,oG⟩ ⟨k,by have:(k:Int)<x.nodes:=p;omega⟩;simp only[show((d.dh.S.toNat:Nat):Int)=d.dh.S by omega]at L;obtain⟨y,U⟩:=L u;rcases V with⟨rfl,v⟩|⟨l,rfl,F,v⟩;·refine⟨_,false,by rw[o];rfl,?_⟩;rw[o];exact⟨dY.nil _ _,eM.nil _,eP.fall v m oG g a hi s K O H⟩
  ·refine⟨l,true,by rw[o];rfl,?_⟩;rw[o,if_pos rfl];have E:(k:Int)<x.nodes:=p;refine⟨?_,D4 _ _ _ ⟨Int.natCast_nonneg k,p⟩ ⟨rH x.id d.ep (d.last+1) (iF d x.nb).length oG oG oG (by rw[c];omega),xB g x.nb,λ_=>by show 1<=(iF d x.nb).length;rw[c];omega⟩,?_⟩;·show dY w' w.heap.size l (fS ((dD x d.du la lo rs tr).tell (jX x d b).ms [(k:Int)]));rw[C1 x a.nn (dD x d.du la lo rs tr) rfl (jX x d b).ms k E];exact F
   ·have D:Rg (mP x d k) [] rs (t+1):=by
     have ho:=a.ops;have hr:=a.rs;refine⟨a.nn,a.id,a.nb,by show(0:Int)<=1/\(1:Int)<=3;decide,λ_ j=>absurd j (by show¬((0:Int)<0∨(3:Int)<=1);decide),⟨hS.2.1,?_⟩,⟨Int.natCast_nonneg k,p⟩,by show(0:Int)<=0/\(0:Int)<=_;decide,by show(0:Int)<=0/\(0:Int)<=_;decide,by show((0:Int)<=0/\(0:Int)<=_)/\((0:Int)<=0/\(0:Int)<=_)/\((0:Int)<=0/\(0:Int)<=_);decide,a.on,by show 0<=x.ops/\x.ops<=((t+1:Nat):Int);omega,oG,sG⟩;show 0<=bits .or .i64 d.dh.S (2^k)/\bits .or .i64 d.dh.S (2^k)<=31;rw[y];have:(0:Int)<=2^k:=by exact Int.le_of_lt (Int.pow_pos dG)
     omega
    have j:=eP.save (x':=mP x d k) v m oG g D hi s K O H M tr;have R:dD (mP x d k) (d.du.step (jX x d b).ms) [] lo rs tr={(dD x d.du la lo rs tr).save (jX x d b).ms true with ph:=1,jo:=(k:Int),gP:=d.dh.P,gS:=d.dh.S+2 ^ k,ba:=0,rf:=0,fo:=.nil,an:=[]}:=by unfold dD AG.Nd.save;dsimp only[mP];rw[y];rfl
    rw[R]at j;exact j
def wE{d:SD}{fs:List FD}{left:Int}{t:Nat}{m:dK}{P:Pl}{x:NB}{C:Nat->Prop}{la lo:List Ky}{rs:List dJ}{w w':World}(h:FX (pF true d fs left t m) P x C la lo rs w w'):eK P x d fs left t C la lo rs m true w w':=by
 obtain⟨d',fs',left',L',C',b,a,c⟩:=h;rcases b with⟨e,_⟩|⟨_,f,g,rfl,rfl⟩;·exact absurd e sG
 ·exact⟨fs',left',f,C',g,a,c⟩
section
variable {w w':World} {P:Pl} {x x':NB} {d:SD} {fs:List FD} {left:Int} {t:Nat} {C C':Nat->Prop} {la lo la' lo':List Ky} {rs rs':List dJ} {tr:AG.Ms} {m:dK}
def DA{bl v:Int}{r:Ending}(n:BG t d)(o:fN d x.nodes)(a:Rg x la rs t)(hi:d.id=x.id)(M:Jr fs d x.nodes t x.down tr)(ht:t+1<=1000000)(Q:i_ v)(X:yQ P x d fs left t C la lo rs bl v r w w'):∃l ok,r=.returned (.tuple #[I (bif ((dD x d.du la lo rs tr).operate bl v ok).2.2==0 then x.ops+1 else 0),l,I ((dD x d.du la lo rs tr).operate bl v ok).2.2])/\gJ P t C left x.nodes (((dD x d.du la lo rs tr).operate bl v ok).1,((dD x d.du la lo rs tr).operate bl v ok).2.1) ok l w w':=by
 have hS:=oX o n.ne;have he:=p9 n (by omega:t<=1000000);have s:(dD x d.du la lo rs tr).blk bl=lD x bl:=rfl;rcases X with⟨u,rfl,b,hx⟩|⟨u,hc⟩
 ·have j:(dD x d.du la lo rs tr).operate bl v true=(dD x d.du la lo rs tr,[],jQ x d (lD x bl)):=by unfold AG.Nd.operate;rw[s,uJ,if_pos u]
  have D:(jQ x d (lD x bl)==0)=false:=by simpa using u
  refine⟨J Z 0 0,true,by rw[j];simp[D],?_⟩;rw[j];exact⟨dY.nil _ _,eM.nil _,eP.keep b hx n o a.next hi M⟩
 ·obtain⟨F,c2,c3,c4,c5,c6⟩:=sR u;have U:0<=bl/\bl<x.nb:=by unfold lD at c3;simpa using c3
  have a2:=a.nb;have a0:=o.la;have hl:d.last+1<=1000000000000:=oG;have a3:=a.id;have a1:=a.nn;have A:iP (fL d bl v):=⟨uZ 0 d.ep (d.last+1) bl v dG oG oG oG Q,by intro z H;exact absurd H (by simp[fL])⟩;have O:iE (fL d bl v).k (fL d bl v).bl (fL d bl v).zs.length:=.inr (.inr (.inr (.inl ⟨rfl,by show 0<=bl/\bl<=3;omega⟩)));have y:(fL d bl v).k=6->(fL d bl v).e=d.ep/\(fL d bl v).e<1000000000000:=λc=>absurd c (by show¬(7:Int)=6;decide);have i:Jr fs d x.nodes t false tr:=by rw[F]at M;exact M
  have V:(fL d bl v).ms={AG.Ms.nil with k:=7,e:=d.ep,q:=d.last+1,bl:=bl,v:=v}:=rfl;have L:Rl {(fL d bl v).ms with f:=x.id}:=⟨uZ x.id d.ep (d.last+1) bl v oG oG oG oG Q,by intro z H;exact absurd H (by simp[fL,dK.ms]),λc=>absurd c (by show¬(7:Int)=9;decide)⟩;have j:∀ok,(dD x d.du la lo rs tr).operate bl v ok=if ok=true then((dD (gY x d bl v 0) (d.du.step (fL d bl v).ms) la [] rs tr).finish,(dD (gY x d bl v 0) (d.du.step (fL d bl v).ms) la [] rs tr).tell (fL d bl v).ms (dD (gY x d bl v 0) (d.du.step (fL d bl v).ms) la [] rs tr).missing,0) else((dD x d.du la lo rs tr).fall (fL d bl v).ms,[],3):=by intro ok;unfold AG.Nd.operate;rw[s,uJ,if_neg (by rw[u];simp)];rfl
  have h:((dD (gY x d bl v 0) (d.du.step (fL d bl v).ms) la [] rs tr).d.rc (dD (gY x d bl v 0) (d.du.step (fL d bl v).ms) la [] rs tr).d.ep).S=d.dh.S:=by have h7:=AG.step79 d.du (m:=(fL d bl v).ms) (.inl rfl);show((d.du.step (fL d bl v).ms).rc (d.du.step (fL d bl v).ms).ep).S=_;unfold AG.Du.rc AG.Du.ep;rw[h7.1];exact congrArg eH.S (nX n.ne)
  rcases hc with⟨rfl,b⟩|⟨l,B,rfl,N,b⟩;·refine⟨_,false,by rw[j];rfl,?_⟩;rw[j];exact⟨dY.nil _ _,eM.nil _,eP.fall b n oG o a hi i A O y⟩
  ·refine⟨l,true,by rw[j];rfl,?_⟩;rw[j,if_pos rfl];have ho:=a.ops;have hr:=a.rs;have W:=a.la;refine⟨?_,wY (dD (gY x d bl v 0) (d.du.step (fL d bl v).ms) la [] rs tr) (fL d bl v).ms L,?_⟩;·show dY w' w.heap.size l (fS ((dD (gY x d bl v 0) (d.du.step (fL d bl v).ms) la [] rs tr).tell (fL d bl v).ms (dD (gY x d bl v 0) (d.du.step (fL d bl v).ms) la [] rs tr).missing));rw[wN (gY x d bl v 0) (dD (gY x d bl v 0) (d.du.step (fL d bl v).ms) la [] rs tr) rfl rfl d.dh.S h (fL d bl v).ms];exact N
   ·have p:Rg (gY x d bl v B) la rs (t+1):=⟨a.nn,a.id,a.nb,a.ph,a.an,a.g,a.jo,a.ba,a.rf,a.fo,λ_=>⟨⟨B,rfl⟩,rfl,uZ x.id d.ep (d.last+1) bl v oG oG oG oG Q⟩,by show 0<=x.ops+1/\x.ops+1<=((t+1:Nat):Int);omega,oG,oG⟩;rcases b with⟨K,b⟩|⟨K,vv,b⟩
    ·have c:=eP.save (x':=gY x d bl v B) (wE b) n oG o p hi i A O y F tr;have E:(dD (gY x d bl v 0) (d.du.step (fL d bl v).ms) la [] rs tr).finish=dD (gY x d bl v B) (d.du.step (fL d bl v).ms) la [] rs tr:=by
      unfold AG.Nd.finish;rw[h,if_neg];·rfl
      ·exact K
     rw[E];exact c
    ·have R:Rg (kY (gY x d bl v B) vv) la (rs++[oK (gY x d bl v B)]) (t+1):=⟨a.nn,a.id,a.nb,a.ph,a.an,a.g,a.jo,a.ba,a.rf,a.fo,λc=>absurd c (by show¬(0:Int)<0;decide),by show 0<=x.ops+1/\x.ops+1<=((t+1:Nat):Int);omega,by simp;omega,oG⟩;have c:=eP.save (x':=kY (gY x d bl v B) vv) (wE b) n oG o R hi i A O y F tr;have E:(dD (gY x d bl v 0) (d.du.step (fL d bl v).ms) la [] rs tr).finish=dD (kY (gY x d bl v B) vv) (d.du.step (fL d bl v).ms) la [] (rs++[oK (gY x d bl v B)]) tr:=by
      unfold AG.Nd.finish;rw[h,if_pos];·rfl
      ·exact K
     rw[E];exact c
end
def fW.write(hSO:fA)(hBW:fC)(hBS:fD){w:World}{P:Pl}{t:Nat}{C:Nat->Prop}{left:Int}{n:AG.Nd}(h:fW w P t C left n)(e:t+1<=1000000)(bl v:Int)(i:i_ v):Calls pG 142 #[P0 (Y ⟨P.Nd,0,Z⟩),I bl,I v] w λr w'=>∃l ok,r=.returned (.tuple #[I (bif (n.operate bl v ok).2.2==0 then n.ops+1 else 0),l,I (n.operate bl v ok).2.2])/\gJ P t C left n.nodes ((n.operate bl v ok).1,(n.operate bl v ok).2.1) ok l w w':=by obtain⟨x,d,fs,la,lo,rs,k,c,b,a,hi,g,f⟩:=h.ex;generalize n.tr=tr at g f;subst g;have hS:=oX b c.ne;have m:=a.ops;have o:=a.rs;refine(JO hSO hBW hBS P x d fs left t C la lo rs bl v i w k c e a.nn a.id a.nb b.la hS.2.2 oG oG).mono ?_;intro r w' j;exact DA c b a hi f e i j
def EI{d:SD}{n:Int}(h:fN d n)(i:Int):-9223372036854775808<=d.bk i/\d.bk i<=9223372036854775807:=by
 unfold SD.bk;split;·exact h.b0
 split;·exact h.b1
 split;·exact h.b2
 split;·exact h.b3
 ·decide
def fW.read(hSO:fA)(hBW:fC)(hBS:fD){w:World}{P:Pl}{t:Nat}{C:Nat->Prop}{left:Int}{n:AG.Nd}(h:fW w P t C left n)(e:t+1<=1000000)(bl:Int):Calls pG 141 #[P0 (Y ⟨P.Nd,0,Z⟩),I bl] w λr w'=>∃l ok,r=.returned (.tuple #[I (bif (n.operate bl (n.d.bk bl) ok).2.2==0 then n.ops+1 else 0),l,I (n.operate bl (n.d.bk bl) ok).2.2])/\gJ P t C left n.nodes ((n.operate bl (n.d.bk bl) ok).1,(n.operate bl (n.d.bk bl) ok).2.1) ok l w w':=by obtain⟨x,d,fs,la,lo,rs,k,c,b,a,hi,g,f⟩:=h.ex;generalize n.tr=tr at g f;subst g;have hS:=oX b c.ne;have m:=a.ops;have o:=a.rs;refine(LD hSO hBW hBS P x d fs left t C la lo rs bl (λi _ _=>EI b i) w k c e a.nn a.id a.nb b.la hS.2.2 oG oG).mono ?_;intro r w' j;exact DA c b a hi f e (EI b bl) j
def fW.retry(hSO:fA)(hBW:fC)(hBS:fD){w:World}{P:Pl}{t:Nat}{C:Nat->Prop}{left:Int}{n:AG.Nd}(h:fW w P t C left n)(ht:t+1<=1000000):Calls pG 85 #[P0 (Y ⟨P.Nd,0,Z⟩)] w λr w'=>∃l ok,r=.returned l/\gJ P t C left n.nodes (n.retry ok) ok l w w':=by
 obtain⟨x,d,fs,la,lo,rs,hF,g,j,c,hi,hn,U⟩:=h.ex;generalize n.tr=tr at hn U;subst hn;have hS:=oX j g.ne;have hg:=j.at d.ep;have he:=p9 g (by omega:t<=1000000);have a1:=c.id;have a3:=c.nn;have a0:=j.la;have a4:=c.nb;have Q:=B6 d x.nb c.nb;have a2:=c.jo;obtain⟨B0,X⟩:∃B,0<x.on->x.oa=some B:=by
  by_cases a:0<x.on;·obtain⟨B,g⟩:=(c.on a).1;exact⟨B,λ_=>g⟩
  ·exact⟨0,λN=>absurd N a⟩
 have u:0<x.on->Rl {x.ow.ms with f:=x.id}:=by intro a;obtain⟨_,h7,N⟩:=c.on a;refine⟨?_,by intro z M;exact absurd M (by simp[iJ.ms]),λh6=>absurd h6 (by show¬x.ow.k=9;omega)⟩;show fH x.ow.k x.id [0,x.ow.e,x.ow.b,x.ow.wa,x.ow.p,x.ow.s,x.ow.q,x.ow.bl,x.ow.v,0]=true;rw[h7];exact N
 refine(JP hSO hBW hBS P x d fs left t C la lo rs B0 w hF g ht c.nn c.id hg.1 c.rf c.nb oG j.la c.ph.1 hS.2.2 X (λa=>by have N:=c.on a;rw[N.2.1];exact N.2.2)).mono ?_;rintro r w' (⟨o,rfl,F,hx⟩|⟨o,A,l,rfl,H,F,hx⟩|⟨o,A,rfl,F⟩|⟨o,A,l,B,rfl,H,F⟩)
 ·have O:(dD x d.du la lo rs tr).retry true=(dD x d.du la lo rs tr,[]):=by unfold AG.Nd.retry;rw[if_pos (show(dD x d.du la lo rs tr).down=true from o)]
  refine⟨_,true,rfl,?_⟩;rw[O];exact⟨dY.nil _ _,eM.nil _,eP.keep F hx g j c.next hi U⟩
 ·have y:fS (if 0<x.on then(dD x d.du la lo rs tr).tell x.ow.ms (dD x d.du la lo rs tr).missing else[])=oL x d lo:=by
   unfold oL;by_cases a:0<x.on;·rw[if_pos a,decide_eq_true a,cond_true];exact wN x (dD x d.du la lo rs tr) rfl rfl d.dh.S (congrArg eH.S (nX g.ne)) x.ow.ms
   ·rw[if_neg a,decide_eq_false a,cond_false];rfl
  have D:eM x.nodes (if 0<x.on then(dD x d.du la lo rs tr).tell x.ow.ms (dD x d.du la lo rs tr).missing else[]):=by
   by_cases a:0<x.on;·rw[if_pos a];exact wY (dD x d.du la lo rs tr) x.ow.ms (u a)
   ·rw[if_neg a];exact eM.nil _
  have K:∃out,(dD x d.du la lo rs tr).iq true=(dD x d.du la lo rs tr,out)/\fS out=rP x d/\eM x.nodes out:=by
   unfold AG.Nd.iq rP;show ∃out,(if x.ph=0 then _ else if x.ph=1 then _ else _)=_/\_/\_;by_cases L:x.ph=0;·rw[if_pos L,if_pos L];exact⟨_,rfl,tN x c.nn c.id (dD x d.du la lo rs tr) rfl rfl _,tT (dD x d.du la lo rs tr) _ ⟨rG x.id d.ep 0 oG oG oG,by intro z M;exact absurd M (by simp[AG.Ms.nil]),by intro a;exact absurd a (by show¬(1:Int)=9;decide)⟩⟩
   ·rw[if_neg L,if_neg L];by_cases E:x.ph=1
    ·rw[if_pos E,if_pos E];have M:(dD x d.du la lo rs tr).eu=⟨9,0,d.ep,0,0,0,0,d.last,0,0,iF d x.nb⟩:=by unfold AG.Nd.eu;rw[show((List.range (dD x d.du la lo rs tr).nb.toNat).map (λi:Nat=>(dD x d.du la lo rs tr).d.bk i))=iF d x.nb from yI d x.nb c.nb];rfl
     refine⟨_,rfl,?_,?_⟩;·rw[M];have:=C1 x c.nn (dD x d.du la lo rs tr) rfl ⟨9,0,d.ep,0,0,0,0,d.last,0,0,iF d x.nb⟩ x.jo.toNat oG;rw[show((x.jo.toNat:Nat):Int)=x.jo by omega]at this;exact this
     ·rw[M];exact D4 (dD x d.du la lo rs tr) _ _ c.jo ⟨rH x.id d.ep d.last (iF d x.nb).length oG oG j.la (by rw[Q];omega),xB j x.nb,λ_=>by show 1<=(iF d x.nb).length;rw[Q];omega⟩
    ·rw[if_neg E,if_neg E];have p2:1000000000000<x.nb' d:=by rcases A with a|a|a;exact absurd a L;exact absurd a E;exact a
     refine⟨[],?_,rfl,eM.nil _⟩;unfold AG.Nd.prepare;dsimp only;rw[if_pos (show 1000000000000<(dD x d.du la lo rs tr).gu (dD x d.du la lo rs tr).rf from p2)]
  obtain⟨out,o1,o2,o3⟩:=K;have O:(dD x d.du la lo rs tr).retry true=(dD x d.du la lo rs tr,out++if 0<x.on then(dD x d.du la lo rs tr).tell x.ow.ms (dD x d.du la lo rs tr).missing else[]):=by unfold AG.Nd.retry;rw[if_neg (show¬(dD x d.du la lo rs tr).down=true by show¬x.down=true;simp[o]),o1];rfl
  refine⟨l,true,rfl,?_⟩;rw[O];exact⟨by show dY w' w.heap.size l (fS (_++_));rw[B3,o2,y];exact H,o3.app D,eP.keep F hx g j c.next hi U⟩
 all_goals
  have L:¬x.ph=0:=by have:=A.1;omega
  have E:¬x.ph=1:=by have:=A.1;omega
  have m:=C7 c j A.2
  have V:=λok=>wC (x:=x) (d:=d) (la:=la) (lo:=lo) (rs:=rs) (tr:=tr) hg.1.1 c.rf.1 c.id.1 o A.2 ok
  have K:∀ok,(dD x d.du la lo rs tr).iq ok=(dD x d.du la lo rs tr).prepare ok:=by
   intro ok
   unfold AG.Nd.iq
   rw[if_neg (show¬(dD x d.du la lo rs tr).ph=0 from L),if_neg (show¬(dD x d.du la lo rs tr).ph=1 from E)]
  have O:∀ok,(dD x d.du la lo rs tr).retry ok=(((dD x d.du la lo rs tr).prepare ok).1,((dD x d.du la lo rs tr).prepare ok).2++if 0<((dD x d.du la lo rs tr).prepare ok).1.on then((dD x d.du la lo rs tr).prepare ok).1.tell ((dD x d.du la lo rs tr).prepare ok).1.ow ((dD x d.du la lo rs tr).prepare ok).1.missing else[]):=by
   intro ok
   unfold AG.Nd.retry
   rw[if_neg (show¬(dD x d.du la lo rs tr).down=true by show¬x.down=true;simp[o]),K]
  obtain⟨r1,r2,r3⟩:=wD (x:=x) g (by omega:t<=1000000) m
  have R:Jr fs d x.nodes t false tr:=by rw[o]at U;exact U
 ·refine⟨_,false,rfl,?_⟩;rw[O,V];exact⟨dY.nil _ _,eM.nil _,eP.fall F g oG j c hi R r1 r2 r3⟩
 ·refine⟨l,true,rfl,?_⟩;rw[O,V];dsimp only[cond_true];have W:((d.du.step (fR x d).ms).rc (d.du.step (fR x d).ms).ep).S=d.dh.S:=by have h7:(d.du.step (fR x d).ms).recs=d.recs:=rfl;unfold AG.Du.rc AG.Du.ep;rw[h7];exact congrArg eH.S (nX g.ne)
  have y:fS (if 0<x.on then(dD (jV x d B) (d.du.step (fR x d).ms) [(2,d.ep,x.nb' d,x.id)] lo rs tr).tell x.ow.ms (dD (jV x d B) (d.du.step (fR x d).ms) [(2,d.ep,x.nb' d,x.id)] lo rs tr).missing else[])=oL x d lo:=by
   unfold oL;by_cases a:0<x.on;·rw[if_pos a,decide_eq_true a,cond_true];exact wN (jV x d B) (dD (jV x d B) (d.du.step (fR x d).ms) [(2,d.ep,x.nb' d,x.id)] lo rs tr) rfl rfl d.dh.S W x.ow.ms
   ·rw[if_neg a,decide_eq_false a,cond_false];rfl
  have D:eM x.nodes (if 0<x.on then(dD (jV x d B) (d.du.step (fR x d).ms) [(2,d.ep,x.nb' d,x.id)] lo rs tr).tell x.ow.ms (dD (jV x d B) (d.du.step (fR x d).ms) [(2,d.ep,x.nb' d,x.id)] lo rs tr).missing else[]):=by
   by_cases a:0<x.on;·rw[if_pos a];exact wY (dD (jV x d B) (d.du.step (fR x d).ms) [(2,d.ep,x.nb' d,x.id)] lo rs tr) x.ow.ms (u a)
   ·rw[if_neg a];exact eM.nil _
  refine⟨?_,?_,?_⟩;·show dY w' w.heap.size l (fS (_++(if 0<x.on then(dD (jV x d B) (d.du.step (fR x d).ms) [(2,d.ep,x.nb' d,x.id)] lo rs tr).tell x.ow.ms (dD (jV x d B) (d.du.step (fR x d).ms) [(2,d.ep,x.nb' d,x.id)] lo rs tr).missing else[])));rw[B3,y,wP c.id c.nn];exact H
  ·exact eM.app (wO c.id c.nn g oG m) D
  ·exact eP.save (x':=jV x d B) F g oG j (xA c j m) hi R r1 r2 r3 o tr
def fW.same{w w':World}{P:Pl}{t:Nat}{C:Nat->Prop}{left:Int}{n:AG.Nd}(h:fW w P t C left n)(hs:w.heap.size<=w'.heap.size)(c:∀g,C g->w'.heap[g]?=w.heap[g]?)(b:dW w'):fW w' P t C left n:=by obtain⟨x,d,fs,la,lo,rs,e,a⟩:=h.ex;exact⟨x,d,fs,la,lo,rs,e.same hs c b,a⟩
def fW.tabs{w:World}{P:Pl}{t:Nat}{C:Nat->Prop}{left:Int}{n:AG.Nd}(h:fW w P t C left n):dW w:=by obtain⟨x,d,fs,la,lo,rs,a,b⟩:=h.ex;exact a.tabs
def fW.lt{w:World}{P:Pl}{t:Nat}{C:Nat->Prop}{left:Int}{n:AG.Nd}(h:fW w P t C left n):∀g,C g->2<=g/\g<w.heap.size:=by obtain⟨x,d,fs,la,lo,rs,a,b⟩:=h.ex;exact a.lt
def fW.later{w w':World}{P:Pl}{t:Nat}{C:Nat->Prop}{left:Int}{n:AG.Nd}(h:fW w P t C left n)(a:Below w.heap.size w w'):fW w' P t C left n:=h.same a.size (λg b=>a.block g (h.lt g b).2) (h.tabs.below a h.tabs.two)
def eP.later{w w1 w2:World}{P:Pl}{t:Nat}{C:Nat->Prop}{left:Int}{n:AG.Nd}{ok:Bool}(h:eP P t C left n ok w w1)(a:Below w1.heap.size w1 w2):eP P t C left n ok w w2:=by obtain⟨C',c,d,b,e⟩:=h;exact⟨C',c,d.later a,b.later a,e⟩
def eP.pre{w w1 w2:World}{P:Pl}{t:Nat}{C:Nat->Prop}{left:Int}{n:AG.Nd}{ok:Bool}(h:eP P t C left n ok w1 w2)(d:Below w.heap.size w w1):eP P t C left n ok w w2:=by obtain⟨C',b,c,a,e⟩:=h;exact⟨C',b,c,a.pre d,e⟩
def gJ.pre{w w1 w2:World}{P:Pl}{t:Nat}{C:Nat->Prop}{left:Int}{n:Int}{f:AG.Nd×List (Int×AG.Ms)}{ok:Bool}{l:Value}(h:gJ P t C left n f ok l w1 w2)(a:Below w.heap.size w w1):gJ P t C left n f ok l w w2:=⟨h.1.mono a.size,h.2.1,h.2.2.pre a⟩
def gJ.later{w w1 w2:World}{P:Pl}{t:Nat}{C:Nat->Prop}{left:Int}{n:Int}{f:AG.Nd×List (Int×AG.Ms)}{ok:Bool}{l:Value}(h:gJ P t C left n f ok l w w1)(a:Below w1.heap.size w1 w2):gJ P t C left n f ok l w w2:=⟨h.1.later a,h.2.1,h.2.2.later a⟩
section
variable {w w':World} {P:Pl} {x x':NB} {d:SD} {fs:List FD} {left:Int} {t:Nat} {C C':Nat->Prop} {la lo la' lo':List Ky} {rs rs':List dJ} {tr:AG.Ms}
def AX(m:AG.Ms)(g:m.k=1∨m.k=3)(ok:Bool):(dD x d.du la lo rs tr).iy m ok=bif iZ d m.k m.e m.b m.p m.s then(bif ok then((dD x d.du la lo rs tr).save m true,(eJ d m.k m.e m.b).ms) else((dD x d.du la lo rs tr).fall m,.nil)) else(dD x d.du la lo rs tr,(eJ d m.k m.e m.b).ms):=by
 unfold AG.Nd.iy iZ eJ;show(if m.e<d.ep then _ else if m.b<(dH d.dw m.e).pr then _ else _)=_;by_cases c:m.e<d.ep;·rw[if_pos c,if_pos c,decide_eq_true c];rfl
 ·rw[if_neg c,if_neg c,decide_eq_false c];by_cases a:m.b<(dH d.dw m.e).pr;·rw[if_pos a,if_pos a,decide_eq_true a];rfl
  ·rw[if_neg a,if_neg a,decide_eq_false a];dsimp only;show(if((dH d.dw m.e).after m.k m.b m.p m.s).ql (dH d.dw m.e)=true then _ else _)=_;have f:(if m.k=3 then({AG.Ms.nil with k:=4,e:=m.e,b:=m.b}:AG.Ms) else{AG.Ms.nil with k:=2,e:=m.e,b:=m.b,wa:=(dH d.dw m.e).ac,p:=(dH d.dw m.e).pm,s:=(dH d.dw m.e).st})=(if m.k=3 then(⟨4,0,m.e,m.b,0,0,0,0,0,0⟩:iJ) else⟨2,0,m.e,m.b,(dH d.dw m.e).ac,(dH d.dw m.e).pm,(dH d.dw m.e).st,0,0,0⟩).ms:=by split<;>rfl
   cases h3:((dH d.dw m.e).after m.k m.b m.p m.s).ql (dH d.dw m.e)
   ·rw[if_neg sG];cases ok;·rfl
    ·rw[if_pos rfl];exact congrArg (Prod.mk _) f
   ·rw[if_pos rfl];exact congrArg (Prod.mk _) f
def JR{i nn:Int}(hi:0<=i/\i<5)(h:fN d nn)(m:BG t d)(n:t<=1000000){k e b:Int}(l:k=1∨k=3)(a:e_ e)(f:e_ b):fH (eJ d k e b).k i [0,(eJ d k e b).e,(eJ d k e b).b,(eJ d k e b).wa,(eJ d k e b).p,(eJ d k e b).s,(eJ d k e b).q,(eJ d k e b).bl,(eJ d k e b).v,0]=true:=by
 have c:=h.at e;unfold eJ;split
 ·next h1=>
  have g:=h.re (e+1).toNat (by unfold SD.ep at h1;omega);have j:d.qj (e+1)=d.recs[(e+1).toNat]'(by unfold SD.ep at h1;omega):=by unfold SD.qj;rw[List.getD_eq_getElem?_getD,List.getElem?_eq_getElem (by unfold SD.ep at h1;omega)];rfl
  rw[j];exact rF i e _ _ hi a g.2.1 g.2.2
 split;·exact P8 i e b _ hi a f c.1
 split;·exact P9 i e b hi a f
 ·exact QA i e b _ _ _ hi a f c.2.1 c.2.2.1 c.2.2.2
def pQ{W1:World}{X:Nat}{cs:Array Value}{n':AG.Nd}{id nodes:Int}{ok:Bool}{a:iJ}{ms:Value}{K F E B O R N Q H V:Int}(h:eP P t C left n' ok w W1)(e1:n'.id=id)(e2:n'.nodes=nodes)(hn:nodes<=5)(M:0<=F/\F<nodes)(i:a.k=0∨fH a.k id [0,a.e,a.b,a.wa,a.p,a.s,a.q,a.bl,a.v,0]=true)(A:a.k≠9)(U:dC W1 X cs 136):Calls pG 195 #[P0 (Y ⟨P.Nd,0,Z⟩),.agg (mA K F E B O R N Q H V ms),a.ag] W1 λr2 W2=>∃l,r2=.returned l/\dC W2 X cs 136/\gJ P t C left nodes (n',if a.ms.k=0 then[] else[(F,{a.ms with f:=id})]) ok l w W2:=by
 obtain⟨S,l2,L,D,h3⟩:=h;obtain⟨x,d,fs,la,lo,rs,c,hB,hD,hR,hi,j,hJ⟩:=L.ex;have c0:=c.blk.cell 0;have c1:=c.blk.cell 1;have e3:x.id=id:=by rw[←e1,j];rfl
 have e4:x.nodes=nodes:=by rw[←e2,j];rfl
 have n:W1.cell? ⟨P.Nd,0,Z⟩=Y (I id):=by rw[←e3];exact c0
 have o:W1.cell? ⟨P.Nd,1,Z⟩=Y (I nodes):=by rw[←e4];exact c1
 refine(JG P.Nd id nodes K F E B O R N Q H V ms a W1 n o c.blk.lt c.tabs hn M i).mono ?_;rintro r W2 ⟨l,rfl,hp,u⟩;refine⟨l,rfl,U.later u,?_,?_,⟨S,l2,L.later u,D.later u,h3⟩⟩
 ·have y:=hp.mono D.kept.size;have W:fS (if a.ms.k=0 then[] else[(F,{a.ms with f:=id})])=qJ a id F:=by
   unfold qJ;by_cases g:a.k=0;·rw[if_pos (show a.ms.k=0 from g),g];rfl
   ·rw[if_neg (show¬a.ms.k=0 from g),show(a.k==0)=false by simpa using g];rfl
  show dY W2 w.heap.size l (fS (if a.ms.k=0 then[] else[(F,{a.ms with f:=id})]));rw[W];exact y
 ·show eM nodes (if a.ms.k=0 then[] else[(F,{a.ms with f:=id})]);by_cases g:a.k=0;·rw[if_pos (show a.ms.k=0 from g)];exact eM.nil _
  ·rw[if_neg (show¬a.ms.k=0 from g)];intro z m;simp only[List.mem_singleton]at m;subst m;rcases i with i|i;·exact absurd i g
   ·refine⟨M,i,by intro z m;exact absurd m (by simp[iJ.ms]),λy=>absurd y A⟩
def DB(d:SD)(k e b:Int):(eJ d k e b).k≠9:=by
 unfold eJ;split;·show(6:Int)≠9;decide
 split;·show(5:Int)≠9;decide
 split;·show(4:Int)≠9;decide
 ·show(2:Int)≠9;decide
def xC{n:AG.Nd}{m:AG.Ms}(b:n.down=false)(d:m.f≠n.id)(e:m.f<n.nodes)(ok:Bool):(m.k=1∨m.k=3->n.receive m ok=n.rep m.f (n.iy m ok))/\(m.k=2->n.receive m ok=n.promised m ok)/\(m.k=4->n.receive m ok=n.accepted m ok)/\(m.k=5->n.receive m ok=(n.refused m,[]))/\(m.k=6->n.receive m ok=((n.decided m ok).1,[]))/\(m.k=7∨m.k=9->n.receive m ok=n.rep m.f (n.update m ok))/\(m.k=8->n.receive m ok=(n.wrote m,[]))/\(m.k=10->n.receive m ok=n.copied m ok):=by
 have c:¬(n.down=true∨m.f=n.id∨n.nodes<=m.f):=by rw[b];simp only[Bool.false_eq_true,false_or];omega
 unfold AG.Nd.receive;rw[if_neg c];refine⟨λa=>?_,λa=>?_,λa=>?_,λa=>?_,λa=>?_,λa=>?_,λa=>?_,λa=>?_⟩;·rw[if_pos a]
 ·rw[if_neg oG,if_pos a]
 ·rw[if_neg oG,if_neg oG,if_pos a]
 ·rw[if_neg oG,if_neg oG,if_neg oG,if_pos a]
 ·rw[if_neg oG,if_neg oG,if_neg oG,if_neg oG,if_pos a]
 ·rw[if_neg oG,if_neg oG,if_neg oG,if_neg oG,if_neg oG,if_pos a]
 ·rw[if_neg oG,if_neg oG,if_neg oG,if_neg oG,if_neg oG,if_neg oG,if_pos a]
 ·rw[if_neg oG,if_neg oG,if_neg oG,if_neg oG,if_neg oG,if_neg oG,if_neg oG,if_pos a]
def DC(hSO:fA)(hBW:fC)(hBS:fD)(Q:dO w P x d fs left (eA t) C la lo rs)(V:BG t d)(hD:fN d x.nodes)(U:Rg x la rs t)(hi:d.id=x.id)(hJ:Jr fs d x.nodes t false tr)(ht:t+1<=1000000)(y:x.down=false)(m:AG.Ms)(hm:Rl m)(h:m.k=1∨m.k=3)(hf:0<=m.f/\m.f<x.nodes)(a7:m.f≠x.id){W:World}{X:Nat}{a:Option Addr}{c:Nat}(O:Below w.heap.size w W)(a6:w.heap.size<=X)(hX:dC W X (mA m.k m.f m.e m.b m.wa m.p m.s m.q m.bl m.v (J a m.zs.length c)) 136)(ho:fI W w.heap.size (J a m.zs.length c) m.zs):Calls pG 196 #[P0 (Y ⟨P.Nd,0,Z⟩),.agg (mA m.k m.f m.e m.b m.wa m.p m.s m.q m.bl m.v (J a m.zs.length c))] W λr W1=>∃m2:iJ,r=.returned m2.ag/\dC W1 X (mA m.k m.f m.e m.b m.wa m.p m.s m.q m.bl m.v (J a m.zs.length c)) 136/\Calls pG 195 #[P0 (Y ⟨P.Nd,0,Z⟩),.agg (mA m.k m.f m.e m.b m.wa m.p m.s m.q m.bl m.v (J a m.zs.length c)),m2.ag] W1 λK W2=>∃l,K=.returned l/\dC W2 X (mA m.k m.f m.e m.b m.wa m.p m.s m.q m.bl m.v (J a m.zs.length c)) 136/\∃ok,gJ P t C left x.nodes ((dD x d.du la lo rs tr).receive m ok) ok l w W2:=by
 obtain⟨A,hA,g,u⟩:=Q.nod;obtain⟨a3,a4⟩:=tY ho;obtain⟨_,_,S⟩:=oZ hm.1;have D:(e_ m.e)/\(e_ m.b):=by
  rcases h with h|h<;>rw[h]at S;·exact⟨((nA _ _ _ _ _ _ _ _ _).1 S).1,((nA _ _ _ _ _ _ _ _ _).1 S).2.1⟩
  ·exact⟨((nB _ _ _ _ _ _ _ _ _).1 S).1,((nB _ _ _ _ _ _ _ _ _).1 S).2.1⟩
 have aa:=U.id;have L:=U.nn;have B:¬C X:=Q.fresh a6;have a9:2<=X:=by have:=Q.tabs.two;omega
 have o:∀ok,(dD x d.du la lo rs tr).receive m ok=(dD x d.du la lo rs tr).rep m.f ((dD x d.du la lo rs tr).iy m ok):=λok=>(xC (n:=dD x d.du la lo rs tr) y a7 hf.2 ok).1 h;have a2:∀ad,a=some ad->¬A ad.block:=λad a8 F=>absurd (Q.lt _ (g _ F)).2 (Nat.not_lt.2 (a4 ad a8));have r1:iP ⟨m.k,m.f,m.e,m.b,m.wa,m.p,m.s,m.q,m.bl,m.v,a,c,m.zs⟩:=⟨hm.1,hm.2.1⟩;have K:iE m.k m.bl m.zs.length:=by rcases h with h|h;exact .inl h;exact .inr (.inl h)
 have r3:m.k=6->m.e=d.ep/\m.e<1000000000000:=λM=>by omega
 have H:=Q.later O;refine(BJ hSO hBW hBS P x d fs left t A m.k m.f m.e m.b m.wa m.p m.s m.q m.bl m.v a m.zs c W (hA.later O) V oG a3 a2 D.1 h y).mono ?_;rintro r W1 ⟨ok,rfl,hs⟩;have N:=JR (i:=x.id) oG hD V (by omega:t<=1000000) h D.1 D.2;have hv:=AX (x:=x) (d:=d) (la:=la) (lo:=lo) (rs:=rs) (tr:=tr) m h;rcases hs with⟨hN,rfl,a0,E⟩|⟨hN,hs⟩;·obtain⟨t1,t2⟩:=H.turn g u a0 E rfl rfl rfl;have F:eP P t C left (dD x d.du la lo rs tr) true w W1:=(eP.keep t1 t2 V hD U.next hi (by rw[y];exact hJ)).pre O;refine⟨eJ d m.k m.e m.b,rfl,E.blk hX (λM=>B (g _ M)),?_⟩;refine(pQ F rfl rfl L.2 hf (.inr N) (DB _ _ _ _) (E.blk hX (λM=>B (g _ M)))).mono ?_;rintro K W2 ⟨l,rfl,j,R⟩;refine⟨l,rfl,j,true,?_⟩;rw[o,hv,hN,cond_false];exact R
 ·have z:dC W1 X (mA m.k m.f m.e m.b m.wa m.p m.s m.q m.bl m.v (J a m.zs.length c)) 136:=hs.blk hX (λM=>B (g _ M));cases ok;·have a1:=H.jf g u hs rfl rfl rfl;have F:=(eP.fall (la:=la) (lo:=lo) (tr:=tr) a1 V oG hD U hi hJ r1 K r3).pre O;refine⟨.nil,rfl,z,?_⟩;refine(pQ F rfl rfl L.2 hf (.inl rfl) dG z).mono ?_;rintro K W2 ⟨l,rfl,j,R⟩;refine⟨l,rfl,j,false,?_⟩;rw[o,hv,hN,cond_true];exact R
  ·have a5:=H.saved g u hs rfl rfl rfl;have F:=(eP.save (x':=x) a5 V oG hD U.next hi hJ r1 K r3 y tr).pre O;refine⟨eJ d m.k m.e m.b,rfl,z,?_⟩;refine(pQ F rfl rfl L.2 hf (.inr N) (DB _ _ _ _) z).mono ?_;rintro K W2 ⟨l,rfl,j,R⟩;refine⟨l,rfl,j,true,?_⟩;rw[o,hv,hN,cond_true];exact R
def LH(m:AG.Ms)(c:m.k=7∨m.k=9)(ok:Bool):(dD x d.du la lo rs tr).update m ok=bif tG x d m.k m.e m.q m.bl m.zs.length then(bif ok then(bif (m.e==d.seen) then(dD x d.du la lo rs tr).save m true else((dD x d.du la lo rs tr).save m true).stand,(jR x d m.k m.e m.q m.bl m.zs.length).ms) else((dD x d.du la lo rs tr).fall m,.nil)) else(dD x d.du la lo rs tr,(jR x d m.k m.e m.q m.bl m.zs.length).ms):=by
 unfold AG.Nd.update tG jR;show(if mO m.k x.nb m.bl m.zs.length=false∨m.e=d.seen/\(x.act=true∨m.q<d.last) then _ else if m.e<d.seen then(_,if m.e<d.ep then _ else _) else _)=_;have j:({AG.Ms.nil with k:=m.k+1,e:=m.e,q:=m.q}:AG.Ms)=(⟨mS m.k,0,m.e,0,0,0,0,m.q,0,0⟩:iJ).ms:=by unfold mS iJ.ms;rcases c with c|c<;>simp[c,AG.Ms.nil]
 cases hfb:mO m.k x.nb m.bl m.zs.length;·rw[if_pos (.inl rfl)];rfl
 ·have i:((m.e==d.seen)&&(x.act||decide (m.q<d.last)))=decide (m.e=d.seen/\(x.act=true∨m.q<d.last)):=by rw[Bool.eq_iff_iff];simp
  rw[i];by_cases g:m.e=d.seen/\(x.act=true∨m.q<d.last);·rw[if_pos (.inr g),decide_eq_true g];rfl
  ·rw[if_neg (by rintro(h|h);exact absurd h sG;exact g h),decide_eq_false g];by_cases a:m.e<d.seen;·rw[if_pos a,decide_eq_true a];simp only[Bool.not_false,Bool.not_true,Bool.and_true,Bool.true_and,Bool.false_and,Bool.and_false,cond_true,cond_false];congr 1;split<;>rfl
   ·rw[if_neg a,decide_eq_false a];dsimp only;have l:((m.e==d.seen)&&(m.q==d.last))=decide (m.e=d.seen/\m.q=d.last):=by rw[Bool.eq_iff_iff];simp
    rw[l,j];show(if m.e=d.seen/\m.q=d.last then _ else if ok=true then(if m.e=d.seen then _ else _,_) else _)=_;by_cases b:m.e=d.seen/\m.q=d.last;·rw[if_pos b,decide_eq_true b];rfl
    ·rw[if_neg b,decide_eq_false b];cases ok;·rfl
     ·by_cases f:m.e=d.seen;·rw[if_pos rfl,if_pos f,show(m.e==d.seen)=true by simpa using f];rfl
      ·rw[if_pos rfl,if_neg f,show(m.e==d.seen)=false by simpa using f];rfl
def LJ{i nn:Int}(hi:0<=i/\i<5)(j:fN d nn){k e q bl:Int}{z:Nat}(g:k=7∨k=9)(a:e_ e)(f:e_ q):((jR x d k e q bl z).k=0∨fH (jR x d k e q bl z).k i [0,(jR x d k e q bl z).e,(jR x d k e q bl z).b,(jR x d k e q bl z).wa,(jR x d k e q bl z).p,(jR x d k e q bl z).s,(jR x d k e q bl z).q,(jR x d k e q bl z).bl,(jR x d k e q bl z).v,0]=true)/\(jR x d k e q bl z).k≠9:=by
 unfold jR;cases mO k x.nb bl z&&!((e==d.seen)&&(x.act||decide (q<d.last)));·exact⟨.inl rfl,by show(0:Int)≠9;decide⟩
 ·rw[cond_true];cases decide (e<d.seen)
  ·rw[cond_false];unfold mS;rcases g with rfl|rfl;·exact⟨.inr (QB i e q hi a f),by show(8:Int)≠9;decide⟩
   ·exact⟨.inr (O0 i e q hi a f),by show(10:Int)≠9;decide⟩
  ·rw[cond_true];split
   ·next h1=>
    have c:=j.re (e+1).toNat (by unfold SD.ep at h1;omega);have h:d.qj (e+1)=d.recs[(e+1).toNat]'(by unfold SD.ep at h1;omega):=by unfold SD.qj;rw[List.getD_eq_getElem?_getD,List.getElem?_eq_getElem (by unfold SD.ep at h1;omega)];rfl
    rw[h];exact⟨.inr (rF i e _ _ hi a c.2.1 c.2.2),by show(6:Int)≠9;decide⟩
   ·exact⟨.inl rfl,dG⟩
def D5(hSO:fA)(hBW:fC)(hBS:fD)(hF:dO w P x d fs left (eA t) C la lo rs)(hB:BG t d)(hD:fN d x.nodes)(V:Rg x la rs t)(hi:d.id=x.id)(hJ:Jr fs d x.nodes t false tr)(ht:t+1<=1000000)(D:x.down=false)(m:AG.Ms)(hm:Rl m)(E:m.k=7∨m.k=9)(hf:0<=m.f/\m.f<x.nodes)(a6:m.f≠x.id){W:World}{X:Nat}{a:Option Addr}{c:Nat}(U:Below w.heap.size w W)(a5:w.heap.size<=X)(hX:dC W X (mA m.k m.f m.e m.b m.wa m.p m.s m.q m.bl m.v (J a m.zs.length c)) 136)(ho:fI W w.heap.size (J a m.zs.length c) m.zs):Calls pG 201 #[P0 (Y ⟨P.Nd,0,Z⟩),.agg (mA m.k m.f m.e m.b m.wa m.p m.s m.q m.bl m.v (J a m.zs.length c))] W λr W1=>∃m2:iJ,r=.returned m2.ag/\dC W1 X (mA m.k m.f m.e m.b m.wa m.p m.s m.q m.bl m.v (J a m.zs.length c)) 136/\Calls pG 195 #[P0 (Y ⟨P.Nd,0,Z⟩),.agg (mA m.k m.f m.e m.b m.wa m.p m.s m.q m.bl m.v (J a m.zs.length c)),m2.ag] W1 λF W2=>∃l,F=.returned l/\dC W2 X (mA m.k m.f m.e m.b m.wa m.p m.s m.q m.bl m.v (J a m.zs.length c)) 136/\∃ok,gJ P t C left x.nodes ((dD x d.du la lo rs tr).receive m ok) ok l w W2:=by
 obtain⟨A,hA,g,o⟩:=hF.nod;obtain⟨a3,a4⟩:=tY ho;obtain⟨_,_,hn⟩:=oZ hm.1;have H:(e_ m.e)/\(e_ m.q)/\iE m.k m.bl m.zs.length:=by
  rcases E with E|E<;>rw[E]at hn;·have B:=(nU _ _ _ _ _ _ _ _ _).1 hn;exact⟨B.1,B.2.1,.inr (.inr (.inr (.inl ⟨E,B.2.2.1⟩)))⟩
  ·have B:=(nV _ _ _ _ _ _ _ _ _).1 hn;exact⟨B.1,B.2.1,.inr (.inr (.inr (.inr ⟨E,hm.2.2 E,oG⟩)))⟩
 have a9:=V.id;have M:=V.nn;have O:¬C X:=hF.fresh a5;have a8:2<=X:=by have:=hF.tabs.two;omega
 have j:∀ok,(dD x d.du la lo rs tr).receive m ok=(dD x d.du la lo rs tr).rep m.f ((dD x d.du la lo rs tr).update m ok):=λok=>(xC (n:=dD x d.du la lo rs tr) D a6 hf.2 ok).2.2.2.2.2.1 E;have a2:∀ad,a=some ad->¬A ad.block:=λad a7 K=>absurd (hF.lt _ (g _ K)).2 (Nat.not_lt.2 (a4 ad a7));have r1:iP ⟨m.k,m.f,m.e,m.b,m.wa,m.p,m.s,m.q,m.bl,m.v,a,c,m.zs⟩:=⟨hm.1,hm.2.1⟩;have F:=H.2.2;have r3:m.k=6->m.e=d.ep/\m.e<1000000000000:=λB=>by omega
 have L:=hF.later U;refine(IH hSO hBW hBS P x d fs left t A m.k m.f m.e m.b m.wa m.p m.s m.q m.bl m.v a m.zs c W (hA.later U) hB oG a3 a2 H.1 E F D).mono ?_;rintro r W1 ⟨ok,rfl,hs⟩;have u:=LJ (x:=x) (bl:=m.bl) (z:=m.zs.length) (i:=x.id) oG hD E H.1 H.2.1;have hv:=LH (x:=x) (d:=d) (la:=la) (lo:=lo) (rs:=rs) (tr:=tr) m E;rcases hs with⟨hN,rfl,a0,Q⟩|⟨hN,hs⟩;·obtain⟨t1,t2⟩:=L.turn g o a0 Q rfl rfl rfl;have K:eP P t C left (dD x d.du la lo rs tr) true w W1:=(eP.keep t1 t2 hB hD V.next hi (by rw[D];exact hJ)).pre U;refine⟨jR x d m.k m.e m.q m.bl m.zs.length,rfl,Q.blk hX (λB=>O (g _ B)),?_⟩;refine(pQ K rfl rfl M.2 hf u.1 u.2 (Q.blk hX (λB=>O (g _ B)))).mono ?_;rintro F W2 ⟨l,rfl,h,S⟩;refine⟨l,rfl,h,true,?_⟩;rw[j,hv,hN,cond_false];exact S
 ·have y:dC W1 X (mA m.k m.f m.e m.b m.wa m.p m.s m.q m.bl m.v (J a m.zs.length c)) 136:=hs.blk hX (λB=>O (g _ B));cases ok;·have a1:=L.jf g o hs rfl rfl rfl;have K:=(eP.fall (la:=la) (lo:=lo) (tr:=tr) a1 hB oG hD V hi hJ r1 F r3).pre U;refine⟨.nil,rfl,y,?_⟩;refine(pQ K rfl rfl M.2 hf (.inl rfl) dG y).mono ?_;rintro F W2 ⟨l,rfl,h,S⟩;refine⟨l,rfl,h,false,?_⟩;rw[j,hv,hN,cond_true];exact S
  ·cases hse:(m.e==d.seen)
   ·have N:qC x d m.e true=x.stand:=by unfold qC;rw[hse];rfl
    rw[N]at hs;have R:=L.jf g o hs rfl rfl rfl;have K:=(eP.save (x':=x.stand) R hB oG hD V.stand.next hi hJ r1 F r3 D tr).pre U;refine⟨jR x d m.k m.e m.q m.bl m.zs.length,rfl,y,?_⟩;refine(pQ K rfl rfl M.2 hf u.1 u.2 y).mono ?_;rintro F W2 ⟨l,rfl,h,S⟩;refine⟨l,rfl,h,true,?_⟩;rw[j,hv,hN,cond_true,hse];exact S
   ·have N:qC x d m.e true=x:=by unfold qC;rw[hse];rfl
    rw[N]at hs;have R:=L.saved g o hs rfl rfl rfl;have K:=(eP.save (x':=x) R hB oG hD V.next hi hJ r1 F r3 D tr).pre U;refine⟨jR x d m.k m.e m.q m.bl m.zs.length,rfl,y,?_⟩;refine(pQ K rfl rfl M.2 hf u.1 u.2 y).mono ?_;rintro F W2 ⟨l,rfl,h,S⟩;refine⟨l,rfl,h,true,?_⟩;rw[j,hv,hN,cond_true,hse];exact S
end
end Go.Proofs.YtdcainmlcpafbaaGreatDoor
