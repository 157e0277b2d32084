import Derived.Test.YtdcainmlcpafbaaGreatDoorJ14
set_option linter.all false
set_option maxHeartbeats 4000000
set_option maxRecDepth 20000
namespace Go.Proofs.YtdcainmlcpafbaaGreatDoor
open Go.RowKit
open Value renaming int->I,slice->J,pointer->P0
open Tryz renaming prog->pG
open IntKind renaming i64->T
open Option renaming none->Z,some->Y
open Obj renaming cells->G
open Value (bool)
section
variable {w w':World} {P:Pl} {x x':NB} {d:SD} {fs:List FD} {left:Int} {t:Nat} {C C':Nat->Prop} {la lo la' lo':List Ky} {rs rs':List dJ} {tr:AG.Ms} {m:dI}
theorem KK(e:fJ d x.nodes)(a:0<d.recs.length)(set:Int):lI x d set=true↔(bits .andNot .i64 set ((dD x d.du la lo rs tr).d.rc (dD x d.du la lo rs tr).d.ep).S≠0∨AG.folB ((dD x d.du la lo rs tr).d.rc (dD x d.du la lo rs tr).d.ep) ((dD x d.du la lo rs tr).d.ep+1) ((dD x d.du la lo rs tr).id+1) set=false∨1000000000000<(dD x d.du la lo rs tr).dw 0):=by
 have g:(dD x d.du la lo rs tr).d.rc (dD x d.du la lo rs tr).d.ep=d.dh:=nD a;have b:=BQ e a (d.ep+1) (x.id+1) set;have c:=(nZ e a).1;rw[g];have h:AG.folB d.dh ((dD x d.du la lo rs tr).d.ep+1) ((dD x d.du la lo rs tr).id+1) set=kH d.dh.E d.dh.P d.dh.S (d.dh.E+1) (x.id+1) set:=by rw[nD a]at b;rw[c];rw[c]at b;exact b
 rw[h];unfold lI;have f:(dD x d.du la lo rs tr).dw 0=(fU x d set).nb' d:=rfl;rw[f];simp only[Bool.or_eq_true,bne_iff_ne,Bool.not_eq_true',decide_eq_true_eq]
theorem vG(j:0<=x.id/\x.id<x.nodes)(l:2<=x.nodes/\x.nodes<=5)(c:BG t d)(f:t<=1000000)(g:0<=x.nb' d/\x.nb' d<=1000000000000):eJ x.nodes ((dD x d.du la lo rs tr).tell {AG.Ms.nil with k:=1,e:=d.ep,b:=x.nb' d} (dD x d.du la lo rs tr).others):=by have i:=pB c f;exact sV (dD x d.du la lo rs tr) _ ⟨qJ x.id d.ep (x.nb' d) (by omega) (by omega) g,by intro z h;exact absurd h (by simp[AG.Ms.nil]),by intro a;exact absurd a (by show¬(1:Int)=9;decide)⟩
theorem vH(a:0<=x.id/\x.id<x.nodes)(c:2<=x.nodes/\x.nodes<=5):fP ((dD x d.du la lo rs tr).tell {AG.Ms.nil with k:=1,e:=d.ep,b:=x.nb' d} (dD x d.du la lo rs tr).others)=fQ (jN x) (gJ 1 x.id d.ep (x.nb' d) 0 0 0 0 0 0 []) x.nodes.toNat:=sP x c a (dD x d.du la lo rs tr) rfl rfl _
theorem u6(a:BG t d)(b:t<=1000000)(c:0<=x.nb' d/\x.nb' d<=1000000000000):iH (fO x d)/\gZ (fO x d).k (fO x d).bl (fO x d).zs.length/\((fO x d).k=6->(fO x d).e=d.ep/\(fO x d).e<1000000000000):=by have g:=pB a b;exact⟨NX _ _ (by omega) c,.inl rfl,fun f=>absurd f (by show¬(1:Int)=6;decide)⟩
theorem vV{B:Nat}(a:Rg x la rs t)(e:fJ d x.nodes)(f:0<=x.nb' d/\x.nb' d<=1000000000000):Rg (jG x d B) [(2,d.ep,x.nb' d,x.id)] rs (t+1):=by
 have c:=e.at d.ep;have b:(eH d 1 d.ep (x.nb' d)).wa=(dG d.di d.ep).ac/\(eH d 1 d.ep (x.nb' d)).p=(dG d.di d.ep).pm/\(eH d 1 d.ep (x.nb' d)).s=(dG d.di d.ep).st:=by have j:=rQ (dG d.di d.ep).pr x.rf x.id c.1.1 a.rf.1 a.id.1;rw[uP d (x.nb' d) (by unfold NB.nb';omega)];exact⟨rfl,rfl,rfl⟩
 have h:=a.ops;have i:=a.rs;refine⟨a.nn,a.id,a.nb,by show(0:Int)<=2/\(2:Int)<=3;decide,fun _ _=>⟨B,rfl⟩,a.g,a.jo,f,a.rf,?_,a.on,by show 0<=x.ops/\x.ops<=((t+1:Nat):Int);omega,by omega,by simp⟩;show(0<=(eH d 1 d.ep (x.nb' d)).wa/\(eH d 1 d.ep (x.nb' d)).wa<=1000000000000)/\(0<=(eH d 1 d.ep (x.nb' d)).p/\(eH d 1 d.ep (x.nb' d)).p<=5)/\(0<=(eH d 1 d.ep (x.nb' d)).s/\(eH d 1 d.ep (x.nb' d)).s<=31);rw[b.1,b.2.1,b.2.2];exact c.2
theorem BX(a:Rg x la rs t)(c:fJ d x.nodes)(h:¬1000000000000<x.nb' d):0<=x.nb' d/\x.nb' d<=1000000000000:=by have b:=c.at d.ep;have e:=rQ (dG d.di d.ep).pr x.rf x.id b.1.1 a.rf.1 a.id.1;unfold NB.nb' at h⊢;omega
theorem AT(a:Rg x la rs t){set:Int}(hs:0<=set/\set<=31)(hi:x.nodes<=5){B:Nat}:Rg {fU x d set with an:=some B} [] rs t:=by have b:=a.id;have c:=a.nn;exact⟨a.nn,a.id,a.nb,by show(0:Int)<=2/\(2:Int)<=3;decide,fun _ _=>⟨B,rfl⟩,⟨by show 0<=x.id+1/\x.id+1<=5;omega,hs⟩,by show(0:Int)<=0/\0<x.nodes;omega,by show(0:Int)<=0/\(0:Int)<=_;decide,by show(0:Int)<=0/\(0:Int)<=_;decide,by show((0:Int)<=0/\(0:Int)<=_)/\((0:Int)<=0/\(0:Int)<=_)/\((0:Int)<=0/\(0:Int)<=_);decide,a.on,a.ops,a.rs,by simp⟩
end
theorem fT.dm(hSO:eW)(hBW:eZ)(hBS:fA){w:World}{P:Pl}{t:Nat}{C:Nat->Prop}{left:Int}{n:AG.Nd}(h:fT w P t C left n)(N:t+1<=1000000)(set:Int)(hs:0<=set/\set<=31):Calls pG 86 #[P0 (Y ⟨P.Nd,0,Z⟩),I T set] w fun r w'=>∃l ok,r=.returned (.tuple #[l,I T (n.dm set ok).2.2])/\gF P t C left n.nodes ((n.dm set ok).1,(n.dm set ok).2.1) ok l w w':=by
 obtain⟨x,d,fs,la,lo,rs,R,p,q,c,hi,F,y⟩:=h.ex;generalize n.tr=tr at F y;subst F;have A:=q.at d.ep;have a:=KK (x:=x) (la:=la) (lo:=lo) (rs:=rs) (tr:=tr) q p.ne set;refine(FL hSO hBW hBS P x d fs left t C la lo rs set w R p N c.nn c.id A.1 hs).mono ?_;rintro r w' (⟨e,rfl,D,u,U⟩|⟨f,m,c3,D⟩)
 ·have o:(dD x d.du la lo rs tr).dm set true=(dD x d.du la lo rs tr,[],e):=by
   unfold AG.Nd.dm;rcases D with⟨f,rfl⟩|⟨f,m,rfl⟩|⟨f,m,c3,rfl⟩;·rw[if_pos (show(dD x d.du la lo rs tr).down=true from f)]
   ·rw[if_neg (show¬(dD x d.du la lo rs tr).down=true by show¬x.down=true;simp[f]),if_pos (a.1 m)]
   ·rw[if_neg (show¬(dD x d.du la lo rs tr).down=true by show¬x.down=true;simp[f]),if_neg (fun i=>by rw[a.2 i]at m;exact absurd m (by simp)),if_pos (show(dD x d.du la lo rs tr).ph≠0 from c3)]
  refine⟨_,true,by rw[o],?_⟩;rw[o];exact⟨dW.nil _ _,eJ.nil _,eL.keep u U p q c.next hi y⟩
 ·have dA:(dD x d.du la lo rs tr).down=false:=f;have v:¬1000000000000<(fU x d set).nb' d:=fun i=>by have:lI x d set=true:=a.2 (.inr (.inr i));rw[this]at m;exact absurd m (by simp)
  have S:Rg (fU x d set) [] rs t->True:=fun _=>trivial;have g:0<=(fU x d set).nb' d/\(fU x d set).nb' d<=1000000000000:=by have F:=rQ (dG d.di d.ep).pr 0 x.id A.1.1 (by decide) c.id.1;have i:(fU x d set).nb' d=mO (dG d.di d.ep).pr 0 x.id:=rfl;rw[i]at v⊢;omega
  have j:=fun ok=>uX (x:=fU x d set) (d:=d) (la:=[]) (lo:=lo) (rs:=rs) (tr:=tr) A.1.1 (by show(0:Int)<=0;decide) c.id.1 f v ok;have o:∀ok,(dD x d.du la lo rs tr).dm set ok=(((dD (fU x d set) d.du [] lo rs tr).prepare ok).1,((dD (fU x d set) d.du [] lo rs tr).prepare ok).2,if((dD (fU x d set) d.du [] lo rs tr).prepare ok).1.down=true then 3 else 0):=by intro ok;unfold AG.Nd.dm;rw[if_neg (show¬(dD x d.du la lo rs tr).down=true by rw[dA];simp),if_neg (fun i=>by rw[a.2 i]at m;exact absurd m (by simp)),if_neg (show¬(dD x d.du la lo rs tr).ph≠0 from fun i=>i c3)];rfl
  obtain⟨K,L,H⟩:=u6 (x:=fU x d set) p (by omega:t<=1000000) g;have W:Rg (fU x d set) [] rs t∨True:=.inr trivial;have s:Jr fs d (fU x d set).nodes t false tr:=by rw[f]at y;exact y
  rcases D with⟨rfl,u⟩|⟨l,B,rfl,E,u⟩;·refine⟨_,false,by rw[o,j];rfl,?_⟩;rw[o,j];refine⟨dW.nil _ _,eJ.nil _,?_⟩;obtain⟨M,V,O,X,Q⟩:=eL.fall (x:={fU x d set with an:=some 0}) (la:=[]) (lo:=lo) (tr:=tr) u p (by omega) q (AT c hs c.nn.2) hi s K L H;exact⟨M,V,O,X,Q⟩
  ·refine⟨l,true,by rw[o,j];rw[if_neg];exact fun i=>by have:x.down=true:=i;rw[f]at this;exact absurd this (by simp),?_⟩;rw[o,j];refine⟨by show dW w' w.heap.size l (fP ((dD (fU x d set) d.du [] lo rs tr).tell {AG.Ms.nil with k:=1,e:=d.ep,b:=(fU x d set).nb' d} (dD (fU x d set) d.du [] lo rs tr).others));rw[vH (x:=fU x d set) c.id c.nn];exact E,vG (x:=fU x d set) c.id c.nn p (by omega) g,?_⟩;have z:Rg (jG (fU x d set) d B) [(2,d.ep,(fU x d set).nb' d,x.id)] rs (t+1):=vV (x:={fU x d set with an:=some B}) (AT c hs c.nn.2) q g;exact eL.save (x':=jG (fU x d set) d B) u p (by omega) q z hi s K L H f tr
section
variable {w w':World} {P:Pl} {x x':NB} {d:SD} {fs:List FD} {left:Int} {t:Nat} {C C':Nat->Prop} {la lo la' lo':List Ky} {rs rs':List dJ} {tr:AG.Ms} {m:dI}
theorem tL(x:NB)(d:SD)(la lo:List Ky)(rs:List dJ)(tr:AG.Ms)(r:Bool):(dD x d.du la lo rs tr).jv r=jD x d r:=by
 unfold AG.Nd.jv jD tW;show(if x.down=true then 3 else if x.act=false then 5 else if r=false∨d.last=1000000000000 then 1 else if x.ph≠0∨0<x.on then 4 else 0)=_;cases x.down
 ·cases x.act;·simp
  ·cases r;·simp
   ·by_cases b:d.last=1000000000000;·simp[b]
    ·have a:(d.last==1000000000000)=false:=by simpa using b
     by_cases e:x.ph=0;·by_cases f:0<x.on<;>simp[b,a,e,f]
     ·have c:(x.ph != 0)=true:=by simpa using e
      simp[b,a,e,c]
 ·simp
theorem xB(d:SD)(nb:Int)(h:1<=nb/\nb<=4):(List.range nb.toNat).map (fun i:Nat=>d.du.bk i)=hO d nb:=by
 have a:nb=1∨nb=2∨nb=3∨nb=4:=by omega
 rcases a with rfl|rfl|rfl|rfl<;>rfl
theorem AU(d:SD)(nb:Int)(h:1<=nb/\nb<=4):(hO d nb).length=nb.toNat:=by unfold hO;simp;omega
theorem vW{nn:Int}(a:fJ d nn)(nb:Int):∀z∈hO d nb,i_ z:=by
 intro z b;have:=List.mem_of_mem_take b;simp only[List.mem_cons,List.mem_nil_iff,or_false]at this;rcases this with rfl|rfl|rfl|rfl;·exact a.b0
 ·exact a.b1
 ·exact a.b2
 ·exact a.b3
theorem M0:∀s:Fin 32,∀k:Fin 5,fH (s.val:Int) k.val=false->bits .or .i64 (s.val:Int) (2^k.val)=(s.val:Int)+2^k.val/\(s.val:Int)+2^k.val<=31:=by decide +kernel
end
theorem fT.admi(hSO:eW)(hBW:eZ)(hBS:fA){w:World}{P:Pl}{t:Nat}{C:Nat->Prop}{left:Int}{n:AG.Nd}(h:fT w P t C left n)(Q:t+1<=1000000)(k:Nat)(p:(k:Int)<n.nodes):Calls pG 87 #[P0 (Y ⟨P.Nd,0,Z⟩),I T (k:Int)] w fun r w'=>∃l ok,r=.returned (.tuple #[l,I T (n.admi k ok).2.2])/\gF P t C left n.nodes ((n.admi k ok).1,(n.admi k ok).2.1) ok l w w':=by
 obtain⟨x,d,fs,la,lo,rs,W,m,g,a,hi,N,z⟩:=h.ex;generalize n.tr=tr at N z;subst N;have hS:=nZ g m.ne;have he:=pB m (by omega:t<=1000000);have f:(dD x d.du la lo rs tr).adm (k:Int)=!fH d.dh.S k:=by unfold AG.Nd.adm;rw[show((dD x d.du la lo rs tr).d.rc (dD x d.du la lo rs tr).d.ep)=d.dh from nD m.ne];have j:0<=(k:Int)/\(k:Int)<(dD x d.du la lo rs tr).nodes:=⟨Int.natCast_nonneg k,p⟩;rw[decide_eq_true j,Int.toNat_natCast,Bool.true_and]
 have hz:(dD x d.du la lo rs tr).eu.zs=hO d x.nb:=xB d x.nb a.nb;refine(IP hSO hBW hBS P x d fs left t C la lo rs k w W m Q a.nn a.id a.nb g.la hS.2.2 p).mono ?_;rintro r w' (⟨A,rfl,v,hx⟩|⟨A,b,V⟩)
 ·have o:(dD x d.du la lo rs tr).admi k true=(dD x d.du la lo rs tr,[],jD x d (!fH d.dh.S k)):=by unfold AG.Nd.admi;rw[f,tL,if_pos A]
  refine⟨_,true,by rw[o],?_⟩;rw[o];exact⟨dW.nil _ _,eJ.nil _,eL.keep v hx m g a.next hi z⟩
 ·obtain⟨M,c2,c3,c4,c5,c6⟩:=rR A;have u:fH d.dh.S k=false:=by simpa using c3
  have B:(jI x d b).ms={(dD x d.du la lo rs tr).eu with q:=d.last+1}:=by unfold jI dI.ms AG.Nd.eu;dsimp only;rw[show((List.range (dD x d.du la lo rs tr).nb.toNat).map (fun i:Nat=>(dD x d.du la lo rs tr).d.bk i))=hO d x.nb from xB d x.nb a.nb];rfl
  have X:=g.la;have hl:d.last+1<=1000000000000:=by omega
  have c:=AU d x.nb a.nb;have a1:=a.nb;have a2:=a.id;have a0:=a.nn;have K:iH (jI x d b):=⟨qK 0 d.ep (d.last+1) (hO d x.nb).length (by decide) (by omega) (by omega) (by rw[c];omega),vW g x.nb⟩;have O:gZ (jI x d b).k (jI x d b).bl (jI x d b).zs.length:=.inr (.inr (.inr (.inr ⟨rfl,by show 1<=(hO d x.nb).length/\(hO d x.nb).length<=4;rw[c];omega⟩)));have H:(jI x d b).k=6->(jI x d b).e=d.ep/\(jI x d b).e<1000000000000:=fun j=>absurd j (by show¬(9:Int)=6;decide);have s:Jr fs d x.nodes t false tr:=by rw[M]at z;exact z
  have o:∀ok,(dD x d.du la lo rs tr).admi k ok=if ok=true then({(dD x d.du la lo rs tr).save (jI x d b).ms true with ph:=1,jo:=(k:Int),gP:=d.dh.P,gS:=d.dh.S+2 ^ k,ba:=0,rf:=0,fo:=.nil,an:=[]},(dD x d.du la lo rs tr).tell (jI x d b).ms [(k:Int)],0) else((dD x d.du la lo rs tr).fall (jI x d b).ms,[],3):=by intro ok;unfold AG.Nd.admi;rw[f,tL,if_neg (by rw[A];simp),B];rw[show((dD x d.du la lo rs tr).d.rc (dD x d.du la lo rs tr).d.ep)=d.dh from nD m.ne,Int.toNat_natCast];rfl
  have L:=M0 ⟨d.dh.S.toNat,by omega⟩ ⟨k,by have:(k:Int)<x.nodes:=p;omega⟩;simp only[show((d.dh.S.toNat:Nat):Int)=d.dh.S by omega]at L;obtain⟨y,U⟩:=L u;rcases V with⟨rfl,v⟩|⟨l,rfl,F,v⟩;·refine⟨_,false,by rw[o];rfl,?_⟩;rw[o];exact⟨dW.nil _ _,eJ.nil _,eL.fall v m (by omega) g a hi s K O H⟩
  ·refine⟨l,true,by rw[o];rfl,?_⟩;rw[o,if_pos rfl];have E:(k:Int)<x.nodes:=p;refine⟨?_,CU _ _ _ ⟨Int.natCast_nonneg k,p⟩ ⟨qK x.id d.ep (d.last+1) (hO d x.nb).length (by omega) (by omega) (by omega) (by rw[c];omega),vW g x.nb,fun _=>by show 1<=(hO d x.nb).length;rw[c];omega⟩,?_⟩;·show dW w' w.heap.size l (fP ((dD x d.du la lo rs tr).tell (jI x d b).ms [(k:Int)]));rw[BP x a.nn (dD x d.du la lo rs tr) rfl (jI x d b).ms k E];exact F
   ·have D:Rg (l8 x d k) [] rs (t+1):=by
     have ho:=a.ops;have hr:=a.rs;refine⟨a.nn,a.id,a.nb,by show(0:Int)<=1/\(1:Int)<=3;decide,fun _ j=>absurd j (by show¬((0:Int)<0∨(3:Int)<=1);decide),⟨hS.2.1,?_⟩,⟨Int.natCast_nonneg k,p⟩,by show(0:Int)<=0/\(0:Int)<=_;decide,by show(0:Int)<=0/\(0:Int)<=_;decide,by show((0:Int)<=0/\(0:Int)<=_)/\((0:Int)<=0/\(0:Int)<=_)/\((0:Int)<=0/\(0:Int)<=_);decide,a.on,by show 0<=x.ops/\x.ops<=((t+1:Nat):Int);omega,by omega,by simp⟩;show 0<=bits .or .i64 d.dh.S (2^k)/\bits .or .i64 d.dh.S (2^k)<=31;rw[y];have:(0:Int)<=2^k:=by exact Int.le_of_lt (Int.pow_pos (by decide))
     omega
    have j:=eL.save (x':=l8 x d k) v m (by omega) g D hi s K O H M tr;have R:dD (l8 x d k) (d.du.step (jI x d b).ms) [] lo rs tr={(dD x d.du la lo rs tr).save (jI x d b).ms true with ph:=1,jo:=(k:Int),gP:=d.dh.P,gS:=d.dh.S+2 ^ k,ba:=0,rf:=0,fo:=.nil,an:=[]}:=by unfold dD AG.Nd.save;dsimp only[l8];rw[y];rfl
    rw[R]at j;exact j
theorem u7{d:SD}{fs:List FD}{left:Int}{t:Nat}{m:dI}{P:Pl}{x:NB}{C:Nat->Prop}{la lo:List Ky}{rs:List dJ}{w w':World}(h:FX (oJ true d fs left t m) P x C la lo rs w w'):eI P x d fs left t C la lo rs m true w w':=by
 obtain⟨d',fs',left',L',C',b,a,c⟩:=h;rcases b with⟨e,_⟩|⟨_,f,g,rfl,rfl⟩;·exact absurd e (by simp)
 ·exact⟨fs',left',f,C',g,a,c⟩
section
variable {w w':World} {P:Pl} {x x':NB} {d:SD} {fs:List FD} {left:Int} {t:Nat} {C C':Nat->Prop} {la lo la' lo':List Ky} {rs rs':List dJ} {tr:AG.Ms} {m:dI}
theorem BY{bl v:Int}{r:Ending}(n:BG t d)(o:fJ d x.nodes)(a:Rg x la rs t)(hi:d.id=x.id)(M:Jr fs d x.nodes t x.down tr)(ht:t+1<=1000000)(Q:i_ v)(X:xH P x d fs left t C la lo rs bl v r w w'):∃l ok,r=.returned (.tuple #[I T (bif ((dD x d.du la lo rs tr).operate bl v ok).2.2==0 then x.ops+1 else 0),l,I T ((dD x d.du la lo rs tr).operate bl v ok).2.2])/\gF P t C left x.nodes (((dD x d.du la lo rs tr).operate bl v ok).1,((dD x d.du la lo rs tr).operate bl v ok).2.1) ok l w w':=by
 have hS:=nZ o n.ne;have he:=pB n (by omega:t<=1000000);have s:(dD x d.du la lo rs tr).blk bl=kT x bl:=rfl;rcases X with⟨u,rfl,b,hx⟩|⟨u,hc⟩
 ·have j:(dD x d.du la lo rs tr).operate bl v true=(dD x d.du la lo rs tr,[],jD x d (kT x bl)):=by unfold AG.Nd.operate;rw[s,tL,if_pos u]
  have D:(jD x d (kT x bl)==0)=false:=by simpa using u
  refine⟨J Z 0 0,true,by rw[j];simp[D],?_⟩;rw[j];exact⟨dW.nil _ _,eJ.nil _,eL.keep b hx n o a.next hi M⟩
 ·obtain⟨F,c2,c3,c4,c5,c6⟩:=rR u;have U:0<=bl/\bl<x.nb:=by unfold kT at c3;simpa using c3
  have a2:=a.nb;have a0:=o.la;have hl:d.last+1<=1000000000000:=by omega
  have a3:=a.id;have a1:=a.nn;have A:iH (fG d bl v):=⟨t6 0 d.ep (d.last+1) bl v (by decide) (by omega) (by omega) (by omega) Q,by intro z H;exact absurd H (by simp[fG])⟩;have O:gZ (fG d bl v).k (fG d bl v).bl (fG d bl v).zs.length:=.inr (.inr (.inr (.inl ⟨rfl,by show 0<=bl/\bl<=3;omega⟩)));have y:(fG d bl v).k=6->(fG d bl v).e=d.ep/\(fG d bl v).e<1000000000000:=fun c=>absurd c (by show¬(7:Int)=6;decide);have i:Jr fs d x.nodes t false tr:=by rw[F]at M;exact M
  have V:(fG d bl v).ms={AG.Ms.nil with k:=7,e:=d.ep,q:=d.last+1,bl:=bl,v:=v}:=rfl;have L:Rl {(fG d bl v).ms with f:=x.id}:=⟨t6 x.id d.ep (d.last+1) bl v (by omega) (by omega) (by omega) (by omega) Q,by intro z H;exact absurd H (by simp[fG,dI.ms]),fun c=>absurd c (by show¬(7:Int)=9;decide)⟩;have j:∀ok,(dD x d.du la lo rs tr).operate bl v ok=if ok=true then((dD (gR x d bl v 0) (d.du.step (fG d bl v).ms) la [] rs tr).finish,(dD (gR x d bl v 0) (d.du.step (fG d bl v).ms) la [] rs tr).tell (fG d bl v).ms (dD (gR x d bl v 0) (d.du.step (fG d bl v).ms) la [] rs tr).missing,0) else((dD x d.du la lo rs tr).fall (fG d bl v).ms,[],3):=by intro ok;unfold AG.Nd.operate;rw[s,tL,if_neg (by rw[u];simp)];rfl
  have h:((dD (gR x d bl v 0) (d.du.step (fG d bl v).ms) la [] rs tr).d.rc (dD (gR x d bl v 0) (d.du.step (fG d bl v).ms) la [] rs tr).d.ep).S=d.dh.S:=by have h7:=AG.step79 d.du (m:=(fG d bl v).ms) (.inl rfl);show((d.du.step (fG d bl v).ms).rc (d.du.step (fG d bl v).ms).ep).S=_;unfold AG.Du.rc AG.Du.ep;rw[h7.1];exact congrArg eE.S (nD n.ne)
  rcases hc with⟨rfl,b⟩|⟨l,B,rfl,N,b⟩;·refine⟨_,false,by rw[j];rfl,?_⟩;rw[j];exact⟨dW.nil _ _,eJ.nil _,eL.fall b n (by omega) o a hi i A O y⟩
  ·refine⟨l,true,by rw[j];rfl,?_⟩;rw[j,if_pos rfl];have ho:=a.ops;have hr:=a.rs;have W:=a.la;refine⟨?_,vQ (dD (gR x d bl v 0) (d.du.step (fG d bl v).ms) la [] rs tr) (fG d bl v).ms L,?_⟩;·show dW w' w.heap.size l (fP ((dD (gR x d bl v 0) (d.du.step (fG d bl v).ms) la [] rs tr).tell (fG d bl v).ms (dD (gR x d bl v 0) (d.du.step (fG d bl v).ms) la [] rs tr).missing));rw[vF (gR x d bl v 0) (dD (gR x d bl v 0) (d.du.step (fG d bl v).ms) la [] rs tr) rfl rfl d.dh.S h (fG d bl v).ms];exact N
   ·have p:Rg (gR x d bl v B) la rs (t+1):=⟨a.nn,a.id,a.nb,a.ph,a.an,a.g,a.jo,a.ba,a.rf,a.fo,fun _=>⟨⟨B,rfl⟩,rfl,t6 x.id d.ep (d.last+1) bl v (by omega) (by omega) (by omega) (by omega) Q⟩,by show 0<=x.ops+1/\x.ops+1<=((t+1:Nat):Int);omega,by omega,by omega⟩;rcases b with⟨K,b⟩|⟨K,vv,b⟩
    ·have c:=eL.save (x':=gR x d bl v B) (u7 b) n (by omega) o p hi i A O y F tr;have E:(dD (gR x d bl v 0) (d.du.step (fG d bl v).ms) la [] rs tr).finish=dD (gR x d bl v B) (d.du.step (fG d bl v).ms) la [] rs tr:=by
      unfold AG.Nd.finish;rw[h,if_neg];·rfl
      ·exact K
     rw[E];exact c
    ·have R:Rg (kL (gR x d bl v B) vv) la (rs++[nO (gR x d bl v B)]) (t+1):=⟨a.nn,a.id,a.nb,a.ph,a.an,a.g,a.jo,a.ba,a.rf,a.fo,fun c=>absurd c (by show¬(0:Int)<0;decide),by show 0<=x.ops+1/\x.ops+1<=((t+1:Nat):Int);omega,by simp;omega,by omega⟩;have c:=eL.save (x':=kL (gR x d bl v B) vv) (u7 b) n (by omega) o R hi i A O y F tr;have E:(dD (gR x d bl v 0) (d.du.step (fG d bl v).ms) la [] rs tr).finish=dD (kL (gR x d bl v B) vv) (d.du.step (fG d bl v).ms) la [] (rs++[nO (gR x d bl v B)]) tr:=by
      unfold AG.Nd.finish;rw[h,if_pos];·rfl
      ·exact K
     rw[E];exact c
end
theorem fT.write(hSO:eW)(hBW:eZ)(hBS:fA){w:World}{P:Pl}{t:Nat}{C:Nat->Prop}{left:Int}{n:AG.Nd}(h:fT w P t C left n)(e:t+1<=1000000)(bl v:Int)(i:i_ v):Calls pG 142 #[P0 (Y ⟨P.Nd,0,Z⟩),I T bl,I T v] w fun r w'=>∃l ok,r=.returned (.tuple #[I T (bif (n.operate bl v ok).2.2==0 then n.ops+1 else 0),l,I T (n.operate bl v ok).2.2])/\gF P t C left n.nodes ((n.operate bl v ok).1,(n.operate bl v ok).2.1) ok l w w':=by obtain⟨x,d,fs,la,lo,rs,k,c,b,a,hi,g,f⟩:=h.ex;generalize n.tr=tr at g f;subst g;have hS:=nZ b c.ne;have m:=a.ops;have o:=a.rs;refine(IJ hSO hBW hBS P x d fs left t C la lo rs bl v i w k c e a.nn a.id a.nb b.la hS.2.2 (by omega) (by omega)).mono ?_;intro r w' j;exact BY c b a hi f e i j
theorem DG{d:SD}{n:Int}(h:fJ d n)(i:Int):-9223372036854775808<=d.bk i/\d.bk i<=9223372036854775807:=by
 unfold SD.bk;split;·exact h.b0
 split;·exact h.b1
 split;·exact h.b2
 split;·exact h.b3
 ·decide
theorem fT.read(hSO:eW)(hBW:eZ)(hBS:fA){w:World}{P:Pl}{t:Nat}{C:Nat->Prop}{left:Int}{n:AG.Nd}(h:fT w P t C left n)(e:t+1<=1000000)(bl:Int):Calls pG 141 #[P0 (Y ⟨P.Nd,0,Z⟩),I T bl] w fun r w'=>∃l ok,r=.returned (.tuple #[I T (bif (n.operate bl (n.d.bk bl) ok).2.2==0 then n.ops+1 else 0),l,I T (n.operate bl (n.d.bk bl) ok).2.2])/\gF P t C left n.nodes ((n.operate bl (n.d.bk bl) ok).1,(n.operate bl (n.d.bk bl) ok).2.1) ok l w w':=by obtain⟨x,d,fs,la,lo,rs,k,c,b,a,hi,g,f⟩:=h.ex;generalize n.tr=tr at g f;subst g;have hS:=nZ b c.ne;have m:=a.ops;have o:=a.rs;refine(J3 hSO hBW hBS P x d fs left t C la lo rs bl (fun i _ _=>DG b i) w k c e a.nn a.id a.nb b.la hS.2.2 (by omega) (by omega)).mono ?_;intro r w' j;exact BY c b a hi f e (DG b bl) j
theorem fT.iq(hSO:eW)(hBW:eZ)(hBS:fA){w:World}{P:Pl}{t:Nat}{C:Nat->Prop}{left:Int}{n:AG.Nd}(h:fT w P t C left n)(ht:t+1<=1000000):Calls pG 85 #[P0 (Y ⟨P.Nd,0,Z⟩)] w fun r w'=>∃l ok,r=.returned l/\gF P t C left n.nodes (n.iq ok) ok l w w':=by
 obtain⟨x,d,fs,la,lo,rs,hF,g,j,c,hi,hn,U⟩:=h.ex;generalize n.tr=tr at hn U;subst hn;have hS:=nZ j g.ne;have hg:=j.at d.ep;have he:=pB g (by omega:t<=1000000);have a1:=c.id;have a3:=c.nn;have a0:=j.la;have a4:=c.nb;have Q:=AU d x.nb c.nb;have a2:=c.jo;obtain⟨B0,X⟩:∃B,0<x.on->x.oa=some B:=by
  by_cases a:0<x.on;·obtain⟨B,g⟩:=(c.on a).1;exact⟨B,fun _=>g⟩
  ·exact⟨0,fun N=>absurd N a⟩
 have u:0<x.on->Rl {x.ow.ms with f:=x.id}:=by intro a;obtain⟨_,h7,N⟩:=c.on a;refine⟨?_,by intro z M;exact absurd M (by simp[iC.ms]),fun h6=>absurd h6 (by show¬x.ow.k=9;omega)⟩;show fD x.ow.k x.id [0,x.ow.e,x.ow.b,x.ow.wa,x.ow.p,x.ow.s,x.ow.q,x.ow.bl,x.ow.v,0]=true;rw[h7];exact N
 refine(IK hSO hBW hBS P x d fs left t C la lo rs B0 w hF g ht c.nn c.id hg.1 c.rf c.nb (by omega) j.la c.ph.1 hS.2.2 X (fun a=>by have N:=c.on a;rw[N.2.1];exact N.2.2)).mono ?_;rintro r w' (⟨o,rfl,F,hx⟩|⟨o,A,l,rfl,H,F,hx⟩|⟨o,A,rfl,F⟩|⟨o,A,l,B,rfl,H,F⟩)
 ·have O:(dD x d.du la lo rs tr).iq true=(dD x d.du la lo rs tr,[]):=by unfold AG.Nd.iq;rw[if_pos (show(dD x d.du la lo rs tr).down=true from o)]
  refine⟨_,true,rfl,?_⟩;rw[O];exact⟨dW.nil _ _,eJ.nil _,eL.keep F hx g j c.next hi U⟩
 ·have y:fP (if 0<x.on then(dD x d.du la lo rs tr).tell x.ow.ms (dD x d.du la lo rs tr).missing else[])=nQ x d lo:=by
   unfold nQ;by_cases a:0<x.on;·rw[if_pos a,decide_eq_true a,cond_true];exact vF x (dD x d.du la lo rs tr) rfl rfl d.dh.S (congrArg eE.S (nD g.ne)) x.ow.ms
   ·rw[if_neg a,decide_eq_false a,cond_false];rfl
  have D:eJ x.nodes (if 0<x.on then(dD x d.du la lo rs tr).tell x.ow.ms (dD x d.du la lo rs tr).missing else[]):=by
   by_cases a:0<x.on;·rw[if_pos a];exact vQ (dD x d.du la lo rs tr) x.ow.ms (u a)
   ·rw[if_neg a];exact eJ.nil _
  have K:∃out,(dD x d.du la lo rs tr).iw true=(dD x d.du la lo rs tr,out)/\fP out=qQ x d/\eJ x.nodes out:=by
   unfold AG.Nd.iw qQ;show ∃out,(if x.ph=0 then _ else if x.ph=1 then _ else _)=_/\_/\_;by_cases L:x.ph=0;·rw[if_pos L,if_pos L];exact⟨_,rfl,sP x c.nn c.id (dD x d.du la lo rs tr) rfl rfl _,sV (dD x d.du la lo rs tr) _ ⟨qJ x.id d.ep 0 (by omega) (by omega) (by omega),by intro z M;exact absurd M (by simp[AG.Ms.nil]),by intro a;exact absurd a (by show¬(1:Int)=9;decide)⟩⟩
   ·rw[if_neg L,if_neg L];by_cases E:x.ph=1
    ·rw[if_pos E,if_pos E];have M:(dD x d.du la lo rs tr).eu=⟨9,0,d.ep,0,0,0,0,d.last,0,0,hO d x.nb⟩:=by unfold AG.Nd.eu;rw[show((List.range (dD x d.du la lo rs tr).nb.toNat).map (fun i:Nat=>(dD x d.du la lo rs tr).d.bk i))=hO d x.nb from xB d x.nb c.nb];rfl
     refine⟨_,rfl,?_,?_⟩;·rw[M];have:=BP x c.nn (dD x d.du la lo rs tr) rfl ⟨9,0,d.ep,0,0,0,0,d.last,0,0,hO d x.nb⟩ x.jo.toNat (by omega);rw[show((x.jo.toNat:Nat):Int)=x.jo by omega]at this;exact this
     ·rw[M];exact CU (dD x d.du la lo rs tr) _ _ c.jo ⟨qK x.id d.ep d.last (hO d x.nb).length (by omega) (by omega) j.la (by rw[Q];omega),vW j x.nb,fun _=>by show 1<=(hO d x.nb).length;rw[Q];omega⟩
    ·rw[if_neg E,if_neg E];have p2:1000000000000<x.nb' d:=by rcases A with a|a|a;exact absurd a L;exact absurd a E;exact a
     refine⟨[],?_,rfl,eJ.nil _⟩;unfold AG.Nd.prepare;dsimp only;rw[if_pos (show 1000000000000<(dD x d.du la lo rs tr).dw (dD x d.du la lo rs tr).rf from p2)]
  obtain⟨out,o1,o2,o3⟩:=K;have O:(dD x d.du la lo rs tr).iq true=(dD x d.du la lo rs tr,out++if 0<x.on then(dD x d.du la lo rs tr).tell x.ow.ms (dD x d.du la lo rs tr).missing else[]):=by unfold AG.Nd.iq;rw[if_neg (show¬(dD x d.du la lo rs tr).down=true by show¬x.down=true;simp[o]),o1];rfl
  refine⟨l,true,rfl,?_⟩;rw[O];exact⟨by show dW w' w.heap.size l (fP (_++_));rw[AL,o2,y];exact H,o3.app D,eL.keep F hx g j c.next hi U⟩
 all_goals
  have L:¬x.ph=0:=by have:=A.1;omega
  have E:¬x.ph=1:=by have:=A.1;omega
  have m:=BX c j A.2
  have V:=fun ok=>uX (x:=x) (d:=d) (la:=la) (lo:=lo) (rs:=rs) (tr:=tr) hg.1.1 c.rf.1 c.id.1 o A.2 ok
  have K:∀ok,(dD x d.du la lo rs tr).iw ok=(dD x d.du la lo rs tr).prepare ok:=by
   intro ok
   unfold AG.Nd.iw
   rw[if_neg (show¬(dD x d.du la lo rs tr).ph=0 from L),if_neg (show¬(dD x d.du la lo rs tr).ph=1 from E)]
  have O:∀ok,(dD x d.du la lo rs tr).iq ok=(((dD x d.du la lo rs tr).prepare ok).1,((dD x d.du la lo rs tr).prepare ok).2++if 0<((dD x d.du la lo rs tr).prepare ok).1.on then((dD x d.du la lo rs tr).prepare ok).1.tell ((dD x d.du la lo rs tr).prepare ok).1.ow ((dD x d.du la lo rs tr).prepare ok).1.missing else[]):=by
   intro ok
   unfold AG.Nd.iq
   rw[if_neg (show¬(dD x d.du la lo rs tr).down=true by show¬x.down=true;simp[o]),K]
  obtain⟨r1,r2,r3⟩:=u6 (x:=x) g (by omega:t<=1000000) m
  have R:Jr fs d x.nodes t false tr:=by rw[o]at U;exact U
 ·refine⟨_,false,rfl,?_⟩;rw[O,V];exact⟨dW.nil _ _,eJ.nil _,eL.fall F g (by omega) j c hi R r1 r2 r3⟩
 ·refine⟨l,true,rfl,?_⟩;rw[O,V];dsimp only[cond_true];have W:((d.du.step (fO x d).ms).rc (d.du.step (fO x d).ms).ep).S=d.dh.S:=by have h7:(d.du.step (fO x d).ms).recs=d.recs:=rfl;unfold AG.Du.rc AG.Du.ep;rw[h7];exact congrArg eE.S (nD g.ne)
  have y:fP (if 0<x.on then(dD (jG x d B) (d.du.step (fO x d).ms) [(2,d.ep,x.nb' d,x.id)] lo rs tr).tell x.ow.ms (dD (jG x d B) (d.du.step (fO x d).ms) [(2,d.ep,x.nb' d,x.id)] lo rs tr).missing else[])=nQ x d lo:=by
   unfold nQ;by_cases a:0<x.on;·rw[if_pos a,decide_eq_true a,cond_true];exact vF (jG x d B) (dD (jG x d B) (d.du.step (fO x d).ms) [(2,d.ep,x.nb' d,x.id)] lo rs tr) rfl rfl d.dh.S W x.ow.ms
   ·rw[if_neg a,decide_eq_false a,cond_false];rfl
  have D:eJ x.nodes (if 0<x.on then(dD (jG x d B) (d.du.step (fO x d).ms) [(2,d.ep,x.nb' d,x.id)] lo rs tr).tell x.ow.ms (dD (jG x d B) (d.du.step (fO x d).ms) [(2,d.ep,x.nb' d,x.id)] lo rs tr).missing else[]):=by
   by_cases a:0<x.on;·rw[if_pos a];exact vQ (dD (jG x d B) (d.du.step (fO x d).ms) [(2,d.ep,x.nb' d,x.id)] lo rs tr) x.ow.ms (u a)
   ·rw[if_neg a];exact eJ.nil _
  refine⟨?_,?_,?_⟩;·show dW w' w.heap.size l (fP (_++(if 0<x.on then(dD (jG x d B) (d.du.step (fO x d).ms) [(2,d.ep,x.nb' d,x.id)] lo rs tr).tell x.ow.ms (dD (jG x d B) (d.du.step (fO x d).ms) [(2,d.ep,x.nb' d,x.id)] lo rs tr).missing else[])));rw[AL,y,vH c.id c.nn];exact H
  ·exact eJ.app (vG c.id c.nn g (by omega) m) D
  ·exact eL.save (x':=jG x d B) F g (by omega) j (vV c j m) hi R r1 r2 r3 o tr
theorem fT.same{w w':World}{P:Pl}{t:Nat}{C:Nat->Prop}{left:Int}{n:AG.Nd}(h:fT w P t C left n)(hs:w.heap.size<=w'.heap.size)(c:∀g,C g->w'.heap[g]?=w.heap[g]?)(b:dU w'):fT w' P t C left n:=by obtain⟨x,d,fs,la,lo,rs,e,a⟩:=h.ex;exact⟨x,d,fs,la,lo,rs,e.same hs c b,a⟩
theorem fT.tabs{w:World}{P:Pl}{t:Nat}{C:Nat->Prop}{left:Int}{n:AG.Nd}(h:fT w P t C left n):dU w:=by obtain⟨x,d,fs,la,lo,rs,a,b⟩:=h.ex;exact a.tabs
theorem fT.lt{w:World}{P:Pl}{t:Nat}{C:Nat->Prop}{left:Int}{n:AG.Nd}(h:fT w P t C left n):∀g,C g->2<=g/\g<w.heap.size:=by obtain⟨x,d,fs,la,lo,rs,a,b⟩:=h.ex;exact a.lt
theorem fT.later{w w':World}{P:Pl}{t:Nat}{C:Nat->Prop}{left:Int}{n:AG.Nd}(h:fT w P t C left n)(a:Below w.heap.size w w'):fT w' P t C left n:=h.same a.size (fun g b=>a.block g (h.lt g b).2) (h.tabs.below a h.tabs.two)
theorem eL.later{w w1 w2:World}{P:Pl}{t:Nat}{C:Nat->Prop}{left:Int}{n:AG.Nd}{ok:Bool}(h:eL P t C left n ok w w1)(a:Below w1.heap.size w1 w2):eL P t C left n ok w w2:=by obtain⟨C',c,d,b,e⟩:=h;exact⟨C',c,d.later a,b.later a,e⟩
theorem eL.pre{w w1 w2:World}{P:Pl}{t:Nat}{C:Nat->Prop}{left:Int}{n:AG.Nd}{ok:Bool}(h:eL P t C left n ok w1 w2)(d:Below w.heap.size w w1):eL P t C left n ok w w2:=by obtain⟨C',b,c,a,e⟩:=h;exact⟨C',b,c,a.pre d,e⟩
theorem gF.pre{w w1 w2:World}{P:Pl}{t:Nat}{C:Nat->Prop}{left:Int}{n:Int}{f:AG.Nd×List (Int×AG.Ms)}{ok:Bool}{l:Value}(h:gF P t C left n f ok l w1 w2)(a:Below w.heap.size w w1):gF P t C left n f ok l w w2:=⟨h.1.mono a.size,h.2.1,h.2.2.pre a⟩
theorem gF.later{w w1 w2:World}{P:Pl}{t:Nat}{C:Nat->Prop}{left:Int}{n:Int}{f:AG.Nd×List (Int×AG.Ms)}{ok:Bool}{l:Value}(h:gF P t C left n f ok l w w1)(a:Below w1.heap.size w1 w2):gF P t C left n f ok l w w2:=⟨h.1.later a,h.2.1,h.2.2.later a⟩
section
variable {w w':World} {P:Pl} {x x':NB} {d:SD} {fs:List FD} {left:Int} {t:Nat} {C C':Nat->Prop} {la lo la' lo':List Ky} {rs rs':List dJ} {tr:AG.Ms}
theorem zO(m:AG.Ms)(g:m.k=1∨m.k=3)(ok:Bool):(dD x d.du la lo rs tr).jc m ok=bif iT d m.k m.e m.b m.p m.s then(bif ok then((dD x d.du la lo rs tr).save m true,(eH d m.k m.e m.b).ms) else((dD x d.du la lo rs tr).fall m,.nil)) else(dD x d.du la lo rs tr,(eH d m.k m.e m.b).ms):=by
 unfold AG.Nd.jc iT eH;show(if m.e<d.ep then _ else if m.b<(dG d.di m.e).pr then _ else _)=_;by_cases c:m.e<d.ep;·rw[if_pos c,if_pos c,decide_eq_true c];rfl
 ·rw[if_neg c,if_neg c,decide_eq_false c];by_cases a:m.b<(dG d.di m.e).pr;·rw[if_pos a,if_pos a,decide_eq_true a];rfl
  ·rw[if_neg a,if_neg a,decide_eq_false a];dsimp only;show(if((dG d.di m.e).after m.k m.b m.p m.s).qj (dG d.di m.e)=true then _ else _)=_;have f:(if m.k=3 then({AG.Ms.nil with k:=4,e:=m.e,b:=m.b}:AG.Ms) else{AG.Ms.nil with k:=2,e:=m.e,b:=m.b,wa:=(dG d.di m.e).ac,p:=(dG d.di m.e).pm,s:=(dG d.di m.e).st})=(if m.k=3 then(⟨4,0,m.e,m.b,0,0,0,0,0,0⟩:iC) else⟨2,0,m.e,m.b,(dG d.di m.e).ac,(dG d.di m.e).pm,(dG d.di m.e).st,0,0,0⟩).ms:=by split<;>rfl
   cases h3:((dG d.di m.e).after m.k m.b m.p m.s).qj (dG d.di m.e)
   ·rw[if_neg (by simp)];cases ok;·rfl
    ·rw[if_pos rfl];exact congrArg (Prod.mk _) f
   ·rw[if_pos rfl];exact congrArg (Prod.mk _) f
theorem IQ{i nn:Int}(hi:0<=i/\i<5)(h:fJ d nn)(m:BG t d)(n:t<=1000000){k e b:Int}(l:k=1∨k=3)(a:e_ e)(f:e_ b):fD (eH d k e b).k i [0,(eH d k e b).e,(eH d k e b).b,(eH d k e b).wa,(eH d k e b).p,(eH d k e b).s,(eH d k e b).q,(eH d k e b).bl,(eH d k e b).v,0]=true:=by
 have c:=h.at e;unfold eH;split
 ·next h1=>
  have g:=h.re (e+1).toNat (by unfold SD.ep at h1;omega);have j:d.qi (e+1)=d.recs[(e+1).toNat]'(by unfold SD.ep at h1;omega):=by unfold SD.qi;rw[List.getD_eq_getElem?_getD,List.getElem?_eq_getElem (by unfold SD.ep at h1;omega)];rfl
  rw[j];exact qI i e _ _ hi a g.2.1 g.2.2
 split;·exact O8 i e b _ hi a f c.1
 split;·exact O9 i e b hi a f
 ·exact PA i e b _ _ _ hi a f c.2.1 c.2.2.1 c.2.2.2
theorem oU{W1:World}{X:Nat}{cs:Array Value}{n':AG.Nd}{id nodes:Int}{ok:Bool}{a:iC}{ms:Value}{K F E B O R N Q H V:Int}(h:eL P t C left n' ok w W1)(e1:n'.id=id)(e2:n'.nodes=nodes)(hn:nodes<=5)(M:0<=F/\F<nodes)(i:a.k=0∨fD a.k id [0,a.e,a.b,a.wa,a.p,a.s,a.q,a.bl,a.v,0]=true)(A:a.k≠9)(U:dC W1 X cs 136):Calls pG 195 #[P0 (Y ⟨P.Nd,0,Z⟩),.agg #[I T K,I T F,I T E,I T B,I T O,I T R,I T N,I T Q,I T H,I T V,ms],a.ag] W1 fun r2 W2=>∃l,r2=.returned l/\dC W2 X cs 136/\gF P t C left nodes (n',if a.ms.k=0 then[] else[(F,{a.ms with f:=id})]) ok l w W2:=by
 obtain⟨S,l2,L,D,h3⟩:=h;obtain⟨x,d,fs,la,lo,rs,c,hB,hD,hR,hi,j,hJ⟩:=L.ex;have c0:=c.blk.cell 0;have c1:=c.blk.cell 1;have e3:x.id=id:=by rw[←e1,j];rfl
 have e4:x.nodes=nodes:=by rw[←e2,j];rfl
 have n:W1.cell? ⟨P.Nd,0,Z⟩=Y (I T id):=by rw[←e3];exact c0
 have o:W1.cell? ⟨P.Nd,1,Z⟩=Y (I T nodes):=by rw[←e4];exact c1
 refine(IG P.Nd id nodes K F E B O R N Q H V ms a W1 n o c.blk.lt c.tabs hn M i).mono ?_;rintro r W2 ⟨l,rfl,hp,u⟩;refine⟨l,rfl,U.later u,?_,?_,⟨S,l2,L.later u,D.later u,h3⟩⟩
 ·have y:=hp.mono D.kept.size;have W:fP (if a.ms.k=0 then[] else[(F,{a.ms with f:=id})])=pN a id F:=by
   unfold pN;by_cases g:a.k=0;·rw[if_pos (show a.ms.k=0 from g),g];rfl
   ·rw[if_neg (show¬a.ms.k=0 from g),show(a.k==0)=false by simpa using g];rfl
  show dW W2 w.heap.size l (fP (if a.ms.k=0 then[] else[(F,{a.ms with f:=id})]));rw[W];exact y
 ·show eJ nodes (if a.ms.k=0 then[] else[(F,{a.ms with f:=id})]);by_cases g:a.k=0;·rw[if_pos (show a.ms.k=0 from g)];exact eJ.nil _
  ·rw[if_neg (show¬a.ms.k=0 from g)];intro z m;simp only[List.mem_singleton]at m;subst m;rcases i with i|i;·exact absurd i g
   ·refine⟨M,i,by intro z m;exact absurd m (by simp[iC.ms]),fun y=>absurd y A⟩
theorem BZ(d:SD)(k e b:Int):(eH d k e b).k≠9:=by
 unfold eH;split;·show(6:Int)≠9;decide
 split;·show(5:Int)≠9;decide
 split;·show(4:Int)≠9;decide
 ·show(2:Int)≠9;decide
theorem vX{n:AG.Nd}{m:AG.Ms}(b:n.down=false)(d:m.f≠n.id)(e:m.f<n.nodes)(ok:Bool):(m.k=1∨m.k=3->n.receive m ok=n.rep m.f (n.jc m ok))/\(m.k=2->n.receive m ok=n.promised m ok)/\(m.k=4->n.receive m ok=n.accepted m ok)/\(m.k=5->n.receive m ok=(n.refused m,[]))/\(m.k=6->n.receive m ok=((n.decided m ok).1,[]))/\(m.k=7∨m.k=9->n.receive m ok=n.rep m.f (n.update m ok))/\(m.k=8->n.receive m ok=(n.wrote m,[]))/\(m.k=10->n.receive m ok=n.copied m ok):=by
 have c:¬(n.down=true∨m.f=n.id∨n.nodes<=m.f):=by rw[b];simp only[Bool.false_eq_true,false_or];omega
 unfold AG.Nd.receive;rw[if_neg c];refine⟨fun a=>?_,fun a=>?_,fun a=>?_,fun a=>?_,fun a=>?_,fun a=>?_,fun a=>?_,fun a=>?_⟩;·rw[if_pos a]
 ·rw[if_neg (by omega),if_pos a]
 ·rw[if_neg (by omega),if_neg (by omega),if_pos a]
 ·rw[if_neg (by omega),if_neg (by omega),if_neg (by omega),if_pos a]
 ·rw[if_neg (by omega),if_neg (by omega),if_neg (by omega),if_neg (by omega),if_pos a]
 ·rw[if_neg (by omega),if_neg (by omega),if_neg (by omega),if_neg (by omega),if_neg (by omega),if_pos a]
 ·rw[if_neg (by omega),if_neg (by omega),if_neg (by omega),if_neg (by omega),if_neg (by omega),if_neg (by omega),if_pos a]
 ·rw[if_neg (by omega),if_neg (by omega),if_neg (by omega),if_neg (by omega),if_neg (by omega),if_neg (by omega),if_neg (by omega),if_pos a]
theorem B1(hSO:eW)(hBW:eZ)(hBS:fA)(Q:dM w P x d fs left (dX t) C la lo rs)(V:BG t d)(hD:fJ d x.nodes)(U:Rg x la rs t)(hi:d.id=x.id)(hJ:Jr fs d x.nodes t false tr)(ht:t+1<=1000000)(y:x.down=false)(m:AG.Ms)(hm:Rl m)(h:m.k=1∨m.k=3)(hf:0<=m.f/\m.f<x.nodes)(a7:m.f≠x.id){W:World}{X:Nat}{a:Option Addr}{c:Nat}(O:Below w.heap.size w W)(a6:w.heap.size<=X)(hX:dC W X #[I T m.k,I T m.f,I T m.e,I T m.b,I T m.wa,I T m.p,I T m.s,I T m.q,I T m.bl,I T m.v,J a m.zs.length c] 136)(ho:fL W w.heap.size (J a m.zs.length c) m.zs):Calls pG 196 #[P0 (Y ⟨P.Nd,0,Z⟩),.agg #[I T m.k,I T m.f,I T m.e,I T m.b,I T m.wa,I T m.p,I T m.s,I T m.q,I T m.bl,I T m.v,J a m.zs.length c]] W fun r W1=>∃m2:iC,r=.returned m2.ag/\dC W1 X #[I T m.k,I T m.f,I T m.e,I T m.b,I T m.wa,I T m.p,I T m.s,I T m.q,I T m.bl,I T m.v,J a m.zs.length c] 136/\Calls pG 195 #[P0 (Y ⟨P.Nd,0,Z⟩),.agg #[I T m.k,I T m.f,I T m.e,I T m.b,I T m.wa,I T m.p,I T m.s,I T m.q,I T m.bl,I T m.v,J a m.zs.length c],m2.ag] W1 fun K W2=>∃l,K=.returned l/\dC W2 X #[I T m.k,I T m.f,I T m.e,I T m.b,I T m.wa,I T m.p,I T m.s,I T m.q,I T m.bl,I T m.v,J a m.zs.length c] 136/\∃ok,gF P t C left x.nodes ((dD x d.du la lo rs tr).receive m ok) ok l w W2:=by
 obtain⟨A,hA,g,u⟩:=Q.nod;obtain⟨a3,a4⟩:=tA ho;obtain⟨_,_,S⟩:=oC hm.1;have D:(e_ m.e)/\(e_ m.b):=by
  rcases h with h|h<;>rw[h]at S;·exact⟨((mJ _ _ _ _ _ _ _ _ _).1 S).1,((mJ _ _ _ _ _ _ _ _ _).1 S).2.1⟩
  ·exact⟨((mK _ _ _ _ _ _ _ _ _).1 S).1,((mK _ _ _ _ _ _ _ _ _).1 S).2.1⟩
 have aa:=U.id;have L:=U.nn;have B:¬C X:=Q.fresh a6;have a9:2<=X:=by have:=Q.tabs.two;omega
 have o:∀ok,(dD x d.du la lo rs tr).receive m ok=(dD x d.du la lo rs tr).rep m.f ((dD x d.du la lo rs tr).jc m ok):=fun ok=>(vX (n:=dD x d.du la lo rs tr) y a7 hf.2 ok).1 h;have a2:∀ad,a=some ad->¬A ad.block:=fun ad a8 F=>absurd (Q.lt _ (g _ F)).2 (Nat.not_lt.2 (a4 ad a8));have r1:iH ⟨m.k,m.f,m.e,m.b,m.wa,m.p,m.s,m.q,m.bl,m.v,a,c,m.zs⟩:=⟨hm.1,hm.2.1⟩;have K:gZ m.k m.bl m.zs.length:=by rcases h with h|h;exact .inl h;exact .inr (.inl h)
 have r3:m.k=6->m.e=d.ep/\m.e<1000000000000:=fun M=>by omega
 have H:=Q.later O;refine(zZ hSO hBW hBS P x d fs left t A m.k m.f m.e m.b m.wa m.p m.s m.q m.bl m.v a m.zs c W (hA.later O) V (by omega) a3 a2 D.1 h y).mono ?_;rintro r W1 ⟨ok,rfl,hs⟩;have N:=IQ (i:=x.id) (by omega) hD V (by omega:t<=1000000) h D.1 D.2;have hv:=zO (x:=x) (d:=d) (la:=la) (lo:=lo) (rs:=rs) (tr:=tr) m h;rcases hs with⟨hN,rfl,a0,E⟩|⟨hN,hs⟩;·obtain⟨t1,t2⟩:=H.turn g u a0 E rfl rfl rfl;have F:eL P t C left (dD x d.du la lo rs tr) true w W1:=(eL.keep t1 t2 V hD U.next hi (by rw[y];exact hJ)).pre O;refine⟨eH d m.k m.e m.b,rfl,E.blk hX (fun M=>B (g _ M)),?_⟩;refine(oU F rfl rfl L.2 hf (.inr N) (BZ _ _ _ _) (E.blk hX (fun M=>B (g _ M)))).mono ?_;rintro K W2 ⟨l,rfl,j,R⟩;refine⟨l,rfl,j,true,?_⟩;rw[o,hv,hN,cond_false];exact R
 ·have z:dC W1 X #[I T m.k,I T m.f,I T m.e,I T m.b,I T m.wa,I T m.p,I T m.s,I T m.q,I T m.bl,I T m.v,J a m.zs.length c] 136:=hs.blk hX (fun M=>B (g _ M));cases ok;·have a1:=H.je g u hs rfl rfl rfl;have F:=(eL.fall (la:=la) (lo:=lo) (tr:=tr) a1 V (by omega) hD U hi hJ r1 K r3).pre O;refine⟨.nil,rfl,z,?_⟩;refine(oU F rfl rfl L.2 hf (.inl rfl) (by decide) z).mono ?_;rintro K W2 ⟨l,rfl,j,R⟩;refine⟨l,rfl,j,false,?_⟩;rw[o,hv,hN,cond_true];exact R
  ·have a5:=H.saved g u hs rfl rfl rfl;have F:=(eL.save (x':=x) a5 V (by omega) hD U.next hi hJ r1 K r3 y tr).pre O;refine⟨eH d m.k m.e m.b,rfl,z,?_⟩;refine(oU F rfl rfl L.2 hf (.inr N) (BZ _ _ _ _) z).mono ?_;rintro K W2 ⟨l,rfl,j,R⟩;refine⟨l,rfl,j,true,?_⟩;rw[o,hv,hN,cond_true];exact R
theorem KL(m:AG.Ms)(c:m.k=7∨m.k=9)(ok:Bool):(dD x d.du la lo rs tr).update m ok=bif sI x d m.k m.e m.q m.bl m.zs.length then(bif ok then(bif (m.e==d.seen) then(dD x d.du la lo rs tr).save m true else((dD x d.du la lo rs tr).save m true).stand,(jE x d m.k m.e m.q m.bl m.zs.length).ms) else((dD x d.du la lo rs tr).fall m,.nil)) else(dD x d.du la lo rs tr,(jE x d m.k m.e m.q m.bl m.zs.length).ms):=by
 unfold AG.Nd.update sI jE;show(if lZ m.k x.nb m.bl m.zs.length=false∨m.e=d.seen/\(x.act=true∨m.q<d.last) then _ else if m.e<d.seen then(_,if m.e<d.ep then _ else _) else _)=_;have j:({AG.Ms.nil with k:=m.k+1,e:=m.e,q:=m.q}:AG.Ms)=(⟨mB m.k,0,m.e,0,0,0,0,m.q,0,0⟩:iC).ms:=by unfold mB iC.ms;rcases c with c|c<;>simp[c,AG.Ms.nil]
 cases hfb:lZ m.k x.nb m.bl m.zs.length;·rw[if_pos (.inl rfl)];rfl
 ·have i:((m.e==d.seen)&&(x.act||decide (m.q<d.last)))=decide (m.e=d.seen/\(x.act=true∨m.q<d.last)):=by rw[Bool.eq_iff_iff];simp
  rw[i];by_cases g:m.e=d.seen/\(x.act=true∨m.q<d.last);·rw[if_pos (.inr g),decide_eq_true g];rfl
  ·rw[if_neg (by rintro(h|h);exact absurd h (by simp);exact g h),decide_eq_false g];by_cases a:m.e<d.seen;·rw[if_pos a,decide_eq_true a];simp only[Bool.not_false,Bool.not_true,Bool.and_true,Bool.true_and,Bool.false_and,Bool.and_false,cond_true,cond_false];congr 1;split<;>rfl
   ·rw[if_neg a,decide_eq_false a];dsimp only;have l:((m.e==d.seen)&&(m.q==d.last))=decide (m.e=d.seen/\m.q=d.last):=by rw[Bool.eq_iff_iff];simp
    rw[l,j];show(if m.e=d.seen/\m.q=d.last then _ else if ok=true then(if m.e=d.seen then _ else _,_) else _)=_;by_cases b:m.e=d.seen/\m.q=d.last;·rw[if_pos b,decide_eq_true b];rfl
    ·rw[if_neg b,decide_eq_false b];cases ok;·rfl
     ·by_cases f:m.e=d.seen;·rw[if_pos rfl,if_pos f,show(m.e==d.seen)=true by simpa using f];rfl
      ·rw[if_pos rfl,if_neg f,show(m.e==d.seen)=false by simpa using f];rfl
theorem KM{i nn:Int}(hi:0<=i/\i<5)(j:fJ d nn){k e q bl:Int}{z:Nat}(g:k=7∨k=9)(a:e_ e)(f:e_ q):((jE x d k e q bl z).k=0∨fD (jE x d k e q bl z).k i [0,(jE x d k e q bl z).e,(jE x d k e q bl z).b,(jE x d k e q bl z).wa,(jE x d k e q bl z).p,(jE x d k e q bl z).s,(jE x d k e q bl z).q,(jE x d k e q bl z).bl,(jE x d k e q bl z).v,0]=true)/\(jE x d k e q bl z).k≠9:=by
 unfold jE;cases lZ k x.nb bl z&&!((e==d.seen)&&(x.act||decide (q<d.last)));·exact⟨.inl rfl,by show(0:Int)≠9;decide⟩
 ·rw[cond_true];cases decide (e<d.seen)
  ·rw[cond_false];unfold mB;rcases g with rfl|rfl;·exact⟨.inr (PB i e q hi a f),by show(8:Int)≠9;decide⟩
   ·exact⟨.inr (NY i e q hi a f),by show(10:Int)≠9;decide⟩
  ·rw[cond_true];split
   ·next h1=>
    have c:=j.re (e+1).toNat (by unfold SD.ep at h1;omega);have h:d.qi (e+1)=d.recs[(e+1).toNat]'(by unfold SD.ep at h1;omega):=by unfold SD.qi;rw[List.getD_eq_getElem?_getD,List.getElem?_eq_getElem (by unfold SD.ep at h1;omega)];rfl
    rw[h];exact⟨.inr (qI i e _ _ hi a c.2.1 c.2.2),by show(6:Int)≠9;decide⟩
   ·exact⟨.inl rfl,by decide⟩
theorem CZ(hSO:eW)(hBW:eZ)(hBS:fA)(hF:dM w P x d fs left (dX t) C la lo rs)(hB:BG t d)(hD:fJ d x.nodes)(V:Rg x la rs t)(hi:d.id=x.id)(hJ:Jr fs d x.nodes t false tr)(ht:t+1<=1000000)(D:x.down=false)(m:AG.Ms)(hm:Rl m)(E:m.k=7∨m.k=9)(hf:0<=m.f/\m.f<x.nodes)(a6:m.f≠x.id){W:World}{X:Nat}{a:Option Addr}{c:Nat}(U:Below w.heap.size w W)(a5:w.heap.size<=X)(hX:dC W X #[I T m.k,I T m.f,I T m.e,I T m.b,I T m.wa,I T m.p,I T m.s,I T m.q,I T m.bl,I T m.v,J a m.zs.length c] 136)(ho:fL W w.heap.size (J a m.zs.length c) m.zs):Calls pG 201 #[P0 (Y ⟨P.Nd,0,Z⟩),.agg #[I T m.k,I T m.f,I T m.e,I T m.b,I T m.wa,I T m.p,I T m.s,I T m.q,I T m.bl,I T m.v,J a m.zs.length c]] W fun r W1=>∃m2:iC,r=.returned m2.ag/\dC W1 X #[I T m.k,I T m.f,I T m.e,I T m.b,I T m.wa,I T m.p,I T m.s,I T m.q,I T m.bl,I T m.v,J a m.zs.length c] 136/\Calls pG 195 #[P0 (Y ⟨P.Nd,0,Z⟩),.agg #[I T m.k,I T m.f,I T m.e,I T m.b,I T m.wa,I T m.p,I T m.s,I T m.q,I T m.bl,I T m.v,J a m.zs.length c],m2.ag] W1 fun F W2=>∃l,F=.returned l/\dC W2 X #[I T m.k,I T m.f,I T m.e,I T m.b,I T m.wa,I T m.p,I T m.s,I T m.q,I T m.bl,I T m.v,J a m.zs.length c] 136/\∃ok,gF P t C left x.nodes ((dD x d.du la lo rs tr).receive m ok) ok l w W2:=by
 obtain⟨A,hA,g,o⟩:=hF.nod;obtain⟨a3,a4⟩:=tA ho;obtain⟨_,_,hn⟩:=oC hm.1;have H:(e_ m.e)/\(e_ m.q)/\gZ m.k m.bl m.zs.length:=by
  rcases E with E|E<;>rw[E]at hn;·have B:=(mZ _ _ _ _ _ _ _ _ _).1 hn;exact⟨B.1,B.2.1,.inr (.inr (.inr (.inl ⟨E,B.2.2.1⟩)))⟩
  ·have B:=(nA _ _ _ _ _ _ _ _ _).1 hn;exact⟨B.1,B.2.1,.inr (.inr (.inr (.inr ⟨E,hm.2.2 E,by omega⟩)))⟩
 have a9:=V.id;have M:=V.nn;have O:¬C X:=hF.fresh a5;have a8:2<=X:=by have:=hF.tabs.two;omega
 have j:∀ok,(dD x d.du la lo rs tr).receive m ok=(dD x d.du la lo rs tr).rep m.f ((dD x d.du la lo rs tr).update m ok):=fun ok=>(vX (n:=dD x d.du la lo rs tr) D a6 hf.2 ok).2.2.2.2.2.1 E;have a2:∀ad,a=some ad->¬A ad.block:=fun ad a7 K=>absurd (hF.lt _ (g _ K)).2 (Nat.not_lt.2 (a4 ad a7));have r1:iH ⟨m.k,m.f,m.e,m.b,m.wa,m.p,m.s,m.q,m.bl,m.v,a,c,m.zs⟩:=⟨hm.1,hm.2.1⟩;have F:=H.2.2;have r3:m.k=6->m.e=d.ep/\m.e<1000000000000:=fun B=>by omega
 have L:=hF.later U;refine(GJ hSO hBW hBS P x d fs left t A m.k m.f m.e m.b m.wa m.p m.s m.q m.bl m.v a m.zs c W (hA.later U) hB (by omega) a3 a2 H.1 E F D).mono ?_;rintro r W1 ⟨ok,rfl,hs⟩;have u:=KM (x:=x) (bl:=m.bl) (z:=m.zs.length) (i:=x.id) (by omega) hD E H.1 H.2.1;have hv:=KL (x:=x) (d:=d) (la:=la) (lo:=lo) (rs:=rs) (tr:=tr) m E;rcases hs with⟨hN,rfl,a0,Q⟩|⟨hN,hs⟩;·obtain⟨t1,t2⟩:=L.turn g o a0 Q rfl rfl rfl;have K:eL P t C left (dD x d.du la lo rs tr) true w W1:=(eL.keep t1 t2 hB hD V.next hi (by rw[D];exact hJ)).pre U;refine⟨jE x d m.k m.e m.q m.bl m.zs.length,rfl,Q.blk hX (fun B=>O (g _ B)),?_⟩;refine(oU K rfl rfl M.2 hf u.1 u.2 (Q.blk hX (fun B=>O (g _ B)))).mono ?_;rintro F W2 ⟨l,rfl,h,S⟩;refine⟨l,rfl,h,true,?_⟩;rw[j,hv,hN,cond_false];exact S
 ·have y:dC W1 X #[I T m.k,I T m.f,I T m.e,I T m.b,I T m.wa,I T m.p,I T m.s,I T m.q,I T m.bl,I T m.v,J a m.zs.length c] 136:=hs.blk hX (fun B=>O (g _ B));cases ok;·have a1:=L.je g o hs rfl rfl rfl;have K:=(eL.fall (la:=la) (lo:=lo) (tr:=tr) a1 hB (by omega) hD V hi hJ r1 F r3).pre U;refine⟨.nil,rfl,y,?_⟩;refine(oU K rfl rfl M.2 hf (.inl rfl) (by decide) y).mono ?_;rintro F W2 ⟨l,rfl,h,S⟩;refine⟨l,rfl,h,false,?_⟩;rw[j,hv,hN,cond_true];exact S
  ·cases hse:(m.e==d.seen)
   ·have N:pF x d m.e true=x.stand:=by unfold pF;rw[hse];rfl
    rw[N]at hs;have R:=L.je g o hs rfl rfl rfl;have K:=(eL.save (x':=x.stand) R hB (by omega) hD V.stand.next hi hJ r1 F r3 D tr).pre U;refine⟨jE x d m.k m.e m.q m.bl m.zs.length,rfl,y,?_⟩;refine(oU K rfl rfl M.2 hf u.1 u.2 y).mono ?_;rintro F W2 ⟨l,rfl,h,S⟩;refine⟨l,rfl,h,true,?_⟩;rw[j,hv,hN,cond_true,hse];exact S
   ·have N:pF x d m.e true=x:=by unfold pF;rw[hse];rfl
    rw[N]at hs;have R:=L.saved g o hs rfl rfl rfl;have K:=(eL.save (x':=x) R hB (by omega) hD V.next hi hJ r1 F r3 D tr).pre U;refine⟨jE x d m.k m.e m.q m.bl m.zs.length,rfl,y,?_⟩;refine(oU K rfl rfl M.2 hf u.1 u.2 y).mono ?_;rintro F W2 ⟨l,rfl,h,S⟩;refine⟨l,rfl,h,true,?_⟩;rw[j,hv,hN,cond_true,hse];exact S
end
end Go.Proofs.YtdcainmlcpafbaaGreatDoor
