import Derived.Test.YtdcainmlcpafbaaGreatDoorJ37
set_option linter.all false
set_option maxHeartbeats 8000000
set_option maxRecDepth 20000
namespace Go.Proofs.YtdcainmlcpafbaaGreatDoor
section
open Go.RowKit
open Value renaming slice->J,pointer->P0
open Tryz
open Tryz renaming prog->pG
open IntKind renaming i64->T
open Option renaming none->Z,some->Y
open Obj renaming cells->G
open Value (bool)
def CS.run(s:CS)(i:Nat)(n':AG.Nd):CS:={s with ns:=s.ns.set i n',lv:=s.lv.set i (s.lv.getD i 0+1)}
def CS.drop(s:CS)(k:Nat):CS:={s with net:=s.net.take k++s.net.drop (k+1)}
def CS.come(s:CS)(j:Nat)(m:AG.Ms)(ok:Bool):CS:=(s.put j ((s.nd j).receive m ok)).look j
def OE(s:CS)(i:Nat):(s.tell i).ns=s.ns/\(s.tell i).net=s.net:=by
 unfold CS.tell;split;·exact⟨rfl,rfl⟩
 ·split<;>exact⟨rfl,rfl⟩
def OF(s:CS)(j:Nat)(m:AG.Ms)(ok:Bool):(s.come j m ok).ns.length=s.ns.length/\s.net.length<=(s.come j m ok).net.length:=by unfold CS.come CS.look;refine⟨by simp[CS.put],?_⟩;show _<=((s.put j ((s.nd j).receive m ok)).tell j).net.length;rw[(OE _ _).2];simp[CS.put]
def CS.cm(s:CS)(k:Nat):CS:=match s.net[k]? with
 |none=>s
 |some z=>s.come z.1.toNat z.2 true
def CS.jg(s:CS):Nat->CS
 |0=>s
 |k+1=>(s.jg k).cm k
def CS.pass(s:CS):CS:={s.jg s.net.length with net:=(s.jg s.net.length).net.drop s.net.length}
def CS.ji:Nat->CS->CS
 |0,s=>s
 |m+1,s=>bif decide (s.net.length=0) then s else CS.ji m s.pass
structure ES(s:CS)(k:Nat):Prop where
 ex:∃(j:Nat) (m:AG.Ms),∃hk:k<s.net.length,s.net[k]=((j:Int),m)/\j<s.ns.length/\Rl m/\qF s j (λok=>(s.nd j).receive m ok)/\∀ok,qE (s.put j ((s.nd j).receive m ok)) j
 ln:s.net.length<=50000000
def tC:Nat->CS->Prop
 |0,_=>True
 |m+1,s=>s.net.length=0∨((s.net.length<=1000/\∀k,k<s.net.length->ES (s.jg k) k)/\s.net.length<=(s.jg s.net.length).net.length/\(s.jg s.net.length).net.length<=50000000/\tC m s.pass)
def EL{w w1:World}{Wc base t:Nat}{v:Nat->Value}{f:Bool}{hs:List Ho}{s:CS}{n:Nat}{x:Value}(h:dR w Wc base t v f hs s)(d:Below w.heap.size w w1)(r:w1.ownsRow w.heap.size 174 2 x (s.net.drop n).length ((s.net.drop n).flatMap eQ)):dR (w1.setCell ⟨Wc,5,Z⟩ x) Wc base t (gI v 5 x) f hs {s with net:=s.net.drop n}/\Below base w (w1.setCell ⟨Wc,5,Z⟩ x):=by have a:=dI.setCell w1 ⟨Wc,5,Z⟩ x;have u:=h.blk.lt;have o:dC w1 Wc (jA v s.nb f) 63:=h.blk.later d;have i:=o.set 5 x;rw[sC v s.nb f _ 5 dG]at i;have e:∀g,x.ownBlock=some g->w.heap.size<=g:=λg b=>(r.lt g b).1;have y:dM (λg=>g=Wc∨(v 5).ownBlock=some g) w (w1.setCell ⟨Wc,5,Z⟩ x):=⟨a.os.trans d.os,a.tape.trans d.tape,a.output.trans d.output,by rw[a.size];exact d.size,λg b p=>(a.block g (λq=>p (.inl q))).trans (d.block g b)⟩;have c:(w1.setCell ⟨Wc,5,Z⟩ x).ownsRow base 174 2 x (s.net.drop n).length ((s.net.drop n).flatMap eQ):=dQ (nQ r h.jd) (λg b=>a.block g (λp=>by have q:=e g b;have z:g=Wc:=p;omega));exact dR.turn (k:=5) (v':=gI v 5 x) (f':=f) (s':={s with net:=s.net.drop n}) dG h y (λj _ l=>nY l) i (by rw[lG];exact c) (λg b=>by rw[lG]at b;exact .inr (e g b)) rfl rfl ⟨rfl,rfl⟩ (by intro j l m;simp only[eR,List.mem_cons,List.mem_nil_iff,or_false]at l;rcases l with rfl|rfl|rfl|rfl|rfl|rfl|rfl|rfl|rfl|rfl<;>first|exact⟨rfl,rfl⟩|exact absurd rfl m)
def QH(hLO:jN)(hUO:jL)(hSO:fA)(hBW:fC)(hBS:fD)(Wc base t:Nat)(hs:List Ho)(s:CS)(k:Nat)(w:World)(h:CA w Wc base t true hs s)(r:Qt hs)(a:ES s k)(n:t+2<=1000000):Calls pG 57 #[P0 (Y ⟨Wc,0,Z⟩),I (k:Int)] w λq w'=>q=.returned (.tuple #[])/\∃hs',hs'.length=hs.length/\CA w' Wc base (t+1) true hs' (s.cm k)/\Below base w w'/\Qt hs':=by
 obtain⟨j,m,i,l,u,p,d,b⟩:=a.ex;refine(DG hLO hUO hSO hBW hBS Wc base t hs s k j m w h i l u p n a.ln d b).mono ?_;rintro q w' ⟨rfl,ok,hs',f,v,o,c⟩;obtain⟨rfl,g⟩:=c.1 r;refine⟨rfl,hs',f,?_,o,g⟩;have e:s.cm k=s.come j m true:=by unfold CS.cm;rw[List.getElem?_eq_getElem i,l];rfl
 rw[e];exact v
def O8(hLO:jN)(hUO:jL)(hSO:fA)(hBW:fC)(hBS:fD)(Wc base t:Nat)(hs:List Ho)(s:CS)(M:Nat)(w:World)(h:CA w Wc base t true hs s)(hq:Qt hs)(ac:tC M s)(hM:M<=100)(ht:t+1000*M+2<=1000000):Calls pG 25 #[P0 (Y ⟨Wc,0,Z⟩),I (M:Int)] w λq w'=>q=.returned (.tuple #[])/\∃hs' t',hs'.length=hs.length/\CA w' Wc base t' true hs' (CS.ji M s)/\Below base w w'/\Qt hs'/\t'<=t+1000*M:=by
 obtain⟨i0,aq,aw,aC,al⟩:=info_parts xE;have HH:=dA h;have HQ:=dA hq;have aM:=dA ac;clear h hq ac;go_enter func25,ntmps25;go_upto_region 0 with fail;go_loopw [1] (λs1 wr=>∃m:Nat,m<=M/\s1=I (m:Int)/\∃hs' t' s',hs'.length=hs.length/\CA wr Wc base t' true hs' s'/\Qt hs'/\tC m s'/\CS.ji m s'=CS.ji M s/\t'+1000*m<=t+1000*M/\Below base w wr) (λs1 wr=>(intOf s1).toNat);case atStart=>exact⟨M,oG,rfl,hs,t,s,rfl,HH,HQ,aM,rfl,oG,Below.refl _ _⟩
 case round=>
  obtain⟨m,b7,rfl,hs',t',s',a4,⟨v,hc⟩,am,V,aD,aZ,aj⟩:=hrel;obtain⟨a5,b6,B⟩:=dZ (hc.row 5 dG);have c5:=hc.cell (k:=5) dG;rw[B]at c5;have r:rN hs' s' 5=s'.net.length:=rfl;rw[r]at c5;have HC:=dA hc;have L:=dA am;have ak:=dA V;have a3:=dA aD;have R:=dA aj;clear hc am V aD aj B r;by_cases aH:m=0;case pos=>subst aH;go_wp2;refine bodyPost_end (v:=.tuple #[]) (by simp[results,results25,go_sem]) rfl ?_;exact⟨rfl,hs',t',a4,by rw[←a3.out];exact⟨_,HC⟩,R,L,oG⟩
  obtain⟨X,N⟩:∃y,m=y+1:=⟨m-1,oG⟩;have an:Hid (tC (X+1) s'):=by unfold Hid;rw[←N];exact ak
  have F:Hid (CS.ji (X+1) s'=CS.ji M s):=by unfold Hid;rw[←N];exact a3
  have b8:1<=m:=oG;have b1:=dA N;have aA:(X:Int)=(m:Int) - 1:=oG;have au:=dA aA;have b5:X+1<=M/\t'+1000*(X+1)<=t+1000*M:=oG;clear N aA ak a3;by_cases A:s'.net.length=0;case pos=>
   have HF:Hid (CS.ji M s=s'):=by unfold Hid;rw[←F.out,CS.ji,A];rfl
   have ai:decide ((0:Int)<(m:Int))=true:=by rw[decide_eq_true_eq];omega
   rw[A]at c5;clear A;go_wp2;refine bodyPost_end (v:=.tuple #[]) (by simp[results,results25,go_sem]) rfl ?_;exact⟨rfl,hs',t',a4,by rw[HF.out];exact⟨_,HC⟩,R,L,oG⟩
  obtain⟨⟨aS,a8⟩,av,ah,ar⟩:=an.resolve_left A;obtain⟨n,S⟩:∃y,s'.net.length=y:=⟨_,rfl⟩;rw[S]at c5 aS a8 av ah A;have ai:decide ((0:Int)<(m:Int))=true:=by rw[decide_eq_true_eq];omega
  have aU:decide (0<n)=true:=by rw[decide_eq_true_eq];omega
  have ad:Hid (CS.ji X s'.pass=CS.ji M s):=by unfold Hid;rw[←F.out,CS.ji,S,decide_eq_false A];rfl
  have ao:=dA S;have aB:=dA a8;have ap:=dA ar;clear S a8 ar F an;go_upto_region 4 with fail;clear ai aU c5;go_loopw [5] (λs5 w2=>∃k:Nat,k<=n/\s5=I (k:Int)/\∃d,d.length=hs.length/\CA w2 Wc base (t'+k) true d (s'.jg k)/\Qt d/\Below base w w2) (λs5 w2=>n - (intOf s5).toNat);case atStart=>exact⟨0,oG,rfl,hs',a4,⟨v,HC⟩,L,R⟩
  case round=>
  obtain⟨k,b3,rfl,d,aW,a6,Q,K⟩:=hrel;by_cases aO:k<n
  ·have b0:decide ((k:Int)<(n:Int))=true:=by simp;omega
   have aP:=dA (QH hLO hUO hSO hBW hBS Wc base (t'+k) d (s'.jg k) k wr a6 Q (aB.out k aO) oG);have aI:=dA K;clear a6 Q K;go_wp2_with fail;refine aP.mono ?_;rintro q w3 ⟨rfl,aE,aV,aL,aK,aF⟩;go_wp2_with fail;go_roundw;case rel=>exact⟨k+1,oG,rfl,aE,oG,aL,aF,aI.trans aK⟩
   case measure=>simp[intOf];omega
  obtain rfl:k=n:=oG;have b2:decide ((k:Int)<(k:Int))=false:=sG;obtain⟨v6,O⟩:=a6;obtain⟨b,x⟩:∃y,(s'.jg k).net=y:=⟨_,rfl⟩;rw[x]at av ah;obtain⟨g5,p,B,c5,b9,a9⟩:=O.ones (k:=5) dG (show 0<(s'.jg k).net.length by rw[x];omega);have r:rN d (s'.jg k) 5=b.length:=by show(s'.jg k).net.length=_;rw[x]
  have aa:rX d (s'.jg k) 5=b.flatMap eQ:=by show(s'.jg k).net.flatMap eQ=_;rw[x]
  rw[r]at c5 B;rw[aa]at a9;have aX:b.length<=p/\p<=maxLen:=by
   have h9:=O.row 5 dG;rw[B,r]at h9;rcases h9.2 with⟨h8,_⟩|⟨g,c,aY,e1,_,_,e4,e5,_⟩;·cases h8
   ·cases e1;exact⟨e4,e5⟩
  have a0:∀l:List (Int×AG.Ms),(l.flatMap eQ).length=l.length*2:=λl=>vU eQ 2 yR l;have ay:∀(l:List (Int×AG.Ms)) u,u∈l.flatMap eQ->u.oneCell'=true:=by intro l u U;obtain⟨z,_,hz⟩:=List.mem_flatMap.1 U;simp[eQ]at hz;rcases hz with rfl|rfl<;>rfl
  have az:∀(j:Nat) (u:Value),((b.drop k).flatMap eQ)[j]?=Y u->(b.flatMap eQ)[k*2+j]?=Y u:=by
   intro j u U;have e:b.flatMap eQ=(b.take k).flatMap eQ++(b.drop k).flatMap eQ:=by rw[←List.flatMap_append,List.take_append_drop]
   have aQ:((b.take k).flatMap eQ).length=k*2:=by rw[a0,List.length_take,Nat.min_eq_left oG]
   rw[e,List.getElem?_append_right oG,aQ,show k*2+j-k*2=j by omega];exact U
  have H:=dA O;have ag:=dA Q;have ae:=dA K;have aJ:=dA a9;have ax:=dA a0;have ab:=dA ay;have aG:=dA az;have af:=dA x;obtain⟨W,aR⟩:∃y,y=wr:=⟨_,rfl⟩;subst aR;clear O Q K a9 a0 ay az x r aa B HC L R;by_cases b4:p=k
  ·have aN:Hid (b.drop k=[]):=List.drop_eq_nil_of_le oG;go_wp2_with(at_builtin;go_loud (refine wpList_append_own _ rfl _ _ 60 rfl W.heap.size 174 i0 (.agg #[I 0,.string ⟨#[]⟩]) 2 24 underlying60 aq aw aC al rfl dG (J Z 0 0) 0 [] rfl ?c0 ⟨g5,0,Z⟩ (b.length - k) 0 ((b.drop k).flatMap eQ) eG ?c1 ?c2 ?c3 ?c4 ?c5 ?c6 ?_));case c0=>exact World.ownsRow_nil _ _ _ _
   case c1=>rw[ax.out,List.length_drop]
   case c2=>intro j u U;rw[aN.out]at U;simp at U
   case c3=>exact ab.out _
   case c4=>unfold maxLen;omega
   case c5=>omega
   case c6=>exact Nat.le_refl _
   intro v1 w1 f a _;obtain⟨a1,a7,rfl⟩:=dZ f;have o:Below W.heap.size W w1:=⟨a.os,a.tape,a.output,a.size,λg hg=>a.block g hg (by simp[Value.ownBlock])⟩;have E:w1.ownsRow W.heap.size 174 2 (J a1 (b.length - k) a7) (b.drop k).length ((b.drop k).flatMap eQ):=by have e:(b.drop k).length=b.length - k:=sG;rw[e];simpa using f
   have D:=EL (s:=s'.jg k) (n:=k) H o (by rw[af.out];exact E);have i:dC w1 Wc (jA v6 (s'.jg k).nb true) 63:=H.blk.later o;have a2:=i.cell 5;have aT:=i.free 5;simp at a2;have C:=dA D;clear f E a o D i;go_wp2_with fail;go_roundw;case rel=>exact⟨X,oG,by rw[au.out],d,t'+k,s'.pass,oG,⟨_,by show dR _ _ _ _ _ _ _ s'.pass;unfold CS.pass;rw[ao.out];have h9:=C.1;exact h9⟩,ag,ap,ad,oG,ae.trans C.2⟩
   case measure=>simp[intOf];omega
  ·skip;go_wp2_with(at_builtin;go_loud (refine wpList_append_own _ rfl _ _ 60 rfl W.heap.size 174 i0 (.agg #[I 0,.string ⟨#[]⟩]) 2 24 underlying60 aq aw aC al rfl dG (J Z 0 0) 0 [] rfl ?c0 ⟨g5,k*2,Z⟩ (b.length - k) (p - k) ((b.drop k).flatMap eQ) eG ?c1 ?c2 ?c3 ?c4 ?c5 ?c6 ?_));case c0=>exact World.ownsRow_nil _ _ _ _
   case c1=>rw[ax.out,List.length_drop]
   case c2=>intro j u U;rw[Go.WideShapes.add_plain];exact aJ.out _ u (aG.out j u U)
   case c3=>exact ab.out _
   case c4=>unfold maxLen;omega
   case c5=>omega
   case c6=>exact Nat.le_refl _
   intro v1 w1 f a _;obtain⟨a1,a7,rfl⟩:=dZ f;have o:Below W.heap.size W w1:=⟨a.os,a.tape,a.output,a.size,λg hg=>a.block g hg (by simp[Value.ownBlock])⟩;have E:w1.ownsRow W.heap.size 174 2 (J a1 (b.length - k) a7) (b.drop k).length ((b.drop k).flatMap eQ):=by have e:(b.drop k).length=b.length - k:=sG;rw[e];simpa using f
   have D:=EL (s:=s'.jg k) (n:=k) H o (by rw[af.out];exact E);have i:dC w1 Wc (jA v6 (s'.jg k).nb true) 63:=H.blk.later o;have a2:=i.cell 5;have aT:=i.free 5;simp at a2;have C:=dA D;clear f E a o D i;go_wp2_with fail;go_roundw;case rel=>exact⟨X,oG,by rw[au.out],d,t'+k,s'.pass,oG,⟨_,by show dR _ _ _ _ _ _ _ s'.pass;unfold CS.pass;rw[ao.out];have h9:=C.1;exact h9⟩,ag,ap,ad,oG,ae.trans C.2⟩
   case measure=>simp[intOf];omega
end
section
open Go.RowKit
def OG:∀a:Fin 32,∀b:Fin 32,(∀i:Fin 5,(b.val:Int) / 2 ^ i.val%2=1->(a.val:Int) / 2 ^ i.val%2=1)->iB (a.val:Int) (b.val:Int) 5=0:=by decide +kernel
def M0:∀a:Fin 32,∀b:Fin 32,∀j:Fin 5,¬((a.val:Int) / 2 ^ j.val%2=1)->(∀i:Fin 5,((b.val:Int) / 2 ^ i.val%2=1↔(a.val:Int) / 2 ^ i.val%2=1∨i=j))->iB (a.val:Int) (b.val:Int) 5=1/\iB (b.val:Int) (a.val:Int) 5=0:=by decide +kernel
def M1{a:eH}{E P S:Int}(hS:0<=a.S/\a.S<=31)(h:AG.Fol a E P S):rJ a ⟨E,P,S⟩=true:=by
 obtain⟨r,v,p,u,s,s0,s1,g,hs⟩:=h;have f:((S.toNat:Nat):Int)=S:=oG;have e:((a.S.toNat:Nat):Int)=a.S:=oG;have n:fK S (P - 1).toNat=true:=by unfold fK;rw[beq_iff_eq];exact g
 unfold rJ;show(fK S (P - 1).toNat&&((E==a.E+1)&&((iB a.S S 5==0)||((iB a.S S 5==1)&&((iB S a.S 5==0)&&(a.P==P))))))=true;rw[n,show(E==a.E+1)=true by simpa using p,Bool.true_and,Bool.true_and];rcases hs with hs|⟨q,j,w,t,o,l⟩
 ·have d:=OG ⟨a.S.toNat,oG⟩ ⟨S.toNat,oG⟩;simp only[f,e]at d;rw[d (λi hi=>by have b:=hs (i.val:Int) oG (by have:=i.isLt;omega);unfold AG.bit at b;rw[Int.toNat_natCast]at b;exact b hi)]
  rfl
 ·have d:=M0 ⟨a.S.toNat,oG⟩ ⟨S.toNat,oG⟩ ⟨j.toNat,oG⟩;simp only[f,e]at d;obtain⟨k,m⟩:=d o (λi=>by
   have b:=l (i.val:Int) oG (by have:=i.isLt;omega);unfold AG.bit at b;rw[Int.toNat_natCast]at b;rw[b];constructor
   ·rintro(c|c);·exact .inl c
    ·exact .inr (Fin.ext (by simp only;omega))
   ·rintro(c|c);·exact .inl c
    ·have:=congrArg Fin.val c;simp only at this;exact .inr oG)
  rw[k,m,show(a.P==P)=true by simp[q]];rfl
end
namespace AG
def tell_len(n:Nd)(m:Ms)(l:List Int):(n.tell m l).length=l.length:=by unfold Nd.tell;rw[List.length_map]
def sS(n:Nd):n.others.length<=n.nodes.toNat:=by unfold Nd.others;refine Nat.le_trans (List.length_filter_le _ _) ?_;rw[List.length_map,List.length_range];exact Nat.le_refl _
def miss_len(n:Nd):n.missing.length<=n.nodes.toNat:=by unfold Nd.missing;refine Nat.le_trans (List.length_filter_le _ _) ?_;rw[List.length_map,List.length_range];exact Nat.le_refl _
def vL(n:Nd)(ok:Bool):(n.prepare ok).2.length<=n.nodes.toNat:=by
 unfold Nd.prepare;dsimp only;split;·exact Nat.zero_le _
 split;·exact Nat.zero_le _
 ·rw[tell_len];exact sS n
def GS(n:Nd)(ok:Bool):(n.ig ok).2.length<=n.nodes.toNat:=by
 unfold Nd.ig;dsimp only;split
 ·split;·exact Nat.zero_le _
  ·rw[tell_len];exact sS _
 ·split;·exact Nat.zero_le _
  ·rw[tell_len];exact sS _
def F4(n:Nd)(ok:Bool):(n.conclude ok).2.length<=n.nodes.toNat:=by
 unfold Nd.conclude;dsimp only;split;·rw[tell_len];exact sS n
 ·exact Nat.zero_le _
def DJ(n:Nd)(t:Int)(r:Nd×Ms):(n.rep t r).2.length<=1:=by
 unfold Nd.rep;dsimp only;split;·exact Nat.zero_le _
 ·exact Nat.le_refl _
def receive_len(n:Nd)(m:Ms)(ok:Bool):(n.receive m ok).2.length<=n.nodes.toNat+1:=by
 unfold Nd.receive;split;·exact Nat.zero_le _
 split;·exact Nat.le_trans (DJ _ _ _) oG
 split
 ·unfold Nd.promised;split
  ·dsimp only;split;·exact Nat.le_trans (GS _ _) (by dsimp only;omega)
   ·exact Nat.zero_le _
  ·exact Nat.zero_le _
 split
 ·unfold Nd.accepted;split
  ·dsimp only;split;·exact Nat.le_trans (F4 _ _) (by dsimp only;omega)
   ·exact Nat.zero_le _
  ·exact Nat.zero_le _
 split;·exact Nat.zero_le _
 split;·exact Nat.zero_le _
 split;·exact Nat.le_trans (DJ _ _ _) oG
 split;·exact Nat.zero_le _
 split
 ·unfold Nd.copied;split;·exact Nat.le_trans (vL _ _) (by dsimp only;omega)
  ·exact Nat.zero_le _
 ·exact Nat.zero_le _
def promote_len(n:Nd)(set:Int)(ok:Bool):(n.gq set ok).2.1.length<=n.nodes.toNat:=by
 unfold Nd.gq;split;·exact Nat.zero_le _
 split;·exact Nat.zero_le _
 split;·exact Nat.zero_le _
 ·exact vL _ _
def admit_len(n:Nd)(k:Int)(ok:Bool):(n.admi k ok).2.1.length<=1:=by
 unfold Nd.admi;split;·exact Nat.zero_le _
 ·dsimp only;split;·dsimp only;rw[tell_len];exact Nat.le_refl _
  ·exact Nat.zero_le _
def operate_len(n:Nd)(bl v:Int)(ok:Bool):(n.operate bl v ok).2.1.length<=n.nodes.toNat:=by
 unfold Nd.operate;split;·exact Nat.zero_le _
 ·dsimp only;split;·dsimp only;rw[tell_len];exact Nat.le_trans (miss_len _) (by cases ok<;>exact Nat.le_refl _)
  ·exact Nat.zero_le _
def pursue_len(n:Nd)(ok:Bool):(n.iq ok).2.length<=n.nodes.toNat+1:=by
 unfold Nd.iq;split;·dsimp only;rw[tell_len];exact Nat.le_trans (sS n) oG
 split;·dsimp only;rw[tell_len];simp
 ·exact Nat.le_trans (vL n ok) oG
end AG
section
open Go.RowKit
def CS.xf(s:CS)(j:Int):AG.Nd:=if 0<=j then s.nd j.toNat else AG.Nd.first 0 0 0
def CS.lf(s:CS)(j:Int):Int:=if 0<=j then s.lv.getD j.toNat 0 else 0
def gL(s:CS)(k:Nat):s.xf (k:Int)=s.nd k:=by unfold CS.xf;rw[if_pos (Int.natCast_nonneg k),Int.toNat_natCast]
def pX(s:CS)(k:Nat):s.lf (k:Int)=s.lv.getD k 0:=by unfold CS.lf;rw[if_pos (Int.natCast_nonneg k),Int.toNat_natCast]
def xZ{s s':CS}{k:Nat}{n':AG.Nd}(b:k<s.ns.length)(h:s'.ns=s.ns.set k n'):s'.xf=AG.upd s.xf (k:Int) n':=by
 funext j;by_cases a:j=(k:Int);·subst a;rw[gL,AG.upd_self];unfold CS.nd;rw[h,List.getD_eq_getElem?_getD,List.getElem?_set_self b];rfl
 ·rw[AG.upd_ne a];unfold CS.xf;split;·unfold CS.nd;rw[h,List.getD_eq_getElem?_getD,List.getElem?_set_ne oG,List.getD_eq_getElem?_getD]
  ·rfl
structure Gd(s:CS)(n:Nat)(sn:AG.Ms->Prop)(g:AG.Gh)(u:AG.Gv)(k:Nat)(pend:List dJ)(N:Nat):Prop where
 ci:AG.CI (n:Int) s.nb s.xf sn g u s.lf s.ops s.rs s.hi (k:Int) pend
 ns:s.ns.length=n
 kn:∀j,j<n->s.kn.getD j 0<=((s.nd j).d.recs.length:Int)
 bd:s.ops.length<=N/\s.rs.length<=N/\s.rd.length<=N/\s.hi.length<=N/\s.net.length<=N
 nt:∀z∈s.net,sn z.2
 li:∃y,AG.LI (n:Int) s.nb (AG.vws s.xf) sn u s.lf s.ops s.rs s.rd (k:Int) pend y
def O9{s:CS}{n:Nat}{sn:AG.Ms->Prop}{g:AG.Gh}{u:AG.Gv}{k N:Nat}{pend:List dJ}(h:Gd s n sn g u k pend N)(V:k<n)(hN:N<=100000000):qE s k:=by
 have a4:=h.bd;have c:=h.ci;have j:(0:Int)<=(k:Int):=Int.natCast_nonneg k;have l:(k:Int)<(n:Int):=oG;have a:=gL s k;have w:=pX s k;have f:=c.res j l;simp only[a,if_true]at f;have a3:(s.nd k).d.ep=((s.nd k).d.recs.length:Int) - 1:=rfl;have hE:0<=(s.nd k).d.ep:=by have:=(c.inv.own j l).i0.2.2.2.2;simp only[a]at this;exact this
 have D:=c.hiu j l;simp only[a]at D;have m:∀i (hi:i<(s.nd k).d.recs.length),(s.nd k).d.rc (i:Int)=(s.nd k).d.recs[i]:=by intro i hi;unfold AG.Du.rc;rw[Int.toNat_natCast,List.getD_eq_getElem?_getD,List.getElem?_eq_getElem hi];rfl
 have t:∀i (hi:i<(s.nd k).d.recs.length),(0<=(s.nd k).d.recs[i].S/\(s.nd k).d.recs[i].S<=31)/\(s.nd k).d.recs[i].E=(i:Int):=by intro i hi;have o:=(c.inv.own j l).rr (i:=(i:Int)) oG (by simp only[a];omega);simp only[a]at o;rw[m i hi]at o;have v:=c.inv.ny j l (e:=(i:Int)) oG (by simp only[a];omega);have F:=c.inv.recE j l (e:=(i:Int)) oG (by simp only[a];omega);rw[o];exact⟨v,F⟩
 have x:∀i (hi:i+1<(s.nd k).d.recs.length),AG.Fol (s.nd k).d.recs[i] ((i:Int)+1) (s.nd k).d.recs[i+1].P (s.nd k).d.recs[i+1].S:=by intro i hi;have b:=(c.follow j l (e:=(i:Int)) oG (by simp only[a];omega)).1;simp only[a]at b;have K:=m (i+1) hi;rw[show(((i+1:Nat)):Int)=(i:Int)+1 by omega]at K;rw[m i oG,K]at b;exact b
 refine⟨?_,h.kn k V,oG,c.hi0,λi a1 a2=>?_,λa1=>?_,λi a1=>?_,oG⟩
 ·rcases c.pen with H|⟨r,H,a0,⟨o,ho,o1,X,o3,_⟩,_⟩;·exact .inl (f.trans H)
  ·right;have q:(s.ops.findIdx? (mF k (s.lv.getD k 0) r.op)).isSome=true:=by
    rw[List.findIdx?_isSome,List.any_eq_true];refine⟨o,ho,?_⟩;have C:o.lf=s.lv.getD k 0:=by rw[X];exact w
    unfold mF;rw[o1,C,o3];simp
   obtain⟨p,z⟩:=Option.isSome_iff_exists.1 q;obtain⟨A,m1,m2⟩:=List.findIdx?_eq_some_iff_getElem.1 z;subst H;unfold mF at m1;simp only[Bool.and_eq_true,beq_iff_eq]at m1;obtain⟨⟨t1,M,O,R,t5⟩,_⟩:=c.told j l A ⟨m1.1,by rw[w];exact m1.2.1,m1.2.2⟩;refine⟨r,p,f,z,A,⟨t1,?_,M.symm,λb=>(O b).symm⟩,λ_=>t5.imp id ?_⟩
   ·rcases R with b|⟨b,B⟩;·simp[b]
    ·simp[b,B]
   ·rintro⟨W,Q,b2,U,b4⟩;exact⟨W,Q,by unfold pN;rw[b2,U,b4];simp⟩
 ·have b:=c.same j l a2 (by simp only[a];omega);simp only[a]at b;unfold AG.Du.rc at b;rw[Int.toNat_natCast,List.getD_eq_getElem?_getD,List.getElem?_eq_getElem a1]at b;exact b
 ·have hl:=c.hi0;have b:=x (s.hi.length-1) oG;have v:=t (s.hi.length-1) oG;have B:=M1 v.1 b;have F:(⟨((s.hi.length-1:Nat):Int)+1,(s.nd k).d.recs[s.hi.length-1+1].P,(s.nd k).d.recs[s.hi.length-1+1].S⟩:eH)=(s.nd k).d.recs[s.hi.length]:=by have e3:=(t s.hi.length a1).2;have e4:s.hi.length-1+1=s.hi.length:=oG;simp only[e4];rw[show((s.hi.length-1:Nat):Int)+1=(s.hi.length:Int) by omega,←e3]
  rw[F]at B;exact B
 ·have v:=t i a1;refine⟨v.1,by rw[v.2];omega,λL=>?_⟩;obtain⟨i',rfl⟩:∃y,i=y+1:=⟨i-1,oG⟩;have b:=x i' a1;exact⟨b.2.2.2.1,b.2.2.2.2.1⟩
def AG.CI.free{n nb:Int}{x:Int->AG.Nd}{sn:AG.Ms->Prop}{g:AG.Gh}{u:AG.Gv}{lv:Int->Int}{ops:List AG.As}{rs:List dJ}{hi:List eH}{k:Int}(c:AG.CI n nb x sn g u lv ops rs hi k [])(a:∀j,0<=j->j<n->(x j).d.ep<hi.length)(h:Int):AG.CI n nb x sn g u lv ops rs hi h []:=⟨c.inv,c.num,c.oh,c.qy,c.lnk,c.og,c.qg,λe b=>by have f:=c.res e b;simp only[ite_self]at f⊢;exact f,.inl rfl,c.hi0,c.hik,λ{j} e b=>.inl (a j e b)⟩
def AG.qx{α:Type}(x:Int->α)(k:Int)(a:α)(h:a=x k):AG.upd x k a=x:=by
 funext j;by_cases b:j=k;·subst b;rw[AG.upd_self];exact h
 ·rw[AG.upd_ne b]
def yA(s:CS)(i:Nat):(s.tell i).nb=s.nb/\(s.tell i).lv=s.lv/\(s.tell i).net=s.net/\(s.tell i).ops.length=s.ops.length/\(s.tell i).rs.length<=s.rs.length+1/\(s.tell i).rd.length<=s.rd.length+1:=by
 unfold CS.tell;split;·exact⟨rfl,rfl,rfl,rfl,oG,oG⟩
 ·split;·exact⟨rfl,rfl,rfl,rfl,oG,oG⟩
  ·exact⟨rfl,rfl,rfl,sG,sG,sG⟩
section
variable {s:CS} {n:Nat} {sn:AG.Ms->Prop} {g:AG.Gh} {u:AG.Gv} {k N:Nat} {pend:List dJ}
def DK(h:Gd s n sn g u k pend N)(H:k<n):AG.CI (n:Int) s.nb (AG.upd s.xf (k:Int) {s.nd k with res:=[]}) sn g u s.lf (s.tell k).ops (s.tell k).rs s.hi (k:Int) []/\∃y,AG.LI (n:Int) s.nb (AG.vws s.xf) sn u s.lf (s.tell k).ops (s.tell k).rs (s.tell k).rd (k:Int) [] y:=by
 obtain⟨y,hy⟩:=h.li;have c:=h.ci;have v:(0:Int)<=(k:Int):=Int.natCast_nonneg k;have w:(k:Int)<(n:Int):=oG;have j:=gL s k;have i:=pX s k;have a:=c.res v w;simp only[j,if_true]at a;rcases c.pen with l|⟨r,l,q,⟨o,x,E,C,z,_⟩,_⟩
 ·subst l;have e:s.tell k=s:=by unfold CS.tell;rw[a]
  rw[e,AG.qx];·exact⟨c,y,hy⟩
  ·rw[j];have t:∀y:AG.Nd,y.res=[]->({y with res:=[]}:AG.Nd)=y:=by intro y hy;cases y;dsimp only at hy;subst hy;rfl
   exact t _ a
 ·subst l;have f:(s.ops.findIdx? (mF k (s.lv.getD k 0) r.op)).isSome=true:=by
   rw[List.findIdx?_isSome,List.any_eq_true];refine⟨o,x,?_⟩;have m:o.lf=s.lv.getD k 0:=by rw[C];exact i
   unfold mF;rw[E,m,z];simp
  obtain⟨p,b⟩:=Option.isSome_iff_exists.1 f;obtain⟨d,m1,F⟩:=List.findIdx?_eq_some_iff_getElem.1 b;unfold mF at m1;simp only[Bool.and_eq_true,beq_iff_eq]at m1;have t:=(c.told v w d ⟨m1.1,by rw[i];exact m1.2.1,m1.2.2⟩).2;have A:(s.tell k).ops=s.ops.set p {s.ops[p] with dn:=true}:=by unfold CS.tell;rw[a];simp only[b];rw[List.getD_eq_getElem?_getD,List.getElem?_eq_getElem d];rfl
  have D:(s.tell k).rs=s.rs++[r]:=by unfold CS.tell;rw[a];simp only[b]
  have B:(s.tell k).rd=s.rd++[s.ops[p].rd]:=by unfold CS.tell;rw[a];simp only[b];rw[List.getD_eq_getElem?_getD,List.getElem?_eq_getElem d];rfl
  rw[A,D,B,←j];exact⟨t,y,hy.told q c.qy d ⟨m1.1,by rw[i];exact m1.2.1,m1.2.2⟩⟩
def M2(h:Gd s n sn g u k pend N)(x:k<n)(K:Nat):Gd (s.look k) n sn g u K [] (N+1):=by
 have c:=h.ci;have w:(0:Int)<=(k:Int):=Int.natCast_nonneg k;have B:(k:Int)<(n:Int):=oG;have b:=gL s k;have l:=yA s k;have i:(s.look k).xf=AG.upd s.xf (k:Int) {s.nd k with res:=[]}:=xZ (by rw[h.ns];exact x) rfl;have o:(s.look k).lf=s.lf:=by funext j;unfold CS.lf;show(if 0<=j then(s.tell k).lv.getD j.toNat 0 else 0)=_;rw[l.2.1]
 have M:(s.nd k).d.ep=((s.nd k).d.recs.length:Int) - 1:=rfl;have Q:0<=(s.nd k).d.ep:=by have:=(c.inv.own w B).i0.2.2.2.2;simp only[b]at this;exact this
 have A:=c.hiu w B;simp only[b]at A;have a:∀j,(AG.upd s.xf (k:Int) {s.nd k with res:=[]} j).d=(s.xf j).d:=by
  intro j;by_cases t:j=(k:Int);·subst t;rw[AG.upd_self,b]
  ·rw[AG.upd_ne t]
 have r:AG.CI (n:Int) s.nb (s.look k).xf sn g u s.lf (s.tell k).ops (s.tell k).rs (s.look k).hi (k:Int) []/\∀j,0<=j->j<(n:Int)->((s.look k).xf j).d.ep<((s.look k).hi.length:Int):=by
  have f:=(DK h x).1;rw[i];have m:(s.look k).hi=s.hi++(s.nd k).d.recs.drop s.hi.length:=rfl;by_cases H:(s.nd k).d.ep=(s.hi.length:Int)
  ·have E:=f.seen w B (by rw[a,b];exact H);rw[a,b]at E;have C:(s.nd k).d.recs.drop s.hi.length=[(s.nd k).d.rc (s.hi.length:Int)]:=by have F:s.hi.length<(s.nd k).d.recs.length:=oG;rw[List.drop_eq_getElem_cons F,List.drop_of_length_le oG];unfold AG.Du.rc;rw[Int.toNat_natCast,List.getD_eq_getElem?_getD,List.getElem?_eq_getElem F];rfl
   rw[m,C];refine⟨E,λj D v=>?_⟩;rw[a,List.length_append];have q:=c.hiu D v;simp only[List.length_cons,List.length_nil];omega
  ·have C:(s.nd k).d.recs.drop s.hi.length=[]:=List.drop_of_length_le oG;rw[m,C,List.append_nil];refine⟨f,λj D v=>?_⟩;rw[a];rcases c.hiu D v with q|⟨rfl,q⟩;·exact q
   ·rw[b]at q;exact absurd q H
 refine⟨?_,?_,?_,?_,?_,?_⟩;·rw[o,show(s.look k).nb=s.nb from l.1];exact r.1.free r.2 _
 ·show(s.ns.set k _).length=n;rw[List.length_set];exact h.ns
 ·intro j t;show(s.kn.set k ((s.nd k).d.recs.length:Int)).getD j 0<=_;have e:((s.look k).nd j).d=(s.nd j).d:=by have f:=congrFun i (j:Int);rw[gL]at f;rw[f,a,gL]
  rw[e];by_cases p:j=k
  ·subst p;rw[List.getD_eq_getElem?_getD,List.getElem?_set];simp only[if_true];split;·exact Int.le_refl _
   ·exact Int.natCast_nonneg _
  ·rw[List.getD_eq_getElem?_getD,List.getElem?_set_ne (λf=>p f.symm),←List.getD_eq_getElem?_getD];exact h.kn j t
 ·have O:=h.bd;refine⟨?_,?_,?_,?_,?_⟩;·show(s.tell k).ops.length<=_;rw[l.2.2.2.1];omega
  ·show(s.tell k).rs.length<=_;omega
  ·show(s.tell k).rd.length<=_;omega
  ·show(s.hi++(s.nd k).d.recs.drop s.hi.length).length<=_;rw[List.length_append,List.length_drop];omega
  ·show(s.tell k).net.length<=_;rw[l.2.2.1];omega
 ·intro z L;exact h.nt z (by have f:z∈(s.tell k).net:=L;rw[l.2.2.1]at f;exact f)
 ·obtain⟨y,hy⟩:=(DK h x).2;rw[o,show(s.look k).nb=s.nb from l.1,i,AG.vws_at _ _ _ (by rw[b];rfl)];exact⟨y,hy.free _⟩
end
def fP(s:CS)(n N:Nat):Prop:=∃sn g u,∀k,Gd s n sn g u k [] N
def jF(s:CS)(n k N:Nat):Prop:=∃sn g u pend,Gd s n sn g u k pend N
section
variable {s:CS} {n k N:Nat}
def fP.gp(h:fP s n N)(k:Nat):jF s n k N:=let ⟨sn,g,u,h⟩:=h;⟨sn,g,u,[],h k⟩
def jF.look(h:jF s n k N)(b:k<n):fP (s.look k) n (N+1):=let ⟨sn,g,u,_,h⟩:=h;⟨sn,g,u,λa=>M2 h b a⟩
def jF.lk(h:jF s n k N)(a:k<n)(b:N<=100000000):qE s k:=let ⟨_,_,_,_,h⟩:=h;O9 h a b
def fP.lt{sn:AG.Ms->Prop}{g:AG.Gh}{u:AG.Gv}(h:∀k,Gd s n sn g u k [] N){j:Nat}(b:j<n):(s.nd j).d.ep<s.hi.length:=by
 have a:=(h (j+1)).ci.hiu (j:=(j:Int)) oG oG;rw[gL]at a;rcases a with a|⟨a,_⟩;·exact a
 ·omega
def sW{s':CS}{sn:AG.Ms->Prop}{g:AG.Gh}{u:AG.Gv}{c:List dJ}(h:Gd s n sn g u k c N)(x:k<n){a:AG.Nd}{out:List (Int×AG.Ms)}(v:s'.ns=s.ns.set k a)(r:s'.net=s.net++out)(w:s'.nb=s.nb)(m:s'.rs=s.rs)(p:s'.hi=s.hi)(A:s'.kn=s.kn)(q:s'.rd=s.rd)(E:s'.ops.length<=s.ops.length+1)(o:∃g' u' pend,AG.CI (n:Int) s.nb (AG.upd s.xf (k:Int) a) (λy=>sn y∨∃z∈out,y=z.2) g' u' s'.lf s'.ops s.rs s.hi (k:Int) pend/\∃y,AG.LI (n:Int) s.nb (AG.vws (AG.upd s.xf (k:Int) a)) (λy=>sn y∨∃z∈out,y=z.2) u' s'.lf s'.ops s.rs s.rd (k:Int) pend y)(B:(s.nd k).d.ep<=a.d.ep)(H:out.length<=12):jF s' n k (N+12):=by
 obtain⟨g',u',pend,o,hy⟩:=o;have i:k<s.ns.length:=by rw[h.ns];exact x
 have b:=xZ i v;refine⟨(λy=>sn y∨∃z∈out,y=z.2),g',u',pend,?_,?_,?_,?_,?_,by rw[b,w,m,q];exact hy⟩;·rw[b,w,m,p];exact o
 ·rw[v,List.length_set];exact h.ns
 ·intro j C;have f:=h.kn j C;rw[A];by_cases l:j=k
  ·subst l;have e:s'.nd j=a:=by rw[←gL,b,AG.upd_self]
   rw[e];have F:((s.nd j).d.recs.length:Int) - 1<=(a.d.recs.length:Int) - 1:=B;omega
  ·have e:s'.nd j=s.nd j:=by rw[←gL,b,AG.upd_ne oG,gL]
   rw[e];exact f
 ·have D:=h.bd;rw[r,m,p,q,List.length_append];omega
 ·intro z t;rw[r]at t;rcases List.mem_append.1 t with f|f;·exact .inl (h.nt z f)
  ·exact .inr ⟨z,f,rfl⟩
def yB{sn:AG.Ms->Prop}{g:AG.Gh}{u:AG.Gv}{a:List dJ}(h:Gd s n sn g u k a N)(b:k<n){r:AG.Nd×List (Int×AG.Ms)}(f:∃g' u' pend,AG.CI (n:Int) s.nb (AG.upd s.xf (k:Int) r.1) (λy=>sn y∨∃z∈r.2,y=z.2) g' u' s.lf s.ops s.rs s.hi (k:Int) pend/\∃y,AG.LI (n:Int) s.nb (AG.vws (AG.upd s.xf (k:Int) r.1)) (λy=>sn y∨∃z∈r.2,y=z.2) u' s.lf s.ops s.rs s.rd (k:Int) pend y)(e:(s.nd k).d.ep<=r.1.d.ep)(c:r.2.length<=12):jF (s.put k r) n k (N+12):=sW h b (s':=s.put k r) rfl rfl rfl rfl rfl rfl rfl (Nat.le_succ _) f e c
def OH{a b:AG.Nd}(h:AG.Opk a b):a.d.ep<=b.d.ep:=by rcases h.ep with c|c<;>omega
def fP.opk(h:fP s n N)(d:k<n){r:AG.Nd×List (Int×AG.Ms)}(c:AG.Opk (s.nd k) r.1)(i:r.2.length<=12)(o:∀{sn g u},AG.Inv (n:Int) s.nb s.xf sn g u->(∀z∈s.net,sn z.2)->AG.Call (n:Int) s.nb s.xf sn u (k:Int) r.1 r.2 u.wr/\AG.Vc sn (s.xf (k:Int)) r.1 r.2):jF (s.put k r) n k (N+12):=by
 obtain⟨sn,g,u,h⟩:=h;have a:=h k;refine yB a d ?_ (OH c) i;obtain⟨m,f⟩:=o a.ci.inv a.nt;have b:AG.Opk (s.xf (k:Int)) r.1:=by rw[gL];exact c
 obtain⟨g',u',l,j⟩:=a.ci.opk oG oG (by rw[gL];exact fP.lt h d) m b;obtain⟨y,hy⟩:=a.li;exact⟨g',u',[],l,hy.call a.ci.inv oG oG j f (λ_ _=>rfl) (b.on.imp id (λe=>⟨e.1,e.2,rfl⟩))⟩
def fP.bd(h:fP s n N):s.ops.length<=N/\s.rs.length<=N/\s.rd.length<=N/\s.hi.length<=N/\s.net.length<=N:=by obtain⟨_,_,_,h⟩:=h;exact(h 0).bd
def fP.nn(h:fP s n N):(2<=n/\n<=5)/\s.ns.length=n:=by obtain⟨sn,g,u,h⟩:=h;have a:=(h 0).ci.inv.nn;exact⟨oG,(h 0).ns⟩
def fP.ids(h:fP s n N){k:Nat}(b:k<n):(s.nd k).id=(k:Int)/\(s.nd k).nodes=(n:Int)/\(s.nd k).nb=s.nb:=by obtain⟨sn,g,u,h⟩:=h;have a:=((h 0).ci.inv.own (j:=(k:Int)) oG oG).i0;rw[gL]at a;exact⟨a.1,a.2.2.1,a.2.2.2.1⟩
def jF.ids(h:jF s n k N){j:Nat}(b:j<n):(s.nd j).id=(j:Int)/\(s.nd j).nodes=(n:Int)/\(s.nd j).nb=s.nb:=by obtain⟨sn,g,u,pend,h⟩:=h;have a:=(h.ci.inv.own (j:=(j:Int)) oG oG).i0;rw[gL]at a;exact⟨a.1,a.2.2.1,a.2.2.2.1⟩
def EM{N':Nat}(h:fP s n N)(c:k<n){f:Bool->AG.Nd×List (Int×AG.Ms)}(d:∀ok,∃s':CS,s'.ns=s.ns.set k (f ok).1/\s'.nb=s.nb/\jF s' n k N')(g:∀ok,(f ok).2.length<=12):qF s k f:=by
 refine⟨λok=>?_,λok=>Nat.le_trans (g ok) oG⟩;obtain⟨s',j,i,l⟩:=d ok;have e:s'.nd k=(f ok).1:=by rw[←gL,xZ (s:=s) (by rw[h.nn.2];exact c) j,AG.upd_self]
 have a:=l.ids c;have b:=h.ids c;rw[e]at a;exact⟨a.1.trans b.1.symm,a.2.1.trans b.2.1.symm,by rw[a.2.2,b.2.2,i]⟩
def fP.gq(h:fP s n N)(a:k<n)(set:Int)(ok:Bool):jF (s.put k (((s.nd k).gq set ok).1,((s.nd k).gq set ok).2.1)) n k (N+12):=by
 have hi:=h.ids a;have d:=h.nn;refine h.opk a (AG.Opk.gq _ _ _) ?_ (λc _=>?_);·have:=AG.promote_len (s.nd k) set ok;rw[hi.2.1]at this;dsimp only;omega
 ·have b:=c.gq (j:=(k:Int)) oG oG set ok;rw[gL]at b⊢;exact⟨b,AG.pro_v _ _ _⟩
def fP.admi(h:fP s n N)(a:k<n)(node:Int)(ok:Bool)(i:N<=100000000):jF (s.put k (((s.nd k).admi node ok).1,((s.nd k).admi node ok).2.1)) n k (N+12):=by
 have hi:=h.ids a;have l:=h.nn;have f:(s.nd k).d.ep<1000000000000:=by obtain⟨sn,g,u,h⟩:=h;have:=fP.lt h a;have:=(h 0).bd;omega
 refine h.opk a (AG.Opk.admi _ _ _) ?_ (λc _=>?_);·have:=AG.admit_len (s.nd k) node ok;dsimp only;omega
 ·have b:=c.admi (j:=(k:Int)) oG oG node ok (by rw[gL];exact f);have e:=c.adm_v (j:=(k:Int)) oG oG node ok;rw[gL]at b e⊢;exact⟨b,e⟩
def AG.mr(n:AG.Nd)(ok:Bool)(d:2<=n.nodes/\n.nodes<=5):(n.retry ok).2.length<=12:=by
 unfold AG.Nd.retry;split;·exact Nat.zero_le _
 ·dsimp only;rw[List.length_append];have c:=AG.pursue_len n ok;have e:(n.iq ok).1.nodes=n.nodes:=by
   unfold AG.Nd.iq;split;·rfl
   split;·rfl
   ·unfold AG.Nd.prepare;dsimp only;split;·rfl
    ·have a:∀m,(n.iy m ok).1.nodes=n.nodes:=by
      intro m;unfold AG.Nd.iy;dsimp only;split;·rfl
      split;·rfl
      split;·rfl
      split<;>rfl
     split;·exact a _
     ·exact a _
  split;·rw[AG.tell_len];have b:=AG.miss_len (n.iq ok).1;rw[e]at b;omega
  ·simp only[List.length_nil];omega
def fP.retry(h:fP s n N)(a:k<n)(ok:Bool):jF (s.put k ((s.nd k).retry ok)) n k (N+12):=by have hi:=h.ids a;have d:=h.nn;refine h.opk a (AG.Opk.retry _ _) (AG.mr _ _ (by rw[hi.2.1];omega)) (λc _=>?_);have b:=c.retry (j:=(k:Int)) oG oG ok;rw[gL]at b⊢;exact⟨b,AG.ret_v _ _⟩
end
namespace AG
def finish_d(y:Nd):y.finish.d=y.d:=by unfold Nd.finish;split<;>rfl
def wrote_d(y:Nd)(m:Ms):(y.wrote m).d=y.d:=by
 unfold Nd.wrote;by_cases h:0<y.on/\m.e=y.ow.e/\m.q=y.ow.q;·rw[if_pos h];exact finish_d _
 ·rw[if_neg h]
def Opk.receive(y:Nd)(m:Ms)(ok:Bool)(b:m.k≠8):Opk y (y.receive m ok).1:=by
 unfold Nd.receive;split;·exact Opk.refl y
 split;·rename_i a;exact Opk.iy y a ok
 split;·exact Opk.promised y m ok
 split;·exact Opk.accepted y m ok
 split;·exact Opk.refused y m
 split;·rename_i a;exact Opk.decided y a ok
 split;·rename_i a;exact Opk.update y a ok
 split;·exact Opk.copied y m ok
 ·exact Opk.refl y
def CI.rev{n nb:Int}{x:Int->Nd}{sn:Ms->Prop}{g:Gh}{u:Gv}{lv:Int->Int}{ops:List As}{rs:List Rs}{hi:List Rc}{k:Int}{pend:List Rs}{o:As}(c:CI n nb x sn g u lv (ops++[o]) rs hi k pend)(f:o.rd=true)(v:Int):CI n nb x sn g u lv (ops++[{o with v:=v}]) rs hi k pend:=by
 have up:∀{Q:As->Prop},(∀q:As,q.rd=true->Q q->Q {q with v:=v})->(∃q∈ops++[o],Q q)->∃q∈ops++[{o with v:=v}],Q q:=by
  rintro Q A ⟨q,l,d⟩;rcases List.mem_append.1 l with e|e;·exact⟨q,List.mem_append_left _ e,d⟩
  ·simp only[List.mem_singleton]at e;subst e;exact⟨_,List.mem_append_right _ (List.mem_singleton.2 rfl),A q f d⟩
 refine⟨c.inv,λq l=>?_,c.oh,?_,λH z j=>?_,c.og,λD=>?_,c.res,?_,c.hi0,c.hik,c.hiu⟩
 ·rcases List.mem_append.1 l with e|e;·exact c.num q (List.mem_append_left _ e)
  ·simp only[List.mem_singleton]at e;subst e;exact c.num o (List.mem_append_right _ (List.mem_singleton.2 rfl))
 ·have d:=c.qy;rw[List.pairwise_append]at d⊢;refine⟨d.1,sG,λa K b w=>?_⟩;simp only[List.mem_singleton]at w;subst w;exact d.2.2 a K o (List.mem_singleton.2 rfl)
 ·refine up (Q:=λo=>_) (λq f h=>?_) (c.lnk H z j);obtain⟨a1,t,m,s,p,F,i⟩:=h;exact⟨a1,t,m,s,p,λd=>absurd (f.symm.trans d) sG,i⟩
 ·refine up (Q:=λo=>_) (λq f h=>?_) (c.qg D);rw[f]at h;exact absurd h.1 sG
 ·rcases c.pen with d|⟨r,C,y,E,B⟩;·exact .inl d
  ·refine .inr ⟨r,C,y,up (Q:=λo=>_) (λq f h=>?_) E,B⟩;obtain⟨a1,t,m,s,p,F,i⟩:=h;exact⟨a1,t,m,s,p,λd=>absurd (f.symm.trans d) sG,i⟩
end AG
def OI(rs:List dJ):((kN rs).1 = -1/\(kN rs).2=0)∨∃r∈rs,r.e=(kN rs).1/\r.q=(kN rs).2:=by
 have b:∀(l:List dJ) (p:Int×Int),l.foldl pJ p=p∨∃r∈l,r.e=(l.foldl pJ p).1/\r.q=(l.foldl pJ p).2:=by
  intro l;induction l with
  |nil=>intro p;exact .inl rfl
  |cons r l ih=>
   intro p;rw[List.foldl_cons];rcases ih (pJ p r) with a|⟨c,f,d⟩
   ·rw[a];unfold pJ;cases decide (p.1<r.e)||((r.e==p.1)&&decide (p.2<r.q));·exact .inl rfl
    ·exact .inr ⟨r,List.mem_cons_self,rfl,rfl⟩
   ·exact .inr ⟨c,List.mem_cons_of_mem _ f,d⟩
 rcases b rs (-1,0) with a|a;·left;unfold kN;rw[a];exact⟨rfl,rfl⟩
 ·exact .inr a
section
variable {s:CS} {n k N:Nat}
def fP.receive(h:fP s n N)(q:k<n){j:Int}{m:AG.Ms}(r:(j,m)∈s.net)(D:0<=m.e)(ok:Bool):jF (s.put k ((s.nd k).receive m ok)) n k (N+12):=by
 have hi:=h.ids q;have F:=h.nn;have o:((s.nd k).receive m ok).2.length<=12:=by have:=AG.receive_len (s.nd k) m ok;rw[hi.2.1]at this;omega
 have t:∀{sn g u},AG.Inv (n:Int) s.nb s.xf sn g u->(∀z∈s.net,sn z.2)->AG.Call (n:Int) s.nb s.xf sn u (k:Int) ((s.nd k).receive m ok).1 ((s.nd k).receive m ok).2 u.wr:=by intro sn g u B v;have c:=B.receive (j:=(k:Int)) oG oG (v _ r) D ok;rw[gL]at c;exact c
 by_cases p:m.k=8
 ·by_cases A:(s.nd k).down=true∨m.f=(s.nd k).id∨(s.nd k).nodes<=m.f
  ·have e:(s.nd k).receive m ok=(s.nd k,[]):=by unfold AG.Nd.receive;rw[if_pos A]
   rw[e]at t o⊢;exact h.opk q (AG.Opk.refl _) o (λa b=>⟨t a b,by rw[gL];exact .je (.inl (.refl _)) .nil⟩)
  ·obtain⟨sn,g,u,h⟩:=h;have i:=h k;have e:(s.nd k).receive m ok=((s.nd k).wrote m,[]):=by unfold AG.Nd.receive;rw[if_neg A,p];rfl
   rw[e]at o⊢;refine yB i q ?_ ?_ o;·obtain⟨g',u',pend,c,C⟩:=i.ci.wrote oG oG (by rw[gL];exact fP.lt h q) p (i.nt _ r);obtain⟨y,hy⟩:=i.li;have w:=i.ci.res (j:=(k:Int)) oG oG;have l:=c.res (j:=(k:Int)) oG oG;rw[if_pos rfl]at w l;rw[AG.upd_self]at l;have x:=hy.wrote i.ci.inv oG oG p (i.nt _ r) w C l.symm;rw[gL]at c x;exact⟨g',u',pend,c,x⟩
   ·have E:=i.ci.inv.own (j:=(k:Int)) oG oG;have c:=AG.wrote_d (s.nd k) m;show(s.nd k).d.ep<=((s.nd k).wrote m).d.ep;rw[c];exact Int.le_refl _
 ·exact h.opk q (AG.Opk.receive _ _ _ p) o (λa b=>⟨t a b,by have c:=a.rcv_v (j:=(k:Int)) oG oG (b _ r) p ok;rw[gL]at c⊢;exact c⟩)
def fP.run(h:fP s n N)(A:k<n)(z:k<s.lv.length){n':AG.Nd}(K:Cr (s.nd k) n'):jF (s.run k n') n k (N+12):=by
 obtain⟨sn,g,u,h⟩:=h;have c:=h k;have v:(s.xf (k:Int)).d.ep<s.hi.length:=by rw[gL];exact fP.lt h A
 have x:(s.run k n').lf=AG.upd s.lf (k:Int) (s.lf (k:Int)+1):=by
  funext j;by_cases f:j=(k:Int);·subst f;rw[pX,AG.upd_self,pX];show(s.lv.set k _).getD k 0=_;rw[List.getD_eq_getElem?_getD,List.getElem?_set_self z];rfl
  ·rw[AG.upd_ne f];unfold CS.lf;split;·show(s.lv.set k _).getD j.toNat 0=_;rw[List.getD_eq_getElem?_getD,List.getElem?_set_ne oG,←List.getD_eq_getElem?_getD]
   ·rfl
 have q:∀(a:AG.Nd) (l:List (Int×PV)),a.on=0/\a.ops=0/\a.res=[]->(a.d.ep=(s.nd k).d.ep∨a.d.ep=(s.nd k).d.ep+1)->AG.Call (n:Int) s.nb s.xf sn u (k:Int) a [] u.wr->AG.Vc sn (s.xf (k:Int)) a []->(∀e,dH l e=dH a.d.dw e)->n'=a.swp l->jF (s.run k n') n k (N+12):=by
  intro a l m p F w E C;obtain⟨y,hy⟩:=c.li;obtain⟨g',u',b,t⟩:=c.ci.ni oG oG v F m (by rw[gL];exact p);have o:=b.swap (j:=(k:Int)) (l:=l) (by rw[AG.upd_self];exact E);rw[AG.upd_self]at o;have r:=hy.call (lv':=AG.upd s.lf (k:Int) (s.lf (k:Int)+1)) c.ci.inv oG oG t w (λi hi=>AG.upd_ne hi) (.inl m.1);have e:AG.upd (AG.upd s.xf (k:Int) a) (k:Int) (a.swp l)=AG.upd s.xf (k:Int) n':=by
   funext j;by_cases f:j=(k:Int);·subst f;rw[AG.upd_self,AG.upd_self,C]
   ·rw[AG.upd_ne f,AG.upd_ne f,AG.upd_ne f]
  rw[e]at o;rw[←AG.vws_at (AG.upd s.xf (k:Int) a) (k:Int) (a.swp l) (by rw[AG.upd_self];rfl),e]at r;refine sW c A (s':=s.run k n') (out:=[]) rfl (List.append_nil _).symm rfl rfl rfl rfl rfl (Nat.le_succ _) ⟨g',u',[],by rw[x];exact⟨o,r⟩⟩ ?_ sG;have B:n'.d.ep=a.d.ep:=by rw[C];rfl
  omega
 rcases K with⟨l,m,p⟩|⟨r,l,m,p⟩;·refine q ((s.nd k).fresh (s.nd k).d) l ⟨rfl,rfl,rfl⟩ (.inl rfl) ?_ (.inl ⟨by rw[gL];exact⟨rfl,rfl,rfl,λb=>by simp[AG.Nd.fresh,AG.Nd.stand]at b,λb=>by simp[AG.Nd.fresh,AG.Nd.stand]at b⟩,λb=>by simp[AG.Nd.fresh]at b,sG⟩) p m;have b:=c.ci.inv.rq (j:=(k:Int));rw[gL]at b;refine⟨g,u,_,λj H D=>(show(s.xf j).d.ep<=(s.hi.length:Int) from ?_),oG,AG.Grv.refl _ _,rfl,b.nil,sG⟩;rcases c.ci.hiu H D with B|B<;>omega
 ·have b:=c.ci.inv.crash1 (j:=(k:Int)) oG oG (by rw[gL];exact r);have o:=c.ci.inv.cr_v (j:=(k:Int)) oG oG (by rw[gL];exact r);rw[gL]at b o;refine q ((s.nd k).fresh ((s.nd k).d.step (s.nd k).tr)) l ⟨rfl,rfl,rfl⟩ ?_ b (by rw[gL];exact o) p m;show((s.nd k).d.step (s.nd k).tr).ep=_∨((s.nd k).d.step (s.nd k).tr).ep=_;by_cases t:(s.nd k).tr.k=6;·right;unfold AG.Du.step;rw[t];show(((s.nd k).d.recs++[_]).length:Int) - 1=((s.nd k).d.recs.length:Int) - 1+1;rw[List.length_append];simp
  ·exact .inl (AG.step_ep _ t)
def fP.drop(h:fP s n N)(k:Nat):fP (s.drop k) n N:=by
 obtain⟨sn,g,u,h⟩:=h;refine⟨sn,g,u,λj=>?_⟩;have a:=h j;refine⟨a.ci,a.ns,a.kn,?_,λz d=>a.nt z ?_,a.li⟩;·have b:=a.bd;refine⟨b.1,b.2.1,b.2.2.1,b.2.2.2.1,?_⟩;show(s.net.take k++s.net.drop (k+1)).length<=N;rw[List.length_append,List.length_take,List.length_drop];omega
 ·rcases List.mem_append.1 (show z∈s.net.take k++s.net.drop (k+1) from d) with c|c;·exact List.mem_of_mem_take c
  ·exact List.mem_of_mem_drop c
def OJ(s:CS)(k:Nat):s.ns.set k (s.nd k)=s.ns:=by
 by_cases h:k<s.ns.length;·rw[CS.lg h];exact List.set_getElem_self h
 ·exact List.set_eq_of_length_le oG
def fP.oper(h:fP s n N)(E:k<n)(b:Int)(rd ok:Bool)(a0:1<=s.nb):jF (s.oper k b rd ok) n k (N+12):=by
 have hi:=h.ids E
 have hn:=h.nn
 have U:(s.jm k b rd ok).2.1.length<=12:=by unfold CS.jm;have:=AG.operate_len (s.nd k) (s.bl b) (bif rd then(s.nd k).d.bk (s.bl b) else 1+(s.ops.length:Int)) ok;rw[hi.2.1]at this;omega
 obtain⟨sn,g,u,h⟩:=h
 have e:=h k
 obtain⟨y,hy⟩:=e.li
 have r:(0:Int)<=(k:Int):=Int.natCast_nonneg k
 have t:(k:Int)<(n:Int):=oG
 have c:=gL s k
 have l:=e.ci.res r t
 rw[if_pos rfl]at l
 have D:(s.xf (k:Int)).d.ep<s.hi.length:=by rw[gL];exact fP.lt h E
 have K:0<=s.bl b/\s.bl b<s.nb:=by unfold CS.bl;exact⟨Int.emod_nonneg _ oG,Int.emod_lt_of_pos _ oG⟩
 obtain⟨V,C⟩:∃y,(bif rd then(s.nd k).d.bk (s.bl b) else 1+(s.ops.length:Int))=y:=⟨_,rfl⟩
 have F:s.jm k b rd ok=(s.nd k).operate (s.bl b) V ok:=by unfold CS.jm;rw[C]
 have p:AG.CI (n:Int) s.nb s.xf sn g u s.lf (s.ops++[s.asd k b 0 rd true]) s.rs s.hi (k:Int) []:=e.ci.mute rfl (by show s.lv.getD k 0<=s.lf (k:Int);rw[pX];exact Int.le_refl _) ⟨r,t⟩
 by_cases x:(s.nd k).jv ((s.nd k).blk (s.bl b))=0
 · cases ok
   ·
     have o:∃m,(s.nd k).operate (s.bl b) V false=((s.nd k).fall m,[],3):=by unfold AG.Nd.operate;rw[if_neg (by simp[x])];exact⟨_,rfl⟩
     obtain⟨m,o⟩:=o
     have w:=λ(W:Int->Int->Prop) (X:∀{i v},u.wr i v->W i v) (hv:V=0∨W (s.bl b) V)=>e.ci.inv.operate (j:=(k:Int)) r t (s.bl b) V false X hv (by rw[c];exact x)
     simp only[c,o]at w
     cases rd
     · have A:s.oper k b false false={s with ns:=s.ns.set k ((s.nd k).fall m),ops:=s.ops++[s.asd k b 0 false true]}:=by
        unfold CS.oper;rw[F,o];simp
       rw[A]
       refine sW e E (a:=(s.nd k).fall m) (out:=[]) rfl (List.append_nil _).symm rfl rfl rfl rfl rfl sG ?_ (Int.le_refl _) sG
       have q:V=1+(s.ops.length:Int):=by rw[←C];rfl
       have H:=w (λi v=>u.wr i v∨(i=s.bl b/\v=V)) (λf=>.inl f) (.inr (.inr ⟨rfl,rfl⟩))
       obtain⟨g',u',f,M⟩:=p.call r t D H (λ{i v} Q=>by
        rcases Q with Q|⟨rfl,rfl⟩
        · exact p.qg Q
        · exact⟨_,List.mem_append_right _ (List.mem_singleton.2 rfl),rfl,rfl,q.symm⟩) (by rw[c];rfl) (.inl rfl) (.inl (by rw[c];rfl)) (pend:=[]) (by have S:=e.ci.res r t;rw[c,if_pos rfl]at S;exact S) (.inl rfl)
       have B:=hy.oper e.ci.inv r t (s.bl b) V false (u':=u') (by rw[c];exact x) l (by rw[c,o];exact M) (pend:=[]) (by rw[c,o];rw[c]at l;exact l.symm) (os:=[s.asd k b 0 false true]) (.inr ⟨by rw[q];omega,sG⟩) sG
       rw[c,o]at B
       exact⟨g',u',[],f,B⟩
     · have A:s.oper k b true false=s.put k ((s.nd k).fall m,[]):=by
        unfold CS.oper;rw[F,o];simp[CS.put]
       rw[A]
       refine yB e E ?_ (Int.le_refl _) sG
       have q:V=(s.nd k).d.bk (s.bl b):=by rw[←C];rfl
       have H:=w u.wr (λf=>f) (by have f:=(e.ci.inv.own r t).bv K.1 K.2;rw[c,←q]at f;exact f)
       obtain⟨g',u',f,M⟩:=e.ci.opk r t D H (by rw[c];exact AG.Opk.fall _ _)
       have B:=hy.oper e.ci.inv r t (s.bl b) V false (u':=u') (by rw[c];exact x) l (by rw[c,o];exact M) (pend:=[]) (by rw[c,o];rw[c]at l;exact l.symm) (os:=[]) (.inl (by rw[c];exact q)) sG
       rw[c,o,List.append_nil]at B
       exact⟨g',u',[],f,B⟩
   · have o:((s.nd k).operate (s.bl b) V true).2.2=0:=by unfold AG.Nd.operate;rw[if_neg (by simp[x])];rfl
     have A:s.oper k b rd true={s with ns:=s.ns.set k ((s.nd k).operate (s.bl b) V true).1,net:=s.net++((s.nd k).operate (s.bl b) V true).2.1,ops:=s.ops++[s.asd k b ((s.nd k).ops+1) rd false]}:=by
      unfold CS.oper;rw[F,if_pos o]
     have R:(s.nd k).d.ep<=((s.nd k).operate (s.bl b) V true).1.d.ep:=by
      unfold AG.Nd.operate;rw[if_neg (by simp[x])]
      show _<=(AG.Nd.finish _).d.ep
      rw[AG.finish_d];exact Int.le_of_eq (AG.step_ep (s.nd k).d sG).symm
     rw[A]
     rw[F]at U
     refine sW e E (a:=((s.nd k).operate (s.bl b) V true).1) (out:=((s.nd k).operate (s.bl b) V true).2.1) rfl rfl rfl rfl rfl rfl rfl sG ?_ R U
     obtain⟨g',u',pend,f,M⟩:=e.ci.begin r t D (s.bl b) V rd (OI s.rs) (λf=>by rw[c,←C,f];rfl) (by rw[c];exact x)
     have L:=f.res r t
     rw[if_pos rfl,AG.upd_self]at L
     have B:=hy.oper e.ci.inv r t (s.bl b) V true (by rw[c];exact x) l M L.symm (os:=[s.asd k b ((s.nd k).ops+1) rd false]) (by
      cases rd
      · exact .inr ⟨by rw[←C];show 1+(s.ops.length:Int)=_;omega,sG⟩
      · exact .inl (by rw[c,←C];rfl)) (λ_=>⟨_,List.mem_singleton.2 rfl,rfl,(pX s k).symm,by rw[c];rfl,λf=>by
       have O:rd=false:=f
       subst O;rw[←C];show 1+(s.ops.length:Int)=_;omega⟩)
     rw[c]at B
     rw[c,pX]at f
     refine⟨g',u',pend,?_,B⟩
     cases rd
     · have q:V=1+(s.ops.length:Int):=by rw[←C];rfl
       rw[q]at f⊢;exact f
     · exact f.rev rfl (1+(s.ops.length:Int))
 · have o:(s.nd k).operate (s.bl b) V ok=(s.nd k,[],(s.nd k).jv ((s.nd k).blk (s.bl b))):=by unfold AG.Nd.operate;rw[if_pos x]
   by_cases H:(s.nd k).jv ((s.nd k).blk (s.bl b))=3/\rd=false
   · have A:s.oper k b rd ok={s with ns:=s.ns.set k (s.nd k),ops:=s.ops++[s.asd k b 0 rd true]}:=by
      unfold CS.oper;rw[F,o,if_neg x,if_pos H]
     rw[A]
     refine sW e E (a:=s.nd k) (out:=[]) rfl (List.append_nil _).symm rfl rfl rfl rfl rfl sG ⟨g,u,[],?_⟩ (Int.le_refl _) sG
     rw[AG.qx _ _ _ c.symm]
     have e3:(λy=>sn y∨∃z∈([]:List (Int×AG.Ms)),y=z.2)=sn:=by funext y;simp
     rw[e3];exact⟨p,y,hy.more _⟩
   · have A:s.oper k b rd ok=s:=by
      unfold CS.oper;rw[F,o,if_neg x,if_neg H];dsimp only;rw[OJ]
     rw[A]
     exact⟨sn,g,u,[],⟨e.ci,e.ns,e.kn,by have:=e.bd;omega,e.nt,e.li⟩⟩
def fP.come(h:fP s n N){j:Int}{m:AG.Ms}(c:(j,m)∈s.net)(b:0<=m.e)(a:k<n)(ok:Bool):fP (s.come k m ok) n (N+13):=(h.receive a c b ok).look a
def fP.up{N':Nat}(h:fP s n N)(a:N<=N'):fP s n N':=by obtain⟨sn,g,u,h⟩:=h;exact⟨sn,g,u,λk=>⟨(h k).ci,(h k).ns,(h k).kn,by have:=(h k).bd;omega,(h k).nt,(h k).li⟩⟩
end
end
end Go.Proofs.YtdcainmlcpafbaaGreatDoor
