import Derived.Test.YtdcainmlcpafbaaGreatDoorJ35
set_option linter.all false
set_option maxHeartbeats 8000000
set_option maxRecDepth 20000
namespace Go.Proofs.YtdcainmlcpafbaaGreatDoor
section
open Go.RowKit
open Value renaming int->I,slice->J,pointer->P0
open Tryz
open Tryz renaming prog->pG
open IntKind renaming i64->T
open Option renaming none->Z,some->Y
open Obj renaming cells->G
open Value (bool)
def CS.cm(s:CS)(k:Nat):CS:=match s.net[k]? with
 |none=>s
 |some z=>s.come z.1.toNat z.2 true
def CS.jf(s:CS):Nat->CS
 |0=>s
 |k+1=>(s.jf k).cm k
def CS.pass(s:CS):CS:={s.jf s.net.length with net:=(s.jf s.net.length).net.drop s.net.length}
def CS.jh:Nat->CS->CS
 |0,s=>s
 |m+1,s=>bif decide (s.net.length=0) then s else CS.jh m s.pass
structure DP(s:CS)(k:Nat):Prop where
 ex:∃(j:Nat) (m:AG.Ms),∃hk:k<s.net.length,s.net[k]=((j:Int),m)/\j<s.ns.length/\Rl m/\pJ s j (fun ok=>(s.nd j).receive m ok)/\∀ok,pI (s.put j ((s.nd j).receive m ok)) j
 ln:s.net.length<=50000000
def sE:Nat->CS->Prop
 |0,_=>True
 |m+1,s=>s.net.length=0∨((s.net.length<=1000/\∀k,k<s.net.length->DP (s.jf k) k)/\s.net.length<=(s.jf s.net.length).net.length/\(s.jf s.net.length).net.length<=50000000/\sE m s.pass)
theorem DJ{w w1:World}{Wc base t:Nat}{v:Nat->Value}{f:Bool}{hs:List Ho}{s:CS}{n:Nat}{x:Value}(h:dP w Wc base t v f hs s)(d:Below w.heap.size w w1)(r:w1.ownsRow w.heap.size 174 2 x (s.net.drop n).length ((s.net.drop n).flatMap eM)):dP (w1.setCell ⟨Wc,5,Z⟩ x) Wc base t (gD v 5 x) f hs {s with net:=s.net.drop n}/\Below base w (w1.setCell ⟨Wc,5,Z⟩ x):=by have a:=dH.setCell w1 ⟨Wc,5,Z⟩ x;have u:=h.blk.lt;have o:dC w1 Wc (iW v s.nb f) 63:=h.blk.later d;have i:=o.set 5 x;rw[rA v s.nb f _ 5 (by decide)]at i;have e:∀g,x.ownBlock=some g->w.heap.size<=g:=fun g b=>(r.lt g b).1;have y:dK (fun g=>g=Wc∨(v 5).ownBlock=some g) w (w1.setCell ⟨Wc,5,Z⟩ x):=⟨a.os.trans d.os,a.tape.trans d.tape,a.output.trans d.output,by rw[a.size];exact d.size,fun g b p=>(a.block g (fun q=>p (.inl q))).trans (d.block g b)⟩;have c:(w1.setCell ⟨Wc,5,Z⟩ x).ownsRow base 174 2 x (s.net.drop n).length ((s.net.drop n).flatMap eM):=dO (mW r h.jd) (fun g b=>a.block g (fun p=>by have q:=e g b;have z:g=Wc:=p;omega));exact dP.turn (k:=5) (v':=gD v 5 x) (f':=f) (s':={s with net:=s.net.drop n}) (by decide) h y (fun j _ l=>nF l) i (by rw[kW];exact c) (fun g b=>by rw[kW]at b;exact .inr (e g b)) rfl rfl ⟨rfl,rfl⟩ (by intro j l m;simp only[eO,List.mem_cons,List.mem_nil_iff,or_false]at l;rcases l with rfl|rfl|rfl|rfl|rfl|rfl|rfl|rfl|rfl|rfl<;>first|exact⟨rfl,rfl⟩|exact absurd rfl m)
theorem PG(hLO:jA)(hUO:i9)(hSO:eW)(hBW:eZ)(hBS:fA)(Wc base t:Nat)(hs:List Ho)(s:CS)(k:Nat)(w:World)(h:CA w Wc base t true hs s)(r:Qt hs)(a:DP s k)(n:t+2<=1000000):Calls pG 57 #[P0 (Y ⟨Wc,0,Z⟩),I T (k:Int)] w fun q w'=>q=.returned (.tuple #[])/\∃hs',hs'.length=hs.length/\CA w' Wc base (t+1) true hs' (s.cm k)/\Below base w w'/\Qt hs':=by
 obtain⟨j,m,i,l,u,p,d,b⟩:=a.ex;refine(B7 hLO hUO hSO hBW hBS Wc base t hs s k j m w h i l u p n a.ln d b).mono ?_;rintro q w' ⟨rfl,ok,hs',f,v,o,c⟩;obtain⟨rfl,g⟩:=c.1 r;refine⟨rfl,hs',f,?_,o,g⟩;have e:s.cm k=s.come j m true:=by unfold CS.cm;rw[List.getElem?_eq_getElem i,l];rfl
 rw[e];exact v
theorem N8(hLO:jA)(hUO:i9)(hSO:eW)(hBW:eZ)(hBS:fA)(Wc base t:Nat)(hs:List Ho)(s:CS)(M:Nat)(w:World)(h:CA w Wc base t true hs s)(hq:Qt hs)(ac:sE M s)(hM:M<=100)(ht:t+1000*M+2<=1000000):Calls pG 25 #[P0 (Y ⟨Wc,0,Z⟩),I T (M:Int)] w fun q w'=>q=.returned (.tuple #[])/\∃hs' t',hs'.length=hs.length/\CA w' Wc base t' true hs' (CS.jh M s)/\Below base w w'/\Qt hs'/\t'<=t+1000*M:=by
 obtain⟨i0,aq,aw,aC,al⟩:=info_parts vY;have HH:=dA h;have HQ:=dA hq;have aM:=dA ac;clear h hq ac;go_enter func25,ntmps25;go_upto_region 0 with fail;go_loopw [1] (fun s1 wr=>∃m:Nat,m<=M/\s1=I T (m:Int)/\∃hs' t' s',hs'.length=hs.length/\CA wr Wc base t' true hs' s'/\Qt hs'/\sE m s'/\CS.jh m s'=CS.jh M s/\t'+1000*m<=t+1000*M/\Below base w wr) (fun s1 wr=>(intOf s1).toNat);case atStart=>exact⟨M,by omega,rfl,hs,t,s,rfl,HH,HQ,aM,rfl,by omega,Below.refl _ _⟩
 case round=>
  obtain⟨m,b7,rfl,hs',t',s',a4,⟨v,hc⟩,am,V,aD,aZ,aj⟩:=hrel;obtain⟨a5,b6,B⟩:=eB (hc.row 5 (by decide));have c5:=hc.cell (k:=5) (by decide);rw[B]at c5;have r:rN hs' s' 5=s'.net.length:=rfl;rw[r]at c5;have HC:=dA hc;have L:=dA am;have ak:=dA V;have a3:=dA aD;have R:=dA aj;clear hc am V aD aj B r;by_cases aH:m=0;case pos=>subst aH;go_wp2;refine bodyPost_end (v:=.tuple #[]) (by simp[results,results25,go_sem]) rfl ?_;exact⟨rfl,hs',t',a4,by rw[←a3.out];exact⟨_,HC⟩,R,L,by omega⟩
  obtain⟨X,N⟩:∃y,m=y+1:=⟨m-1,by omega⟩;have an:Hid (sE (X+1) s'):=by unfold Hid;rw[←N];exact ak
  have F:Hid (CS.jh (X+1) s'=CS.jh M s):=by unfold Hid;rw[←N];exact a3
  have b8:1<=m:=by omega
  have b1:=dA N;have aA:(X:Int)=(m:Int) - 1:=by omega
  have au:=dA aA;have b5:X+1<=M/\t'+1000*(X+1)<=t+1000*M:=by omega
  clear N aA ak a3;by_cases A:s'.net.length=0;case pos=>
   have HF:Hid (CS.jh M s=s'):=by unfold Hid;rw[←F.out,CS.jh,A];rfl
   have ai:decide ((0:Int)<(m:Int))=true:=by rw[decide_eq_true_eq];omega
   rw[A]at c5;clear A;go_wp2;refine bodyPost_end (v:=.tuple #[]) (by simp[results,results25,go_sem]) rfl ?_;exact⟨rfl,hs',t',a4,by rw[HF.out];exact⟨_,HC⟩,R,L,by omega⟩
  obtain⟨⟨aS,a8⟩,av,ah,ar⟩:=an.out.resolve_left A;obtain⟨n,S⟩:∃y,s'.net.length=y:=⟨_,rfl⟩;rw[S]at c5 aS a8 av ah A;have ai:decide ((0:Int)<(m:Int))=true:=by rw[decide_eq_true_eq];omega
  have aU:decide (0<n)=true:=by rw[decide_eq_true_eq];omega
  have ad:Hid (CS.jh X s'.pass=CS.jh M s):=by unfold Hid;rw[←F.out,CS.jh,S,decide_eq_false A];rfl
  have ao:=dA S;have aB:=dA a8;have ap:=dA ar;clear S a8 ar F an;go_upto_region 4 with fail;clear ai aU c5;go_loopw [5] (fun s5 w2=>∃k:Nat,k<=n/\s5=I T (k:Int)/\∃d,d.length=hs.length/\CA w2 Wc base (t'+k) true d (s'.jf k)/\Qt d/\Below base w w2) (fun s5 w2=>n - (intOf s5).toNat);case atStart=>exact⟨0,by omega,rfl,hs',a4,⟨v,HC⟩,L,R⟩
  case round=>
  obtain⟨k,b3,rfl,d,aW,a6,Q,K⟩:=hrel;by_cases aO:k<n
  ·have b0:decide ((k:Int)<(n:Int))=true:=by simp;omega
   have aP:=dA (PG hLO hUO hSO hBW hBS Wc base (t'+k) d (s'.jf k) k wr a6 Q (aB.out k aO) (by omega));have aI:=dA K;clear a6 Q K;go_wp2_with fail;refine aP.out.mono ?_;rintro q w3 ⟨rfl,aE,aV,aL,aK,aF⟩;go_wp2_with fail;go_roundw;case rel=>exact⟨k+1,by omega,rfl,aE,by omega,aL,aF,aI.out.trans aK⟩
   case measure=>simp[intOf];omega
  obtain rfl:k=n:=by omega
  have b2:decide ((k:Int)<(k:Int))=false:=by simp
  obtain⟨v6,O⟩:=a6;obtain⟨b,x⟩:∃y,(s'.jf k).net=y:=⟨_,rfl⟩;rw[x]at av ah;obtain⟨g5,p,B,c5,b9,a9⟩:=O.ones (k:=5) (by decide) (show 0<(s'.jf k).net.length by rw[x];omega);have r:rN d (s'.jf k) 5=b.length:=by show(s'.jf k).net.length=_;rw[x]
  have aa:rX d (s'.jf k) 5=b.flatMap eM:=by show(s'.jf k).net.flatMap eM=_;rw[x]
  rw[r]at c5 B;rw[aa]at a9;have aX:b.length<=p/\p<=maxLen:=by
   have h9:=O.row 5 (by decide);rw[B,r]at h9;rcases h9.2 with⟨h8,_⟩|⟨g,c,aY,e1,_,_,e4,e5,_⟩;·cases h8
   ·cases e1;exact⟨e4,e5⟩
  have a0:∀l:List (Int×AG.Ms),(l.flatMap eM).length=l.length*2:=fun l=>uS eM 2 xI l;have ay:∀(l:List (Int×AG.Ms)) u,u∈l.flatMap eM->u.oneCell'=true:=by intro l u U;obtain⟨z,_,hz⟩:=List.mem_flatMap.1 U;simp[eM]at hz;rcases hz with rfl|rfl<;>rfl
  have az:∀(j:Nat) (u:Value),((b.drop k).flatMap eM)[j]?=Y u->(b.flatMap eM)[k*2+j]?=Y u:=by
   intro j u U;have e:b.flatMap eM=(b.take k).flatMap eM++(b.drop k).flatMap eM:=by rw[←List.flatMap_append,List.take_append_drop]
   have aQ:((b.take k).flatMap eM).length=k*2:=by rw[a0,List.length_take,Nat.min_eq_left (by omega)]
   rw[e,List.getElem?_append_right (by omega),aQ,show k*2+j-k*2=j by omega];exact U
  have H:=dA O;have ag:=dA Q;have ae:=dA K;have aJ:=dA a9;have ax:=dA a0;have ab:=dA ay;have aG:=dA az;have af:=dA x;obtain⟨W,aR⟩:∃y,y=wr:=⟨_,rfl⟩;subst aR;clear O Q K a9 a0 ay az x r aa B HC L R;by_cases b4:p=k
  ·have aN:Hid (b.drop k=[]):=List.drop_eq_nil_of_le (by omega);go_wp2_with(at_builtin;go_loud (refine wpList_append_own _ rfl _ _ 60 rfl W.heap.size 174 i0 (.agg #[I T 0,.string ⟨#[]⟩]) 2 24 underlying60 aq aw aC al rfl (by decide) (J Z 0 0) 0 [] rfl ?c0 ⟨g5,0,Z⟩ (b.length - k) 0 ((b.drop k).flatMap eM) (by simp[Act.eval]) ?c1 ?c2 ?c3 ?c4 ?c5 ?c6 ?_));case c0=>exact World.ownsRow_nil _ _ _ _
   case c1=>rw[ax.out,List.length_drop]
   case c2=>intro j u U;rw[aN.out]at U;simp at U
   case c3=>exact ab.out _
   case c4=>unfold maxLen;omega
   case c5=>omega
   case c6=>exact Nat.le_refl _
   intro v1 w1 f a _;obtain⟨a1,a7,rfl⟩:=eB f;have o:Below W.heap.size W w1:=⟨a.os,a.tape,a.output,a.size,fun g hg=>a.block g hg (by simp[Value.ownBlock])⟩;have E:w1.ownsRow W.heap.size 174 2 (J a1 (b.length - k) a7) (b.drop k).length ((b.drop k).flatMap eM):=by
    have e:(b.drop k).length=b.length - k:=by simp
    rw[e];simpa using f
   have D:=DJ (s:=s'.jf k) (n:=k) H o (by rw[af.out];exact E);have i:dC w1 Wc (iW v6 (s'.jf k).nb true) 63:=H.out.blk.later o;have a2:=i.cell 5;have aT:=i.free 5;simp at a2;have C:=dA D;clear f E a o D i;go_wp2_with fail;go_roundw;case rel=>exact⟨X,by omega,by rw[au.out],d,t'+k,s'.pass,by omega,⟨_,by show dP _ _ _ _ _ _ _ s'.pass;unfold CS.pass;rw[ao.out];have h9:=C.out.1;exact h9⟩,ag,ap,ad,by omega,ae.out.trans C.out.2⟩
   case measure=>simp[intOf];omega
  ·skip;go_wp2_with(at_builtin;go_loud (refine wpList_append_own _ rfl _ _ 60 rfl W.heap.size 174 i0 (.agg #[I T 0,.string ⟨#[]⟩]) 2 24 underlying60 aq aw aC al rfl (by decide) (J Z 0 0) 0 [] rfl ?c0 ⟨g5,k*2,Z⟩ (b.length - k) (p - k) ((b.drop k).flatMap eM) (by simp[Act.eval]) ?c1 ?c2 ?c3 ?c4 ?c5 ?c6 ?_));case c0=>exact World.ownsRow_nil _ _ _ _
   case c1=>rw[ax.out,List.length_drop]
   case c2=>intro j u U;rw[Go.WideShapes.add_plain];exact aJ.out _ u (aG.out j u U)
   case c3=>exact ab.out _
   case c4=>unfold maxLen;omega
   case c5=>omega
   case c6=>exact Nat.le_refl _
   intro v1 w1 f a _;obtain⟨a1,a7,rfl⟩:=eB f;have o:Below W.heap.size W w1:=⟨a.os,a.tape,a.output,a.size,fun g hg=>a.block g hg (by simp[Value.ownBlock])⟩;have E:w1.ownsRow W.heap.size 174 2 (J a1 (b.length - k) a7) (b.drop k).length ((b.drop k).flatMap eM):=by
    have e:(b.drop k).length=b.length - k:=by simp
    rw[e];simpa using f
   have D:=DJ (s:=s'.jf k) (n:=k) H o (by rw[af.out];exact E);have i:dC w1 Wc (iW v6 (s'.jf k).nb true) 63:=H.out.blk.later o;have a2:=i.cell 5;have aT:=i.free 5;simp at a2;have C:=dA D;clear f E a o D i;go_wp2_with fail;go_roundw;case rel=>exact⟨X,by omega,by rw[au.out],d,t'+k,s'.pass,by omega,⟨_,by show dP _ _ _ _ _ _ _ s'.pass;unfold CS.pass;rw[ao.out];have h9:=C.out.1;exact h9⟩,ag,ap,ad,by omega,ae.out.trans C.out.2⟩
   case measure=>simp[intOf];omega
end
section
open Go.RowKit
theorem NE:∀a:Fin 32,∀b:Fin 32,(∀i:Fin 5,(b.val:Int) / 2 ^ i.val%2=1->(a.val:Int) / 2 ^ i.val%2=1)->gV (a.val:Int) (b.val:Int) 5=0:=by decide +kernel
theorem LY:∀a:Fin 32,∀b:Fin 32,∀j:Fin 5,¬((a.val:Int) / 2 ^ j.val%2=1)->(∀i:Fin 5,((b.val:Int) / 2 ^ i.val%2=1↔(a.val:Int) / 2 ^ i.val%2=1∨i=j))->gV (a.val:Int) (b.val:Int) 5=1/\gV (b.val:Int) (a.val:Int) 5=0:=by decide +kernel
theorem LZ{a:eE}{E P S:Int}(hS:0<=a.S/\a.S<=31)(h:AG.Fol a E P S):qM a ⟨E,P,S⟩=true:=by
 obtain⟨r,v,p,u,s,s0,s1,g,hs⟩:=h;have f:((S.toNat:Nat):Int)=S:=by omega
 have e:((a.S.toNat:Nat):Int)=a.S:=by omega
 have n:fH S (P - 1).toNat=true:=by unfold fH;rw[beq_iff_eq];exact g
 unfold qM;show(fH S (P - 1).toNat&&((E==a.E+1)&&((gV a.S S 5==0)||((gV a.S S 5==1)&&((gV S a.S 5==0)&&(a.P==P))))))=true;rw[n,show(E==a.E+1)=true by simpa using p,Bool.true_and,Bool.true_and];rcases hs with hs|⟨q,j,w,t,o,l⟩
 ·have d:=NE ⟨a.S.toNat,by omega⟩ ⟨S.toNat,by omega⟩;simp only[f,e]at d;rw[d (fun i hi=>by have b:=hs (i.val:Int) (by omega) (by have:=i.isLt;omega);unfold AG.bit at b;rw[Int.toNat_natCast]at b;exact b hi)]
  rfl
 ·have d:=LY ⟨a.S.toNat,by omega⟩ ⟨S.toNat,by omega⟩ ⟨j.toNat,by omega⟩;simp only[f,e]at d;obtain⟨k,m⟩:=d o (fun i=>by
   have b:=l (i.val:Int) (by omega) (by have:=i.isLt;omega);unfold AG.bit at b;rw[Int.toNat_natCast]at b;rw[b];constructor
   ·rintro(c|c);·exact .inl c
    ·exact .inr (Fin.ext (by simp only;omega))
   ·rintro(c|c);·exact .inl c
    ·have:=congrArg Fin.val c;simp only at this;exact .inr (by omega))
  rw[k,m,show(a.P==P)=true by simp[q]];rfl
end
namespace AG
theorem tell_len(n:Nd)(m:Ms)(l:List Int):(n.tell m l).length=l.length:=by unfold Nd.tell;rw[List.length_map]
theorem rU(n:Nd):n.others.length<=n.nodes.toNat:=by unfold Nd.others;refine Nat.le_trans (List.length_filter_le _ _) ?_;rw[List.length_map,List.length_range];exact Nat.le_refl _
theorem miss_len(n:Nd):n.missing.length<=n.nodes.toNat:=by unfold Nd.missing;refine Nat.le_trans (List.length_filter_le _ _) ?_;rw[List.length_map,List.length_range];exact Nat.le_refl _
theorem uM(n:Nd)(ok:Bool):(n.prepare ok).2.length<=n.nodes.toNat:=by
 unfold Nd.prepare;dsimp only;split;·exact Nat.zero_le _
 split;·exact Nat.zero_le _
 ·rw[tell_len];exact rU n
theorem FM(n:Nd)(ok:Bool):(n.gy ok).2.length<=n.nodes.toNat:=by
 unfold Nd.gy;dsimp only;split
 ·split;·exact Nat.zero_le _
  ·rw[tell_len];exact rU _
 ·split;·exact Nat.zero_le _
  ·rw[tell_len];exact rU _
theorem EZ(n:Nd)(ok:Bool):(n.conclude ok).2.length<=n.nodes.toNat:=by
 unfold Nd.conclude;dsimp only;split;·rw[tell_len];exact rU n
 ·exact Nat.zero_le _
theorem CB(n:Nd)(t:Int)(r:Nd×Ms):(n.rep t r).2.length<=1:=by
 unfold Nd.rep;dsimp only;split;·exact Nat.zero_le _
 ·exact Nat.le_refl _
theorem receive_len(n:Nd)(m:Ms)(ok:Bool):(n.receive m ok).2.length<=n.nodes.toNat+1:=by
 unfold Nd.receive;split;·exact Nat.zero_le _
 split;·exact Nat.le_trans (CB _ _ _) (by omega)
 split
 ·unfold Nd.promised;split
  ·dsimp only;split;·exact Nat.le_trans (FM _ _) (by dsimp only;omega)
   ·exact Nat.zero_le _
  ·exact Nat.zero_le _
 split
 ·unfold Nd.accepted;split
  ·dsimp only;split;·exact Nat.le_trans (EZ _ _) (by dsimp only;omega)
   ·exact Nat.zero_le _
  ·exact Nat.zero_le _
 split;·exact Nat.zero_le _
 split;·exact Nat.zero_le _
 split;·exact Nat.le_trans (CB _ _ _) (by omega)
 split;·exact Nat.zero_le _
 split
 ·unfold Nd.copied;split;·exact Nat.le_trans (uM _ _) (by dsimp only;omega)
  ·exact Nat.zero_le _
 ·exact Nat.zero_le _
theorem promote_len(n:Nd)(set:Int)(ok:Bool):(n.dm set ok).2.1.length<=n.nodes.toNat:=by
 unfold Nd.dm;split;·exact Nat.zero_le _
 split;·exact Nat.zero_le _
 split;·exact Nat.zero_le _
 ·exact uM _ _
theorem admit_len(n:Nd)(k:Int)(ok:Bool):(n.admi k ok).2.1.length<=1:=by
 unfold Nd.admi;split;·exact Nat.zero_le _
 ·dsimp only;split;·dsimp only;rw[tell_len];exact Nat.le_refl _
  ·exact Nat.zero_le _
theorem operate_len(n:Nd)(bl v:Int)(ok:Bool):(n.operate bl v ok).2.1.length<=n.nodes.toNat:=by
 unfold Nd.operate;split;·exact Nat.zero_le _
 ·dsimp only;split;·dsimp only;rw[tell_len];exact Nat.le_trans (miss_len _) (by cases ok<;>exact Nat.le_refl _)
  ·exact Nat.zero_le _
theorem pursue_len(n:Nd)(ok:Bool):(n.iw ok).2.length<=n.nodes.toNat+1:=by
 unfold Nd.iw;split;·dsimp only;rw[tell_len];exact Nat.le_trans (rU n) (by omega)
 split;·dsimp only;rw[tell_len];simp
 ·exact Nat.le_trans (uM n ok) (by omega)
end AG
section
open Go.RowKit
def CS.xf(s:CS)(j:Int):AG.Nd:=if 0<=j then s.nd j.toNat else AG.Nd.first 0 0 0
def CS.lf(s:CS)(j:Int):Int:=if 0<=j then s.lv.getD j.toNat 0 else 0
theorem gX(s:CS)(k:Nat):s.xf (k:Int)=s.nd k:=by unfold CS.xf;rw[if_pos (Int.natCast_nonneg k),Int.toNat_natCast]
theorem qC(s:CS)(k:Nat):s.lf (k:Int)=s.lv.getD k 0:=by unfold CS.lf;rw[if_pos (Int.natCast_nonneg k),Int.toNat_natCast]
theorem wS{s s':CS}{k:Nat}{n':AG.Nd}(b:k<s.ns.length)(h:s'.ns=s.ns.set k n'):s'.xf=AG.upd s.xf (k:Int) n':=by
 funext j;by_cases a:j=(k:Int);·subst a;rw[gX,AG.upd_self];unfold CS.nd;rw[h,List.getD_eq_getElem?_getD,List.getElem?_set_self b];rfl
 ·rw[AG.upd_ne a];unfold CS.xf;split;·unfold CS.nd;rw[h,List.getD_eq_getElem?_getD,List.getElem?_set_ne (by omega),List.getD_eq_getElem?_getD]
  ·rfl
structure Gd(s:CS)(n:Nat)(sn:AG.Ms->Prop)(g:AG.Gh)(u:AG.Gv)(k:Nat)(pend:List dJ)(N:Nat):Prop where
 ci:AG.CI (n:Int) s.nb s.xf sn g u s.lf s.ops s.rs s.hi (k:Int) pend
 ns:s.ns.length=n
 kn:∀j,j<n->s.kn.getD j 0<=((s.nd j).d.recs.length:Int)
 bd:s.ops.length<=N/\s.rs.length<=N/\s.rd.length<=N/\s.hi.length<=N/\s.net.length<=N
 nt:∀z∈s.net,sn z.2
theorem N9{s:CS}{n:Nat}{sn:AG.Ms->Prop}{g:AG.Gh}{u:AG.Gv}{k N:Nat}{pend:List dJ}(h:Gd s n sn g u k pend N)(V:k<n)(hN:N<=100000000):pI s k:=by
 have a4:=h.bd;have c:=h.ci;have j:(0:Int)<=(k:Int):=Int.natCast_nonneg k;have l:(k:Int)<(n:Int):=by omega
 have a:=gX s k;have w:=qC s k;have f:=c.res j l;simp only[a,if_true]at f;have a3:(s.nd k).d.ep=((s.nd k).d.recs.length:Int) - 1:=rfl;have hE:0<=(s.nd k).d.ep:=by have:=(c.inv.own j l).i0.2.2.2.2;simp only[a]at this;exact this
 have D:=c.hiu j l;simp only[a]at D;have m:∀i (hi:i<(s.nd k).d.recs.length),(s.nd k).d.rc (i:Int)=(s.nd k).d.recs[i]:=by intro i hi;unfold AG.Du.rc;rw[Int.toNat_natCast,List.getD_eq_getElem?_getD,List.getElem?_eq_getElem hi];rfl
 have t:∀i (hi:i<(s.nd k).d.recs.length),(0<=(s.nd k).d.recs[i].S/\(s.nd k).d.recs[i].S<=31)/\(s.nd k).d.recs[i].E=(i:Int):=by intro i hi;have o:=(c.inv.own j l).rr (i:=(i:Int)) (by omega) (by simp only[a];omega);simp only[a]at o;rw[m i hi]at o;have v:=c.inv.qp j l (e:=(i:Int)) (by omega) (by simp only[a];omega);have F:=c.inv.recE j l (e:=(i:Int)) (by omega) (by simp only[a];omega);rw[o];exact⟨v,F⟩
 have x:∀i (hi:i+1<(s.nd k).d.recs.length),AG.Fol (s.nd k).d.recs[i] ((i:Int)+1) (s.nd k).d.recs[i+1].P (s.nd k).d.recs[i+1].S:=by intro i hi;have b:=(c.follow j l (e:=(i:Int)) (by omega) (by simp only[a];omega)).1;simp only[a]at b;have K:=m (i+1) hi;rw[show(((i+1:Nat)):Int)=(i:Int)+1 by omega]at K;rw[m i (by omega),K]at b;exact b
 refine⟨?_,h.kn k V,by omega,c.hi0,fun i a1 a2=>?_,fun a1=>?_,fun i a1=>?_,by omega⟩
 ·rcases c.pen with H|⟨r,H,a0,⟨o,ho,o1,X,o3,_⟩,_⟩;·exact .inl (f.trans H)
  ·right;have q:(s.ops.findIdx? (lP k (s.lv.getD k 0) r.op)).isSome=true:=by
    rw[List.findIdx?_isSome,List.any_eq_true];refine⟨o,ho,?_⟩;have C:o.lf=s.lv.getD k 0:=by rw[X];exact w
    unfold lP;rw[o1,C,o3];simp
   obtain⟨p,z⟩:=Option.isSome_iff_exists.1 q;obtain⟨A,m1,m2⟩:=List.findIdx?_eq_some_iff_getElem.1 z;subst H;unfold lP at m1;simp only[Bool.and_eq_true,beq_iff_eq]at m1;obtain⟨⟨t1,M,O,R,t5⟩,_⟩:=c.told j l A ⟨m1.1,by rw[w];exact m1.2.1,m1.2.2⟩;refine⟨r,p,f,z,A,⟨t1,?_,M.symm,fun b=>(O b).symm⟩,fun _=>t5.imp id ?_⟩
   ·rcases R with b|⟨b,B⟩;·simp[b]
    ·simp[b,B]
   ·rintro⟨W,Q,b2,U,b4⟩;exact⟨W,Q,by unfold oR;rw[b2,U,b4];simp⟩
 ·have b:=c.same j l a2 (by simp only[a];omega);simp only[a]at b;unfold AG.Du.rc at b;rw[Int.toNat_natCast,List.getD_eq_getElem?_getD,List.getElem?_eq_getElem a1]at b;exact b
 ·have hl:=c.hi0;have b:=x (s.hi.length-1) (by omega);have v:=t (s.hi.length-1) (by omega);have B:=LZ v.1 b;have F:(⟨((s.hi.length-1:Nat):Int)+1,(s.nd k).d.recs[s.hi.length-1+1].P,(s.nd k).d.recs[s.hi.length-1+1].S⟩:eE)=(s.nd k).d.recs[s.hi.length]:=by
   have e3:=(t s.hi.length a1).2;have e4:s.hi.length-1+1=s.hi.length:=by omega
   simp only[e4];rw[show((s.hi.length-1:Nat):Int)+1=(s.hi.length:Int) by omega,←e3]
  rw[F]at B;exact B
 ·have v:=t i a1;refine⟨v.1,by rw[v.2];omega,fun L=>?_⟩;obtain⟨i',rfl⟩:∃y,i=y+1:=⟨i-1,by omega⟩;have b:=x i' a1;exact⟨b.2.2.2.1,b.2.2.2.2.1⟩
theorem AG.CI.free{n nb:Int}{x:Int->AG.Nd}{sn:AG.Ms->Prop}{g:AG.Gh}{u:AG.Gv}{lv:Int->Int}{ops:List AG.As}{rs:List dJ}{hi:List eE}{k:Int}(c:AG.CI n nb x sn g u lv ops rs hi k [])(a:∀j,0<=j->j<n->(x j).d.ep<hi.length)(h:Int):AG.CI n nb x sn g u lv ops rs hi h []:=⟨c.inv,c.num,c.og,c.unq,c.lnk,c.ny,c.qg,fun e b=>by have f:=c.res e b;simp only[ite_self]at f⊢;exact f,.inl rfl,c.hi0,c.hik,fun{j} e b=>.inl (a j e b)⟩
theorem AG.qy{α:Type}(x:Int->α)(k:Int)(a:α)(h:a=x k):AG.upd x k a=x:=by
 funext j;by_cases b:j=k;·subst b;rw[AG.upd_self];exact h
 ·rw[AG.upd_ne b]
theorem wT(s:CS)(i:Nat):(s.tell i).nb=s.nb/\(s.tell i).lv=s.lv/\(s.tell i).net=s.net/\(s.tell i).ops.length=s.ops.length/\(s.tell i).rs.length<=s.rs.length+1/\(s.tell i).rd.length<=s.rd.length+1:=by
 unfold CS.tell;split;·exact⟨rfl,rfl,rfl,rfl,by omega,by omega⟩
 ·split;·exact⟨rfl,rfl,rfl,rfl,by omega,by omega⟩
  ·exact⟨rfl,rfl,rfl,by simp,by simp,by simp⟩
section
variable {s:CS} {n:Nat} {sn:AG.Ms->Prop} {g:AG.Gh} {u:AG.Gv} {k N:Nat} {pend:List dJ}
theorem L0(h:Gd s n sn g u k pend N)(F:k<n):AG.CI (n:Int) s.nb (AG.upd s.xf (k:Int) {s.nd k with res:=[]}) sn g u s.lf (s.tell k).ops (s.tell k).rs s.hi (k:Int) []:=by
 have c:=h.ci;have t:(0:Int)<=(k:Int):=Int.natCast_nonneg k;have v:(k:Int)<(n:Int):=by omega
 have d:=gX s k;have i:=qC s k;have a:=c.res t v;simp only[d,if_true]at a;rcases c.pen with l|⟨r,l,x,⟨o,w,D,B,z,_⟩,_⟩
 ·subst l;have e:s.tell k=s:=by unfold CS.tell;rw[a]
  rw[e,AG.qy];·exact c
  ·rw[d];have q:∀y:AG.Nd,y.res=[]->({y with res:=[]}:AG.Nd)=y:=by intro y hy;cases y;dsimp only at hy;subst hy;rfl
   exact q _ a
 ·subst l;have b:(s.ops.findIdx? (lP k (s.lv.getD k 0) r.op)).isSome=true:=by
   rw[List.findIdx?_isSome,List.any_eq_true];refine⟨o,w,?_⟩;have m:o.lf=s.lv.getD k 0:=by rw[B];exact i
   unfold lP;rw[D,m,z];simp
  obtain⟨p,f⟩:=Option.isSome_iff_exists.1 b;obtain⟨j,m1,E⟩:=List.findIdx?_eq_some_iff_getElem.1 f;unfold lP at m1;simp only[Bool.and_eq_true,beq_iff_eq]at m1;have q:=(c.told t v j ⟨m1.1,by rw[i];exact m1.2.1,m1.2.2⟩).2;have A:(s.tell k).ops=s.ops.set p {s.ops[p] with dn:=true}:=by unfold CS.tell;rw[a];simp only[f];rw[List.getD_eq_getElem?_getD,List.getElem?_eq_getElem j];rfl
  have C:(s.tell k).rs=s.rs++[r]:=by unfold CS.tell;rw[a];simp only[f]
  rw[A,C,←d];exact q
theorem L1(h:Gd s n sn g u k pend N)(C:k<n)(H:Nat):Gd (s.look k) n sn g u H [] (N+1):=by
 have c:=h.ci;have w:(0:Int)<=(k:Int):=Int.natCast_nonneg k;have y:(k:Int)<(n:Int):=by omega
 have b:=gX s k;have m:=wT s k;have q:(s.look k).xf=AG.upd s.xf (k:Int) {s.nd k with res:=[]}:=wS (by rw[h.ns];exact C) rfl;have v:(s.look k).lf=s.lf:=by funext j;unfold CS.lf;show(if 0<=j then(s.tell k).lv.getD j.toNat 0 else 0)=_;rw[m.2.1]
 have L:(s.nd k).d.ep=((s.nd k).d.recs.length:Int) - 1:=rfl;have O:0<=(s.nd k).d.ep:=by have:=(c.inv.own w y).i0.2.2.2.2;simp only[b]at this;exact this
 have x:=c.hiu w y;simp only[b]at x;have a:∀j,(AG.upd s.xf (k:Int) {s.nd k with res:=[]} j).d=(s.xf j).d:=by
  intro j;by_cases r:j=(k:Int);·subst r;rw[AG.upd_self,b]
  ·rw[AG.upd_ne r]
 have p:AG.CI (n:Int) s.nb (s.look k).xf sn g u s.lf (s.tell k).ops (s.tell k).rs (s.look k).hi (k:Int) []/\∀j,0<=j->j<(n:Int)->((s.look k).xf j).d.ep<((s.look k).hi.length:Int):=by
  have f:=L0 h C;rw[q];have i:(s.look k).hi=s.hi++(s.nd k).d.recs.drop s.hi.length:=rfl;by_cases F:(s.nd k).d.ep=(s.hi.length:Int)
  ·have D:=f.seen w y (by rw[a,b];exact F);rw[a,b]at D;have A:(s.nd k).d.recs.drop s.hi.length=[(s.nd k).d.rc (s.hi.length:Int)]:=by
    have E:s.hi.length<(s.nd k).d.recs.length:=by omega
    rw[List.drop_eq_getElem_cons E,List.drop_of_length_le (by omega)];unfold AG.Du.rc;rw[Int.toNat_natCast,List.getD_eq_getElem?_getD,List.getElem?_eq_getElem E];rfl
   rw[i,A];refine⟨D,fun j B t=>?_⟩;rw[a,List.length_append];have o:=c.hiu B t;simp only[List.length_cons,List.length_nil];omega
  ·have A:(s.nd k).d.recs.drop s.hi.length=[]:=List.drop_of_length_le (by omega);rw[i,A,List.append_nil];refine⟨f,fun j B t=>?_⟩;rw[a];rcases c.hiu B t with o|⟨rfl,o⟩;·exact o
   ·rw[b]at o;exact absurd o F
 refine⟨?_,?_,?_,?_,?_⟩;·rw[v,show(s.look k).nb=s.nb from m.1];exact p.1.free p.2 _
 ·show(s.ns.set k _).length=n;rw[List.length_set];exact h.ns
 ·intro j r;show(s.kn.set k ((s.nd k).d.recs.length:Int)).getD j 0<=_;have e:((s.look k).nd j).d=(s.nd j).d:=by have f:=congrFun q (j:Int);rw[gX]at f;rw[f,a,gX]
  rw[e];by_cases l:j=k
  ·subst l;rw[List.getD_eq_getElem?_getD,List.getElem?_set];simp only[if_true];split;·exact Int.le_refl _
   ·exact Int.natCast_nonneg _
  ·rw[List.getD_eq_getElem?_getD,List.getElem?_set_ne (fun f=>l f.symm),←List.getD_eq_getElem?_getD];exact h.kn j r
 ·have M:=h.bd;refine⟨?_,?_,?_,?_,?_⟩;·show(s.tell k).ops.length<=_;rw[m.2.2.2.1];omega
  ·show(s.tell k).rs.length<=_;omega
  ·show(s.tell k).rd.length<=_;omega
  ·show(s.hi++(s.nd k).d.recs.drop s.hi.length).length<=_;rw[List.length_append,List.length_drop];omega
  ·show(s.tell k).net.length<=_;rw[m.2.2.1];omega
 ·intro z K;exact h.nt z (by have f:z∈(s.tell k).net:=K;rw[m.2.2.1]at f;exact f)
end
def fM(s:CS)(n N:Nat):Prop:=∃sn g u,∀k,Gd s n sn g u k [] N
def i4(s:CS)(n k N:Nat):Prop:=∃sn g u pend,Gd s n sn g u k pend N
section
variable {s:CS} {n k N:Nat}
theorem fM.gp(h:fM s n N)(k:Nat):i4 s n k N:=let ⟨sn,g,u,h⟩:=h;⟨sn,g,u,[],h k⟩
theorem i4.look(h:i4 s n k N)(b:k<n):fM (s.look k) n (N+1):=let ⟨sn,g,u,_,h⟩:=h;⟨sn,g,u,fun a=>L1 h b a⟩
theorem i4.lk(h:i4 s n k N)(a:k<n)(b:N<=100000000):pI s k:=let ⟨_,_,_,_,h⟩:=h;N9 h a b
theorem fM.lt{sn:AG.Ms->Prop}{g:AG.Gh}{u:AG.Gv}(h:∀k,Gd s n sn g u k [] N){j:Nat}(b:j<n):(s.nd j).d.ep<s.hi.length:=by
 have a:=(h (j+1)).ci.hiu (j:=(j:Int)) (by omega) (by omega);rw[gX]at a;rcases a with a|⟨a,_⟩;·exact a
 ·omega
theorem rY{s':CS}{sn:AG.Ms->Prop}{g:AG.Gh}{u:AG.Gv}{c:List dJ}(h:Gd s n sn g u k c N)(x:k<n){a:AG.Nd}{out:List (Int×AG.Ms)}(t:s'.ns=s.ns.set k a)(q:s'.net=s.net++out)(C:s'.nb=s.nb)(v:s'.rs=s.rs)(p:s'.hi=s.hi)(A:s'.kn=s.kn)(w:s'.rd=s.rd)(F:s'.ops.length<=s.ops.length+1)(o:∃m u' pend,AG.CI (n:Int) s.nb (AG.upd s.xf (k:Int) a) (fun y=>sn y∨∃z∈out,y=z.2) m u' s'.lf s'.ops s.rs s.hi (k:Int) pend)(B:(s.nd k).d.ep<=a.d.ep)(K:out.length<=12):i4 s' n k (N+12):=by
 obtain⟨m,u',pend,o⟩:=o;have i:k<s.ns.length:=by rw[h.ns];exact x
 have b:=wS i t;refine⟨(fun y=>sn y∨∃z∈out,y=z.2),m,u',pend,?_,?_,?_,?_,?_⟩;·rw[b,C,v,p];exact o
 ·rw[t,List.length_set];exact h.ns
 ·intro j D;have f:=h.kn j D;rw[A];by_cases l:j=k
  ·subst l;have e:s'.nd j=a:=by rw[←gX,b,AG.upd_self]
   rw[e];have H:((s.nd j).d.recs.length:Int) - 1<=(a.d.recs.length:Int) - 1:=B;omega
  ·have e:s'.nd j=s.nd j:=by rw[←gX,b,AG.upd_ne (by omega),gX]
   rw[e];exact f
 ·have E:=h.bd;rw[q,v,p,w,List.length_append];omega
 ·intro z r;rw[q]at r;rcases List.mem_append.1 r with f|f;·exact .inl (h.nt z f)
  ·exact .inr ⟨z,f,rfl⟩
theorem wU{sn:AG.Ms->Prop}{g:AG.Gh}{u:AG.Gv}{a:List dJ}(h:Gd s n sn g u k a N)(b:k<n){r:AG.Nd×List (Int×AG.Ms)}(i:∃f u' pend,AG.CI (n:Int) s.nb (AG.upd s.xf (k:Int) r.1) (fun y=>sn y∨∃z∈r.2,y=z.2) f u' s.lf s.ops s.rs s.hi (k:Int) pend)(e:(s.nd k).d.ep<=r.1.d.ep)(c:r.2.length<=12):i4 (s.put k r) n k (N+12):=rY h b (s':=s.put k r) rfl rfl rfl rfl rfl rfl rfl (Nat.le_succ _) i e c
theorem NF{a b:AG.Nd}(h:AG.Opk a b):a.d.ep<=b.d.ep:=by rcases h.ep with c|c<;>omega
theorem fM.opk(h:fM s n N)(b:k<n){r:AG.Nd×List (Int×AG.Ms)}(c:AG.Opk (s.nd k) r.1)(d:r.2.length<=12)(i:∀{sn g u},AG.Inv (n:Int) s.nb s.xf sn g u->(∀z∈s.net,sn z.2)->AG.Call (n:Int) s.nb s.xf sn u (k:Int) r.1 r.2 u.wr):i4 (s.put k r) n k (N+12):=by obtain⟨sn,g,u,h⟩:=h;have a:=h k;refine wU a b ?_ (NF c) d;obtain⟨f,u',e⟩:=a.ci.opk (by omega) (by omega) (by rw[gX];exact fM.lt h b) (i a.ci.inv a.nt) (by rw[gX];exact c);exact⟨f,u',[],e⟩
theorem fM.bd(h:fM s n N):s.ops.length<=N/\s.rs.length<=N/\s.rd.length<=N/\s.hi.length<=N/\s.net.length<=N:=by obtain⟨_,_,_,h⟩:=h;exact(h 0).bd
theorem fM.nn(h:fM s n N):(2<=n/\n<=5)/\s.ns.length=n:=by obtain⟨sn,g,u,h⟩:=h;have a:=(h 0).ci.inv.nn;exact⟨by omega,(h 0).ns⟩
theorem fM.ids(h:fM s n N){k:Nat}(b:k<n):(s.nd k).id=(k:Int)/\(s.nd k).nodes=(n:Int)/\(s.nd k).nb=s.nb:=by obtain⟨sn,g,u,h⟩:=h;have a:=((h 0).ci.inv.own (j:=(k:Int)) (by omega) (by omega)).i0;rw[gX]at a;exact⟨a.1,a.2.2.1,a.2.2.2.1⟩
theorem i4.ids(h:i4 s n k N){j:Nat}(b:j<n):(s.nd j).id=(j:Int)/\(s.nd j).nodes=(n:Int)/\(s.nd j).nb=s.nb:=by obtain⟨sn,g,u,pend,h⟩:=h;have a:=(h.ci.inv.own (j:=(j:Int)) (by omega) (by omega)).i0;rw[gX]at a;exact⟨a.1,a.2.2.1,a.2.2.2.1⟩
theorem DK{N':Nat}(h:fM s n N)(c:k<n){f:Bool->AG.Nd×List (Int×AG.Ms)}(d:∀ok,∃s':CS,s'.ns=s.ns.set k (f ok).1/\s'.nb=s.nb/\i4 s' n k N')(g:∀ok,(f ok).2.length<=12):pJ s k f:=by
 refine⟨fun ok=>?_,fun ok=>Nat.le_trans (g ok) (by omega)⟩;obtain⟨s',j,i,l⟩:=d ok;have e:s'.nd k=(f ok).1:=by rw[←gX,wS (s:=s) (by rw[h.nn.2];exact c) j,AG.upd_self]
 have a:=l.ids c;have b:=h.ids c;rw[e]at a;exact⟨a.1.trans b.1.symm,a.2.1.trans b.2.1.symm,by rw[a.2.2,b.2.2,i]⟩
theorem fM.dm(h:fM s n N)(a:k<n)(set:Int)(ok:Bool):i4 (s.put k (((s.nd k).dm set ok).1,((s.nd k).dm set ok).2.1)) n k (N+12):=by
 have hi:=h.ids a;have d:=h.nn;refine h.opk a (AG.Opk.dm _ _ _) ?_ (fun c _=>?_);·have:=AG.promote_len (s.nd k) set ok;rw[hi.2.1]at this;dsimp only;omega
 ·have b:=c.dm (j:=(k:Int)) (by omega) (by omega) set ok;rw[gX]at b;exact b
theorem fM.admi(h:fM s n N)(a:k<n)(node:Int)(ok:Bool)(f:N<=100000000):i4 (s.put k (((s.nd k).admi node ok).1,((s.nd k).admi node ok).2.1)) n k (N+12):=by
 have hi:=h.ids a;have i:=h.nn;have c:(s.nd k).d.ep<1000000000000:=by obtain⟨sn,g,u,h⟩:=h;have:=fM.lt h a;have:=(h 0).bd;omega
 refine h.opk a (AG.Opk.admi _ _ _) ?_ (fun e _=>?_);·have:=AG.admit_len (s.nd k) node ok;dsimp only;omega
 ·have b:=e.admi (j:=(k:Int)) (by omega) (by omega) node ok (by rw[gX];exact c);rw[gX]at b;exact b
theorem AG.mg(n:AG.Nd)(ok:Bool)(d:2<=n.nodes/\n.nodes<=5):(n.iq ok).2.length<=12:=by
 unfold AG.Nd.iq;split;·exact Nat.zero_le _
 ·dsimp only;rw[List.length_append];have c:=AG.pursue_len n ok;have e:(n.iw ok).1.nodes=n.nodes:=by
   unfold AG.Nd.iw;split;·rfl
   split;·rfl
   ·unfold AG.Nd.prepare;dsimp only;split;·rfl
    ·have a:∀m,(n.jc m ok).1.nodes=n.nodes:=by
      intro m;unfold AG.Nd.jc;dsimp only;split;·rfl
      split;·rfl
      split;·rfl
      split<;>rfl
     split;·exact a _
     ·exact a _
  split;·rw[AG.tell_len];have b:=AG.miss_len (n.iw ok).1;rw[e]at b;omega
  ·simp only[List.length_nil];omega
theorem fM.iq(h:fM s n N)(a:k<n)(ok:Bool):i4 (s.put k ((s.nd k).iq ok)) n k (N+12):=by have hi:=h.ids a;have d:=h.nn;refine h.opk a (AG.Opk.iq _ _) (AG.mg _ _ (by rw[hi.2.1];omega)) (fun c _=>?_);have b:=c.iq (j:=(k:Int)) (by omega) (by omega) ok;rw[gX]at b;exact b
end
namespace AG
theorem finish_d(y:Nd):y.finish.d=y.d:=by unfold Nd.finish;split<;>rfl
theorem wrote_d(y:Nd)(m:Ms):(y.wrote m).d=y.d:=by
 unfold Nd.wrote;by_cases h:0<y.on/\m.e=y.ow.e/\m.q=y.ow.q;·rw[if_pos h];exact finish_d _
 ·rw[if_neg h]
theorem Opk.receive(y:Nd)(m:Ms)(ok:Bool)(b:m.k≠8):Opk y (y.receive m ok).1:=by
 unfold Nd.receive;split;·exact Opk.refl y
 split;·rename_i a;exact Opk.jc y a ok
 split;·exact Opk.promised y m ok
 split;·exact Opk.accepted y m ok
 split;·exact Opk.refused y m
 split;·rename_i a;exact Opk.decided y a ok
 split;·rename_i a;exact Opk.update y a ok
 split;·exact Opk.copied y m ok
 ·exact Opk.refl y
theorem CI.rev{n nb:Int}{x:Int->Nd}{sn:Ms->Prop}{g:Gh}{u:Gv}{lv:Int->Int}{ops:List As}{rs:List Rs}{hi:List Rc}{k:Int}{pend:List Rs}{o:As}(c:CI n nb x sn g u lv (ops++[o]) rs hi k pend)(f:o.rd=true)(v:Int):CI n nb x sn g u lv (ops++[{o with v:=v}]) rs hi k pend:=by
 have up:∀{Q:As->Prop},(∀q:As,q.rd=true->Q q->Q {q with v:=v})->(∃q∈ops++[o],Q q)->∃q∈ops++[{o with v:=v}],Q q:=by
  rintro Q A ⟨q,l,d⟩;rcases List.mem_append.1 l with e|e;·exact⟨q,List.mem_append_left _ e,d⟩
  ·simp only[List.mem_singleton]at e;subst e;exact⟨_,List.mem_append_right _ (List.mem_singleton.2 rfl),A q f d⟩
 refine⟨c.inv,fun q l=>?_,c.og,?_,fun H z j=>?_,c.ny,fun D=>?_,c.res,?_,c.hi0,c.hik,c.hiu⟩
 ·rcases List.mem_append.1 l with e|e;·exact c.num q (List.mem_append_left _ e)
  ·simp only[List.mem_singleton]at e;subst e;exact c.num o (List.mem_append_right _ (List.mem_singleton.2 rfl))
 ·have d:=c.unq;rw[List.pairwise_append]at d⊢;refine⟨d.1,by simp,fun a K b w=>?_⟩;simp only[List.mem_singleton]at w;subst w;exact d.2.2 a K o (List.mem_singleton.2 rfl)
 ·refine up (Q:=fun o=>_) (fun q f h=>?_) (c.lnk H z j);obtain⟨a1,t,m,s,p,F,i⟩:=h;exact⟨a1,t,m,s,p,fun d=>absurd (f.symm.trans d) (by simp),i⟩
 ·refine up (Q:=fun o=>_) (fun q f h=>?_) (c.qg D);rw[f]at h;exact absurd h.1 (by simp)
 ·rcases c.pen with d|⟨r,C,y,E,B⟩;·exact .inl d
  ·refine .inr ⟨r,C,y,up (Q:=fun o=>_) (fun q f h=>?_) E,B⟩;obtain⟨a1,t,m,s,p,F,i⟩:=h;exact⟨a1,t,m,s,p,fun d=>absurd (f.symm.trans d) (by simp),i⟩
end AG
theorem NG(rs:List dJ):((jX rs).1 = -1/\(jX rs).2=0)∨∃r∈rs,r.e=(jX rs).1/\r.q=(jX rs).2:=by
 have b:∀(l:List dJ) (p:Int×Int),l.foldl oM p=p∨∃r∈l,r.e=(l.foldl oM p).1/\r.q=(l.foldl oM p).2:=by
  intro l;induction l with
  |nil=>intro p;exact .inl rfl
  |cons r l ih=>
   intro p;rw[List.foldl_cons];rcases ih (oM p r) with a|⟨c,f,d⟩
   ·rw[a];unfold oM;cases decide (p.1<r.e)||((r.e==p.1)&&decide (p.2<r.q));·exact .inl rfl
    ·exact .inr ⟨r,List.mem_cons_self,rfl,rfl⟩
   ·exact .inr ⟨c,List.mem_cons_of_mem _ f,d⟩
 rcases b rs (-1,0) with a|a;·left;unfold jX;rw[a];exact⟨rfl,rfl⟩
 ·exact .inr a
section
variable {s:CS} {n k N:Nat}
theorem fM.receive(h:fM s n N)(b:k<n){j:Int}{m:AG.Ms}(r:(j,m)∈s.net)(v:0<=m.e)(ok:Bool):i4 (s.put k ((s.nd k).receive m ok)) n k (N+12):=by
 have hi:=h.ids b;have x:=h.nn;have i:((s.nd k).receive m ok).2.length<=12:=by have:=AG.receive_len (s.nd k) m ok;rw[hi.2.1]at this;omega
 have p:∀{sn g u},AG.Inv (n:Int) s.nb s.xf sn g u->(∀z∈s.net,sn z.2)->AG.Call (n:Int) s.nb s.xf sn u (k:Int) ((s.nd k).receive m ok).1 ((s.nd k).receive m ok).2 u.wr:=by intro sn g u t o;have a:=t.receive (j:=(k:Int)) (by omega) (by omega) (o _ r) v ok;rw[gX]at a;exact a
 by_cases l:m.k=8
 ·by_cases q:(s.nd k).down=true∨m.f=(s.nd k).id∨(s.nd k).nodes<=m.f;·refine h.opk b ?_ i p;unfold AG.Nd.receive;rw[if_pos q];exact AG.Opk.refl _
  ·obtain⟨sn,g,u,h⟩:=h;have c:=h k;have e:(s.nd k).receive m ok=((s.nd k).wrote m,[]):=by unfold AG.Nd.receive;rw[if_neg q,l];rfl
   rw[e]at i⊢;refine wU c b ?_ ?_ i;·have a:=c.ci.wrote (by omega) (by omega) (by rw[gX];exact fM.lt h b) l (c.nt _ r);rw[gX]at a;exact a
   ·have w:=c.ci.inv.own (j:=(k:Int)) (by omega) (by omega);have a:=AG.wrote_d (s.nd k) m;show(s.nd k).d.ep<=((s.nd k).wrote m).d.ep;rw[a];exact Int.le_refl _
 ·exact h.opk b (AG.Opk.receive _ _ _ l) i p
theorem fM.run(h:fM s n N)(v:k<n)(t:k<s.lv.length){n':AG.Nd}(F:Cr (s.nd k) n'):i4 (s.run k n') n k (N+12):=by
 obtain⟨sn,g,u,h⟩:=h;have f:=h k;have p:(s.xf (k:Int)).d.ep<s.hi.length:=by rw[gX];exact fM.lt h v
 have r:(s.run k n').lf=AG.upd s.lf (k:Int) (s.lf (k:Int)+1):=by
  funext j;by_cases c:j=(k:Int);·subst c;rw[qC,AG.upd_self,qC];show(s.lv.set k _).getD k 0=_;rw[List.getD_eq_getElem?_getD,List.getElem?_set_self t];rfl
  ·rw[AG.upd_ne c];unfold CS.lf;split;·show(s.lv.set k _).getD j.toNat 0=_;rw[List.getD_eq_getElem?_getD,List.getElem?_set_ne (by omega),←List.getD_eq_getElem?_getD]
   ·rfl
 have m:∀(a:AG.Nd) (l:List (Int×PV)),a.on=0/\a.ops=0/\a.res=[]->(a.d.ep=(s.nd k).d.ep∨a.d.ep=(s.nd k).d.ep+1)->AG.Call (n:Int) s.nb s.xf sn u (k:Int) a [] u.wr->(∀e,dG l e=dG a.d.di e)->n'=a.swp l->i4 (s.run k n') n k (N+12):=by
  intro a l o i A E y;obtain⟨C,u',b⟩:=f.ci.ni (by omega) (by omega) p A o (by rw[gX];exact i);have q:=b.swap (j:=(k:Int)) (l:=l) (by rw[AG.upd_self];exact E);rw[AG.upd_self]at q;have e:AG.upd (AG.upd s.xf (k:Int) a) (k:Int) (a.swp l)=AG.upd s.xf (k:Int) n':=by
   funext j;by_cases c:j=(k:Int);·subst c;rw[AG.upd_self,AG.upd_self,y]
   ·rw[AG.upd_ne c,AG.upd_ne c,AG.upd_ne c]
  rw[e]at q;refine rY f v (s':=s.run k n') (out:=[]) rfl (List.append_nil _).symm rfl rfl rfl rfl rfl (Nat.le_succ _) ⟨C,u',[],by rw[r];exact q⟩ ?_ (by simp);have x:n'.d.ep=a.d.ep:=by rw[y];rfl
  omega
 rcases F with⟨l,o,i⟩|⟨B,l,o,i⟩;·refine m ((s.nd k).fresh (s.nd k).d) l ⟨rfl,rfl,rfl⟩ (.inl rfl) ?_ i o;have b:=f.ci.inv.qm (j:=(k:Int));rw[gX]at b;refine⟨g,u,_,fun j D z=>(show(s.xf j).d.ep<=(s.hi.length:Int) from ?_),by omega,AG.Grv.refl _ _,rfl,b.nil,by simp⟩;rcases f.ci.hiu D z with x|x<;>omega
 ·have b:=f.ci.inv.crash1 (j:=(k:Int)) (by omega) (by omega) (by rw[gX];exact B);rw[gX]at b;refine m ((s.nd k).fresh ((s.nd k).d.step (s.nd k).tr)) l ⟨rfl,rfl,rfl⟩ ?_ b i o;show((s.nd k).d.step (s.nd k).tr).ep=_∨((s.nd k).d.step (s.nd k).tr).ep=_;by_cases w:(s.nd k).tr.k=6;·right;unfold AG.Du.step;rw[w];show(((s.nd k).d.recs++[_]).length:Int) - 1=((s.nd k).d.recs.length:Int) - 1+1;rw[List.length_append];simp
  ·exact .inl (AG.step_ep _ w)
theorem fM.drop(h:fM s n N)(k:Nat):fM (s.drop k) n N:=by
 obtain⟨sn,g,u,h⟩:=h;refine⟨sn,g,u,fun j=>?_⟩;have a:=h j;refine⟨a.ci,a.ns,a.kn,?_,fun z d=>a.nt z ?_⟩;·have b:=a.bd;refine⟨b.1,b.2.1,b.2.2.1,b.2.2.2.1,?_⟩;show(s.net.take k++s.net.drop (k+1)).length<=N;rw[List.length_append,List.length_take,List.length_drop];omega
 ·rcases List.mem_append.1 (show z∈s.net.take k++s.net.drop (k+1) from d) with c|c;·exact List.mem_of_mem_take c
  ·exact List.mem_of_mem_drop c
theorem NH(s:CS)(k:Nat):s.ns.set k (s.nd k)=s.ns:=by
 by_cases h:k<s.ns.length;·rw[CS.ku h];exact List.set_getElem_self h
 ·exact List.set_eq_of_length_le (by omega)
theorem fM.oper(h:fM s n N)(C:k<n)(b:Int)(l ok:Bool)(X:1<=s.nb):i4 (s.oper k b l ok) n k (N+12):=by
 have hi:=h.ids C;have hn:=h.nn;have Q:(s.jk k b l ok).2.1.length<=12:=by unfold CS.jk;have:=AG.operate_len (s.nd k) (s.bl b) (bif l then(s.nd k).d.bk (s.bl b) else 1+(s.ops.length:Int)) ok;rw[hi.2.1]at this;omega
 obtain⟨sn,g,u,h⟩:=h;have f:=h k;have A:(0:Int)<=(k:Int):=Int.natCast_nonneg k;have B:(k:Int)<(n:Int):=by omega
 have c:=gX s k;have x:(s.xf (k:Int)).d.ep<s.hi.length:=by rw[gX];exact fM.lt h C
 have F:0<=s.bl b/\s.bl b<s.nb:=by unfold CS.bl;exact⟨Int.emod_nonneg _ (by omega),Int.emod_lt_of_pos _ (by omega)⟩
 obtain⟨V,K⟩:∃y,(bif l then(s.nd k).d.bk (s.bl b) else 1+(s.ops.length:Int))=y:=⟨_,rfl⟩;have D:s.jk k b l ok=(s.nd k).operate (s.bl b) V ok:=by unfold CS.jk;rw[K]
 have o:AG.CI (n:Int) s.nb s.xf sn g u s.lf (s.ops++[s.asd k b 0 l true]) s.rs s.hi (k:Int) []:=f.ci.mute rfl (by show s.lv.getD k 0<=s.lf (k:Int);rw[qC];exact Int.le_refl _) ⟨A,B⟩;by_cases w:(s.nd k).jv ((s.nd k).blk (s.bl b))=0
 ·cases ok
  ·have r:∃m,(s.nd k).operate (s.bl b) V false=((s.nd k).fall m,[],3):=by unfold AG.Nd.operate;rw[if_neg (by simp[w])];exact⟨_,rfl⟩
   obtain⟨m,r⟩:=r;have p:=fun(W:Int->Int->Prop) (R:∀{i v},u.wr i v->W i v) (U:V=0∨W (s.bl b) V)=>f.ci.inv.operate (j:=(k:Int)) A B (s.bl b) V false R U (by rw[c];exact w);simp only[c,r]at p;cases l
   ·have t:s.oper k b false false={s with ns:=s.ns.set k ((s.nd k).fall m),ops:=s.ops++[s.asd k b 0 false true]}:=by unfold CS.oper;rw[D,r];simp
    rw[t];refine rY f C (a:=(s.nd k).fall m) (out:=[]) rfl (List.append_nil _).symm rfl rfl rfl rfl rfl (by simp) ?_ (Int.le_refl _) (by simp);have q:V=1+(s.ops.length:Int):=by rw[←K];rfl
    have E:=p (fun i v=>u.wr i v∨(i=s.bl b/\v=V)) (fun e=>.inl e) (.inr (.inr ⟨rfl,rfl⟩));obtain⟨H,u',e⟩:=o.call A B x E (fun{i v} L=>by
     rcases L with L|⟨rfl,rfl⟩;·exact o.qg L
     ·exact⟨_,List.mem_append_right _ (List.mem_singleton.2 rfl),rfl,rfl,q.symm⟩) (by rw[c];rfl) (.inl rfl) (.inl (by rw[c];rfl)) (pend:=[]) (by have O:=f.ci.res A B;rw[c,if_pos rfl]at O;exact O) (.inl rfl)
    exact⟨H,u',[],e⟩
   ·have t:s.oper k b true false=s.put k ((s.nd k).fall m,[]):=by unfold CS.oper;rw[D,r];simp[CS.put]
    rw[t];refine wU f C ?_ (Int.le_refl _) (by simp);have q:V=(s.nd k).d.bk (s.bl b):=by rw[←K];rfl
    have E:=p u.wr (fun e=>e) (by have e:=(f.ci.inv.own A B).bv F.1 F.2;rw[c,←q]at e;exact e);obtain⟨H,u',e⟩:=f.ci.opk A B x E (by rw[c];exact AG.Opk.fall _ _);exact⟨H,u',[],e⟩
  ·have r:((s.nd k).operate (s.bl b) V true).2.2=0:=by unfold AG.Nd.operate;rw[if_neg (by simp[w])];rfl
   have t:s.oper k b l true={s with ns:=s.ns.set k ((s.nd k).operate (s.bl b) V true).1,net:=s.net++((s.nd k).operate (s.bl b) V true).2.1,ops:=s.ops++[s.asd k b ((s.nd k).ops+1) l false]}:=by unfold CS.oper;rw[D,if_pos r]
   have M:(s.nd k).d.ep<=((s.nd k).operate (s.bl b) V true).1.d.ep:=by unfold AG.Nd.operate;rw[if_neg (by simp[w])];show _<=(AG.Nd.finish _).d.ep;rw[AG.finish_d];exact Int.le_of_eq (AG.step_ep (s.nd k).d (by simp)).symm
   rw[t];rw[D]at Q;refine rY f C (a:=((s.nd k).operate (s.bl b) V true).1) (out:=((s.nd k).operate (s.bl b) V true).2.1) rfl rfl rfl rfl rfl rfl rfl (by simp) ?_ M Q;obtain⟨H,u',pend,e⟩:=f.ci.begin A B x (s.bl b) V l (NG s.rs) (fun e=>by rw[c,←K,e];rfl) (by rw[c];exact w);rw[c,qC]at e;refine⟨H,u',pend,?_⟩;cases l
   ·have q:V=1+(s.ops.length:Int):=by rw[←K];rfl
    rw[q]at e⊢;exact e
   ·exact e.rev rfl (1+(s.ops.length:Int))
 ·have r:(s.nd k).operate (s.bl b) V ok=(s.nd k,[],(s.nd k).jv ((s.nd k).blk (s.bl b))):=by unfold AG.Nd.operate;rw[if_pos w]
  by_cases E:(s.nd k).jv ((s.nd k).blk (s.bl b))=3/\l=false
  ·have t:s.oper k b l ok={s with ns:=s.ns.set k (s.nd k),ops:=s.ops++[s.asd k b 0 l true]}:=by unfold CS.oper;rw[D,r,if_neg w,if_pos E]
   rw[t];refine rY f C (a:=s.nd k) (out:=[]) rfl (List.append_nil _).symm rfl rfl rfl rfl rfl (by simp) ⟨g,u,[],?_⟩ (Int.le_refl _) (by simp);rw[AG.qy _ _ _ c.symm];have S:(fun y=>sn y∨∃z∈([]:List (Int×AG.Ms)),y=z.2)=sn:=by funext y;simp
   rw[S];exact o
  ·have t:s.oper k b l ok=s:=by unfold CS.oper;rw[D,r,if_neg w,if_neg E];dsimp only;rw[NH]
   rw[t];exact⟨sn,g,u,[],⟨f.ci,f.ns,f.kn,by have:=f.bd;omega,f.nt⟩⟩
theorem fM.come(h:fM s n N){j:Int}{m:AG.Ms}(c:(j,m)∈s.net)(b:0<=m.e)(a:k<n)(ok:Bool):fM (s.come k m ok) n (N+13):=(h.receive a c b ok).look a
theorem fM.up{N':Nat}(h:fM s n N)(a:N<=N'):fM s n N':=by obtain⟨sn,g,u,h⟩:=h;exact⟨sn,g,u,fun k=>⟨(h k).ci,(h k).ns,(h k).kn,by have:=(h k).bd;omega,(h k).nt⟩⟩
end
end
section
open Go.RowKit
open Value renaming int->I,slice->J,pointer->P0
open IntKind renaming i64->T
open Option renaming none->Z,some->Y
open Obj renaming cells->G
open Value (bool)
structure Ok(s:CS)(n N:Nat):Prop where
 gs:fM s n N
 ou:eJ (n:Int) s.net
 lv:∀i (h:i<s.lv.length),0<=s.lv[i]/\s.lv[i]<=(N:Int)
theorem rB(s:CS)(i:Nat):(s.look i).net=s.net:=(wT s i).2.2.1
theorem rV(s:CS)(i:Nat):(s.look i).lv=s.lv:=(wT s i).2.1
theorem nM{m:AG.Ms}(h:Rl m):0<=m.e:=by
 obtain⟨c,d,a⟩:=oC h.1;have b:m.k=1∨m.k=2∨m.k=3∨m.k=4∨m.k=5∨m.k=6∨m.k=7∨m.k=8∨m.k=9∨m.k=10:=by omega
 rcases b with b|b|b|b|b|b|b|b|b|b<;>rw[b]at a;·exact((mJ _ _ _ _ _ _ _ _ _).1 a).1.1
 ·exact((rD _ _ _ _ _ _ _ _ _).1 a).1.1
 ·exact((mK _ _ _ _ _ _ _ _ _).1 a).1.1
 ·exact((rF _ _ _ _ _ _ _ _ _).1 a).1.1
 ·exact((rG _ _ _ _ _ _ _ _ _).1 a).1.1
 ·exact((mY _ _ _ _ _ _ _ _ _).1 a).1.1
 ·exact((mZ _ _ _ _ _ _ _ _ _).1 a).1.1
 ·exact((rH _ _ _ _ _ _ _ _ _).1 a).1.1
 ·exact((nA _ _ _ _ _ _ _ _ _).1 a).1.1
 ·exact((sX _ _ _ _ _ _ _ _ _).1 a).1.1
section
variable {s:CS} {n k N:Nat}
theorem Ok.put{N':Nat}(h:Ok s n N)(a:k<n){r:AG.Nd×List (Int×AG.Ms)}(c:i4 (s.put k r) n k N')(b:eJ (s.nd k).nodes r.2)(e:N<=N'):Ok ((s.put k r).look k) n (N'+1):=by
 refine⟨c.look a,?_,?_⟩;·rw[rB];have d:=(h.gs.ids a).2.1;rw[d]at b;exact h.ou.app b
 ·rw[rV];intro i hi;have:=h.lv i hi;exact⟨this.1,by show s.lv[i]<=_;omega⟩
theorem Ok.again(h:Ok s n N)(a:k<n):Ok (s.look k) n (N+1):=by refine⟨(h.gs.gp k).look a,by rw[rB];exact h.ou,?_⟩;rw[rV];intro i hi;have:=h.lv i hi;omega
theorem Ok.drop(h:Ok s n N)(k:Nat):Ok (s.drop k) n N:=by
 refine⟨h.gs.drop k,fun z b=>h.ou z ?_,h.lv⟩;rcases List.mem_append.1 (show z∈s.net.take k++s.net.drop (k+1) from b) with a|a;·exact List.mem_of_mem_take a
 ·exact List.mem_of_mem_drop a
theorem Ok.oper(h:Ok s n N)(c:k<n)(b:Int)(a ok:Bool)(d:1<=s.nb)(f:eJ (s.nd k).nodes (s.jk k b a ok).2.1):Ok ((s.oper k b a ok).look k) n (N+13):=by
 refine⟨(h.gs.oper c b a ok d).look c,?_,?_⟩
 ·rw[rB];have g:=(h.gs.ids c).2.1;rw[g]at f;unfold CS.oper;split;·exact h.ou.app f
  split;·exact h.ou
  ·exact h.ou
 ·rw[rV];have e:(s.oper k b a ok).lv=s.lv:=by unfold CS.oper;split;rfl;split<;>rfl
  rw[e];intro i hi;have:=h.lv i hi;omega
theorem NI(l:List Int)(k:Nat){N:Nat}(h:∀i (h:i<l.length),0<=l[i]/\l[i]<=(N:Int)):∀i (h:i<(l.set k (l.getD k 0+1)).length),0<=(l.set k (l.getD k 0+1))[i]/\(l.set k (l.getD k 0+1))[i]<=(N:Int)+1:=by
 intro i hi;have a:i<l.length:=by simpa using hi
 have c:=h i a;by_cases b:k=i;·subst b;rw[List.getElem_set_self,List.getD_eq_getElem?_getD,List.getElem?_eq_getElem a];simp only[Option.getD_some];omega
 ·rw[List.getElem_set_ne b];omega
theorem Ok.run(h:Ok s n N)(b:k<n)(a:k<s.lv.length){n':AG.Nd}(d:Cr (s.nd k) n'):Ok ((s.run k n').look k) n (N+13):=by refine⟨(h.gs.run b a d).look b,by rw[rB];exact h.ou,?_⟩;rw[rV];intro i hi;have c:=NI s.lv k h.lv i hi;exact⟨c.1,Int.le_trans c.2 (by omega)⟩
theorem Ok.up{N':Nat}(h:Ok s n N)(a:N<=N'):Ok s n N':=⟨h.gs.up a,h.ou,fun i hi=>by have:=h.lv i hi;omega⟩
theorem Ok.stO(h:Ok s n N)(b:k<n){f:Bool->AG.Nd×List (Int×AG.Ms)}(a:∀ok,i4 (s.put k (f ok)) n k (N+12))(c:∀ok,(f ok).2.length<=12):pJ s k f:=DK h.gs b (fun ok=>⟨s.put k (f ok),rfl,rfl,a ok⟩) c
theorem Ok.stR(h:Ok s n N)(a:k<n){j:Int}{m:AG.Ms}(c:(j,m)∈s.net)(b:0<=m.e):pJ s k (fun ok=>(s.nd k).receive m ok):=by have hi:=h.gs.ids a;have d:=h.gs.nn;exact h.stO a (fun ok=>h.gs.receive a c b ok) (fun ok=>by have:=AG.receive_len (s.nd k) m ok;rw[hi.2.1]at this;omega)
theorem Ok.stOp(h:Ok s n N)(c:k<n)(b:Int)(a:Bool)(e:1<=s.nb):pJ s k (fun ok=>((s.jk k b a ok).1,(s.jk k b a ok).2.1)):=by
 have hi:=h.gs.ids c;have f:=h.gs.nn;refine DK h.gs c (fun ok=>⟨s.oper k b a ok,?_,?_,h.gs.oper c b a ok e⟩) (fun ok=>?_);·unfold CS.oper;split;rfl;split<;>rfl
 ·unfold CS.oper;split;rfl;split<;>rfl
 ·have:=AG.operate_len (s.nd k) (s.bl b) (bif a then(s.nd k).d.bk (s.bl b) else 1+(s.ops.length:Int)) ok;rw[hi.2.1]at this;show(CS.jk s k b a ok).2.1.length<=12;unfold CS.jk;omega
end
end
end Go.Proofs.YtdcainmlcpafbaaGreatDoor
