import Derived.Test.YtdcainmlcpafbaaGreatDoorJ38
set_option linter.all false
set_option maxHeartbeats 100000000
set_option maxRecDepth 20000
namespace Go.Proofs.YtdcainmlcpafbaaGreatDoor
open Go.RowKit
open Value renaming slice->J,pointer->P0
open Tryz
open Tryz renaming prog->pG
open IntKind renaming i64->T
open Option renaming none->Z,some->Y
open Obj renaming cells->G
open Value (bool)
def pk(x:Int)(L:Nat)(h:0<L):∃i:Nat,eZ x%(L:Int)=(i:Int)/\i<L:=by have a:=Int.emod_nonneg (eZ x) (show(L:Int)≠0 by omega);have b:=Int.emod_lt_of_pos (eZ x) (show(0:Int)<(L:Int) by omega);exact⟨(eZ x%(L:Int)).toNat,oG,oG⟩
def CS.oq(s:CS)(i n:Nat)(b:Int):Nat->CS
 |0=>(s.put i (((s.nd i).gq (k0 ((s.nd i).d.recs.getD ((s.nd i).d.recs.length-1) ⟨0,0,0⟩).S (eZ b%32) i n) true).1,((s.nd i).gq (k0 ((s.nd i).d.recs.getD ((s.nd i).d.recs.length-1) ⟨0,0,0⟩).S (eZ b%32) i n) true).2.1)).look i
 |1=>(s.put i (((s.nd i).admi (eZ b%(n:Int)) true).1,((s.nd i).admi (eZ b%(n:Int)) true).2.1)).look i
 |k=>(s.oper i b (k==3) true).look i
@[reducible] def gG(X Wc r g c L i a:Nat)(K A Bm:Int)(w':World):Prop:=w'.cell? ⟨Wc,r,Z⟩=Y (J (Y ⟨g,0,Z⟩) L c)/\w'.cell? ⟨g,i,Z⟩=Y (P0 (Y ⟨a,0,Z⟩))/\dC w' X #[I K,I A,I Bm] 70
def gG.qo{X Wc r g c L i a base t:Nat}{K A j:Int}{v:Nat->Value}{f:Bool}{hs:List Ho}{s:CS}{w w3:World}(h:gG X Wc r g c L i a K A j w)(e:dR w Wc base t v f hs s)(d:i<hs.length)(l:r∈eR)(o:v r=J (Y ⟨g,0,Z⟩) L c)(m:g<w.heap.size)(n:¬hs[i].al X)(b:∃G,dP hs[i].al G w w3):gG X Wc r g c L i a K A j w3:=by obtain⟨_,b⟩:=b;exact⟨(World.cell?_of_block (a:=⟨Wc,r,Z⟩) (b.kept.block Wc e.blk.lt (e.ng i d))).trans h.1,(World.cell?_of_block (a:=⟨g,i,Z⟩) (b.kept.block g m (λk=>e.lq r l g (by rw[o];rfl) i d k))).trans h.2.1,b.blk h.2.2 n⟩
def PA(s:CS)(i n:Nat)(b:Int)(k:Nat)(a:k=2∨k=3):s.oq i n b k=(s.oper i b (k==3) true).look i:=by rcases a with rfl|rfl<;>simp only[CS.oq]
def OM(s:CS)(i:Nat)(b:Int)(rd ok:Bool):(s.oper i b rd ok).ns.length=s.ns.length:=by unfold CS.oper;split;simp;split<;>simp
def RF(Wc base t:Nat)(hs:List Ho)(s:CS)(N i kk:Nat)(b:Int)(w w':World):Prop:=∃hs' s',hs'.length=hs.length/\CA w' Wc base (t+1) true hs' s'/\Ok s' hs.length (N+40)/\Below base w w'/\(Qt hs->kk<4->Qt hs'/\s'=s.oq i hs.length b kk)
def qO(Wc base t:Nat)(hs:List Ho)(s:CS)(N i kk:Nat)(K b:Int)(w:World)(hs':List Ho)(s':CS)(w':World):Prop:=eZ K%10=(kk:Int)/\CA w' Wc base (t+1) true hs' s'/\Below base w w'/\qE s' i/\i<s'.ns.length/\hs'.length=hs.length/\Ok (s'.look i) hs.length (N+40)/\(Qt hs->kk<4->Qt hs'/\s'.look i=s.oq i hs.length b kk)
def RG(Wc base t:Nat)(v:Nat->Value)(hs:List Ho)(s:CS)(N i:Nat)(w:World)(f:Bool->AG.Nd×List (Int×AG.Ms))(ok:Bool)(l:Value)(WB:Nat)(w':World):Prop:=∃hs',hs'.length=hs.length/\dR w' Wc base (t+1) v true hs' {s with ns:=s.ns.set i (f ok).1}/\dY w' WB l (fS (f ok).2)/\eM (s.nd i).nodes (f ok).2/\Below base w w'/\jF (s.put i (f ok)) hs.length i (N+12)/\(f ok).2.length<=12/\(Qt hs->ok=true/\Qt hs')
def jE.nx{Kn t:Nat}{P:Pl}{C:Nat->Prop}{left n:Int}{f:AG.Nd×List (Int×AG.Ms)}{ok:Bool}{l:Value}{w w':World}(h:jE Kn P t C left n f ok l w w'):∃G,dP (wK C Kn) G w w':=by obtain⟨_,_,C',_,_,a,_⟩:=h;exact⟨_,a⟩
def yC{W w w':World}{Wc base t N i:Nat}{v:Nat->Value}{hs:List Ho}{s:CS}{f:Bool->AG.Nd×List (Int×AG.Ms)}{ok:Bool}{l:Value}(p:Ok s hs.length N)(h:dR W Wc base t v true hs s)(a:i<hs.length)(hi:i<s.ns.length)(q:Below base w W)(b:jE hs[i].Kn hs[i].P t hs[i].C hs[i].left (s.nd i).nodes (f ok) ok l W w')(k:jF (s.put i (f ok)) hs.length i (N+12))(m:(f ok).2.length<=12):RG Wc base t v hs s N i w f ok l W.heap.size w':=by have c:=CS.lg hi;have n:=(p.stO a (f:=λ_=>f ok) (λ_=>k) (λ_=>m)).id true;rw[c]at n;obtain⟨r,o,hs',g,e,j,d⟩:=h.did a hi b n;exact⟨hs',g,e,r,o,q.trans j,k,m,d.1⟩
set_option maxRecDepth 40000 in
def DM(hLO:jN)(hUO:jL)(hSO:fA)(hBW:fC)(hBS:fD)(Wc base t:Nat)(hs:List Ho)(s:CS)(N i kk:Nat)(K A e:Int)(w:World)(h:CA w Wc base t true hs s)(hg:Ok s hs.length N)(a:i<hs.length)(aN:eZ A%(hs.length:Int)=(i:Int))(o:kk<10)(b1:eZ K%10=(kk:Int))(aQ:i_ A)(a1:i_ e)(bc:i_ K)(ht:t+2<=1000000)(hN:N+100<=50000000):Calls pG 24 #[P0 (Y ⟨Wc,0,Z⟩),.agg #[I K,I A,I e]] w λq w'=>q=.returned (.tuple #[])/\RF Wc base t hs s N i kk e w w':=by
 obtain⟨v,h⟩:=h;have hn:=hg.gs.nn;have aB:=h.nb;have bC:=h.ll;have bz:=hg.gs.bd;have hi:i<s.ns.length:=oG;have a3:=CS.lg hi;have aA:=a_ w (G #[I K,I A,I e] 70);have ac:=dA (dC.new w #[I K,I A,I e] 70);have an:=dA (h.later aA);have aY:=dA (aA.mono h.jd);have ao:¬hs[i].al w.heap.size:=λn=>by have:=((h.host i a hi).lt _ n).2;omega
 have bp:=dA aN;have V:=dA b1;have p:=dA hg;have am:=dA a3;have au:=(hg.gs.ids a).2.1;have ap:=dA au;have lk:∀{s':CS} {N':Nat},jF s' hs.length i N'->N'<=N+40->qE s' i:=λn h8=>n.lk a oG;clear h aA aN b1 hg a3 au;go_enter func24,ntmps24;go_upto_region 1 with fail;generalize hX:w.heap.size=X at*;generalize World.alloc _ _=W1 at*;obtain⟨a0,aK,a6⟩:=dZ (an.row 0 dG);have c0:=an.cell (k:=0) dG;rw[a6]at c0;have bq:rN hs s 0=hs.length:=rfl;rw[bq]at c0;have ak:=dA c0;clear c0 a6;go_cut [4] (λs4 wx=>s4=I (i:Int)/\wx=W1.drew);case first=>refine eY (S:=λw'=>w'.cell? ⟨Wc,0,Z⟩=Y (J a0 hs.length aK)/\dC w' X #[I K,I A,I e] 70) (λ_=>?_) (hS:=⟨ak,ac.drew⟩);refine dB 0 ?_;refine dB 1 (v:=I A) ?_ (hy:=λw b=>by have n:=b.2.cell 1;simp at n;go_simp);refine dB 2 ?_;refine dB 3 ?_;refine dB 4 ?_;refine dB 5 (v:=J a0 hs.length aK) ?_ (hy:=λw b=>by have n:=b.1;go_simp);refine dB 6 ?_;refine dF 7 λK c=>?_;(try go_simp);go_at_call 22;refine(nR A (hs.length:Int) _ oG aQ.1 aQ.2).mono ?_;rintro q w9 ⟨rfl,U⟩;obtain rfl:=U.symm;rw[bp.out];refine k1 c (λ_=>?_) ⟨ak,ac.drew⟩;clear c K;refine dF 8 λK c=>?_;(try go_simp);refine k1 c (λ_=>?_) ⟨ak,ac.drew⟩;clear c K;refine dn ?_;go_wp2_with fail;go_meet;exact⟨rfl,rfl⟩
 obtain⟨rfl,rfl⟩:=hcut;have r:=dA (an.later (b_.drew));have a2:=dA ac.drew;have Q:Hid (Below base w W1.drew):=aY.drew;clear an ac aY ak;generalize W1.drew=W2 at*;have x0:=a2.cell 0;have x2:=a2.cell 2;simp at x0 x2;go_wp2_with fail;refine(nR K 10 _ dG bc.1 bc.2).mono ?_;rintro q w9 ⟨rfl,U⟩;obtain rfl:=U.symm;rw[V.out];have D:=dA (r.later (b_.drew));have aJ:=D.host i a hi;rw[←am.out]at aJ;have aM:=dA aJ;obtain⟨g0,F,a6,c0,ax,aZ⟩:=r.ones (k:=0) dG (show 0<hs.length by omega);have y0:=aZ i _ (show(rX hs s 0)[i]?=_ from lZ a (λh=>P0 (Y ⟨h.Kn,0,Z⟩)));rw[show rN hs s 0=hs.length from rfl]at c0 a6;have bD:(0:Int)<=(i:Int)/\(i:Int)<(hs.length:Int):=oG;have az:=dA a6;have a7:Hid (gG X Wc 0 g0 F hs.length i hs[i].Kn K A e W2.drew):=⟨c0,y0,a2.drew⟩;clear aZ a6 aJ;have a9:kk=0∨kk=1∨kk=4∨kk=2∨kk=3∨kk=8∨kk=9∨((kk=5∨kk=6∨kk=7)/\s.net.length=0)∨((kk=5∨kk=6∨kk=7)/\0<s.net.length):=oG;rcases a9 with rfl|rfl|rfl|rfl|rfl|rfl|rfl|⟨a9,h0⟩|⟨a9,h0⟩;focus
  have aw:=(p.gs.gp i).lk a oG
  have a3:=am.out
  have aF:=aw.rg
  have aS:=aw.hl
  have be:0<s.ns[i].d.recs.length:=by
   obtain⟨sn,g,u,n⟩:=p.gs
   have h8:=((n 0).ci.inv.own (j:=(i:Int)) oG oG).i0.2.2.2.2
   rw[gL,a3]at h8
   have h7:(0:Int)<=(s.ns[i].d.recs.length:Int) - 1:=h8
   omega
  simp only[a3]at aF aS
  have hS:=(aF (s.ns[i].d.recs.length-1) oG).1
  obtain⟨x,hx⟩:∃y,s.ns[i].d.recs[s.ns[i].d.recs.length-1]' oG=y:=⟨_,rfl⟩
  rw[hx]at hS
  have b9:(s.nd i).d.recs.getD ((s.nd i).d.recs.length-1) ⟨0,0,0⟩=x:=by rw[a3,List.getD_eq_getElem?_getD,List.getElem?_eq_getElem oG,hx];rfl
  have b4:=dA (LR hLO hUO Wc base t true hs s i e W2.drew v D a hi oG a1 be oG x hx hS)
  have hw:=xY x.S (eZ e%32) i hs.length
  have bB:(2:Int)^hs.length<=32:=p2 ⟨hs.length,oG⟩
  have bj:=dA b9
  obtain⟨W,ad⟩:∃y,k0 x.S (eZ e%32) i hs.length=y:=⟨_,rfl⟩
  rw[ad]at b4 hw
  have bw:=dA ad
  clear ad b9 hx aF aS aw be a3
  go_upto_region 9 with fail
  clear c0 y0 x0 x2
  go_cut [7] (λs7 wx=>∃w3 ok,dR w3 Wc base t v true hs s/\Below base W2.drew w3/\jE hs[i].Kn hs[i].P t hs[i].C hs[i].left (s.nd i).nodes (((s.nd i).gq W ok).1,((s.nd i).gq W ok).2.1) ok s7 w3 wx)
  case first=>
   refine eY (S:=gG X Wc 0 g0 F hs.length i hs[i].Kn K A e) (λ_=>?_) (hS:=a7)
   refine dB 0 ?_;refine dB 1 ?_;refine dB 2 ?_
   refine dB 3 (v:=J (Y ⟨g0,0,Z⟩) hs.length F) ?_ (hy:=λw b=>by have n:=b.1;go_simp)
   refine dB 4 ?_
   refine dB 5 (v:=P0 (Y ⟨g0,i,Z⟩)) ?_ (hy:=λw b=>by go_simp)
   refine dB 6 (v:=P0 (Y ⟨hs[i].Kn,0,Z⟩)) ?_ (hy:=λw b=>by have n:=b.2.1;go_simp)
   refine dB 7 ?_
   refine dB 8 ?_;refine dB 9 ?_
   refine dB 10 (v:=I e) ?_ (hy:=λw b=>by have n:=b.2.2.cell 2;simp at n;go_simp)
   refine dF 11 λR c=>?_
   (try go_simp)
   go_at_call 54
   refine b4.mono ?_
   rintro q w3 ⟨rfl,z,B,M⟩
   have L:=a7.qo D a dG az ax ao ⟨_,M⟩
   refine k1 c (λ_=>?_) L;clear c R
   have b0:=z.host i a hi
   rw[←am.out]at b0
   have br:=dA (b0.gq hLO hUO hSO hBW hBS oG W oG)
   refine dF 12 λR c=>?_
   (try go_simp)
   go_at_call 53
   refine br.mono ?_
   rintro q w4 ⟨l,ok,rfl,o⟩
   have aD:=L.qo z a dG az (Nat.lt_of_lt_of_le ax B.size) ao o.nx
   refine k1 c (λ_=>?_) aD;clear c R
   refine dB 13 ?_;refine dB 14 ?_;refine dB 15 ?_
   refine dF 16 λR c=>?_
   (try go_simp)
   refine k1 c (λ_=>?_) aD;clear c R
   refine dF 17 λR c=>?_
   (try go_simp)
   refine k1 c (λ_=>?_) aD;clear c R
   refine dn ?_
   go_wp2_with fail
   go_meet
   exact⟨w3,ok,z,B,o⟩
  obtain⟨w3,ok,z,B,o⟩:=hcut
  have HT:=dA (yC (f:=λok=>(((s.nd i).gq W ok).1,((s.nd i).gq W ok).2.1)) p z a hi (Q.drew.trans B) o (p.gs.gq a _ ok) (by have:=AG.promote_len (s.nd i) W ok;rw[ap.out]at this;dsimp only;omega))
  have HM:Hid (ok=true->(s.put i (((s.nd i).gq W ok).1,((s.nd i).gq W ok).2.1)).look i=s.oq i hs.length e 0):=λh=>by subst h;simp only[CS.oq];rw[bj.out,bw.out]
  clear z B o
 rotate_left;focus
  obtain⟨k,ab,bA⟩:=pk e hs.length oG
  have ar:=dA ab
  have bt:=dA (aM.admi hLO hUO hSO hBW hBS oG k (by rw[ap.out];omega))
  clear ab
  go_upto_region 12 with fail
  clear c0 y0 x0 x2
  go_cut [9] (λs9 wx=>∃ok,jE hs[i].Kn hs[i].P t hs[i].C hs[i].left (s.nd i).nodes (((s.nd i).admi k ok).1,((s.nd i).admi k ok).2.1) ok s9 W2.drew wx)
  case first=>
   refine eY (S:=gG X Wc 0 g0 F hs.length i hs[i].Kn K A e) (λ_=>?_) (hS:=a7)
   refine dB 0 ?_;refine dB 1 ?_;refine dB 2 ?_
   refine dB 3 (v:=J (Y ⟨g0,0,Z⟩) hs.length F) ?_ (hy:=λw b=>by have n:=b.1;go_simp)
   refine dB 4 ?_
   refine dB 5 (v:=P0 (Y ⟨g0,i,Z⟩)) ?_ (hy:=λw b=>by go_simp)
   refine dB 6 (v:=P0 (Y ⟨hs[i].Kn,0,Z⟩)) ?_ (hy:=λw b=>by have n:=b.2.1;go_simp)
   refine dB 7 ?_
   refine dB 8 (v:=I e) ?_ (hy:=λw b=>by have n:=b.2.2.cell 2;simp at n;go_simp)
   refine dB 9 ?_;refine dB 10 ?_;refine dB 11 ?_
   refine dB 12 (v:=J (Y ⟨g0,0,Z⟩) hs.length F) ?_ (hy:=λw b=>by have n:=b.1;go_simp)
   refine dB 13 ?_
   refine dF 14 λR c=>?_
   (try go_simp)
   go_at_call 22
   refine(nR e (hs.length:Int) _ oG a1.1 a1.2).mono ?_
   rintro q w9 ⟨rfl,U⟩
   obtain rfl:=U.symm
   rw[ar.out]
   refine k1 c (λ_=>?_) a7;clear c R
   refine dF 15 λR c=>?_
   (try go_simp)
   go_at_call 55
   refine bt.mono ?_
   rintro q w3 ⟨l,ok,rfl,o⟩
   have L:=a7.qo D a dG az ax ao o.nx
   refine k1 c (λ_=>?_) L;clear c R
   refine dB 16 ?_;refine dB 17 ?_;refine dB 18 ?_
   refine dF 19 λR c=>?_
   (try go_simp)
   refine k1 c (λ_=>?_) L;clear c R
   refine dF 20 λR c=>?_
   (try go_simp)
   refine k1 c (λ_=>?_) L;clear c R
   refine dn ?_
   go_wp2_with fail
   go_meet
   exact⟨ok,o⟩
  obtain⟨ok,o⟩:=hcut
  have HT:=dA (yC (f:=λok=>(((s.nd i).admi k ok).1,((s.nd i).admi k ok).2.1)) p D a hi Q.drew o (p.gs.admi a _ ok oG) (by have:=AG.admit_len (s.nd i) k ok;dsimp only;omega))
  have HM:Hid (ok=true->(s.put i (((s.nd i).admi k ok).1,((s.nd i).admi k ok).2.1)).look i=s.oq i hs.length e 1):=λh=>by subst h;simp only[CS.oq];rw[ar.out]
  clear o
 rotate_left;focus
  have E:=r.host i a hi
  rw[←am.out]at E
  have bk:=dA (E.retry hLO hUO hSO hBW hBS oG)
  clear E
  go_wp2_with fail
  refine bk.mono ?_
  rintro q w5 ⟨l,ok,rfl,o⟩
  have HT:=dA (yC (f:=λok=>(s.nd i).retry ok) p r a hi Q o (p.gs.retry a ok) (AG.mr _ _ (by rw[ap.out];omega)))
  have HM:=dA trivial
  clear o c0 y0 x0 x2
 rotate_left;iterate 2
  focus
   have bh:Hid (∀rd,_):=λrd=>IM hLO hUO hSO hBW hBS Wc base t hs s i e rd W2 ⟨v,r⟩ hi oG a1 oG (p.stOp a e rd aB.1)
   go_wp2_with fail
   refine(bh.out _).mono ?_
   rintro q w3 ⟨rfl,ok,hs',O,z,B,ay⟩
   have HF:Hid (qO Wc base t hs s N i _ K e w _ _ _):=⟨V,z,Q.trans B,lk (p.gs.oper a e _ ok aB.1) oG,Nat.lt_of_lt_of_eq hi (OM s i e _ ok).symm,O,(p.oper a e _ ok aB.1 ay.2).up oG,λh1 _=>by obtain⟨rfl,h2⟩:=ay.1 h1;refine⟨h2,?_⟩;rw[PA _ _ _ _ _ dG];rfl⟩
   clear z B ay
  rotate_left
 focus
  obtain⟨g2,ai,av,c2,bu,aU⟩:=r.ones (k:=2) dG (show 0<hs.length by omega)
  have y2:=aU i _ (show(rX hs s 2)[i]?=_ from lZ a (λh=>P0 (Y ⟨h.P.H,0,Z⟩)))
  rw[show rN hs s 2=hs.length from rfl]at c2 av
  have bv:=dA av;have aG:Hid (gG X Wc 2 g2 ai hs.length i hs[i].P.H K A e W2.drew):=⟨c2,y2,a2.drew⟩
  have E:=D.host i a hi
  have bg:=dA (E.nd.stop (eZ e%20) oG)
  clear aU av
  go_upto_region 29 with fail
  clear c2 y2 x0 x2 c0 y0
  refine eY (S:=gG X Wc 2 g2 ai hs.length i hs[i].P.H K A e) (λ_=>?_) (hS:=aG)
  refine dB 0 ?_;refine dB 1 ?_;refine dB 2 ?_
  refine dB 3 (v:=J (Y ⟨g2,0,Z⟩) hs.length ai) ?_ (hy:=λw b=>by have n:=b.1;go_simp)
  refine dB 4 ?_
  refine dB 5 (v:=P0 (Y ⟨g2,i,Z⟩)) ?_ (hy:=λw b=>by go_simp)
  refine dB 6 (v:=P0 (Y ⟨hs[i].P.H,0,Z⟩)) ?_ (hy:=λw b=>by have n:=b.2.1;go_simp)
  refine dB 7 ?_
  refine dB 8 (v:=I e) ?_ (hy:=λw b=>by have n:=b.2.2.cell 2;simp at n;go_simp)
  refine dF 9 λR c=>?_
  (try go_simp)
  go_at_call 22
  refine(nR e 20 _ dG a1.1 a1.2).mono ?_
  rintro q w9 ⟨rfl,U⟩
  obtain rfl:=U.symm
  refine k1 c (λ_=>?_) aG;clear c R
  refine dF 10 λR c=>?_
  (try go_simp)
  go_at_call 44
  refine bg.mono ?_
  rintro q w3 ⟨rfl,⟨left',b8⟩,M⟩
  have b5:fO w3 hs[i].Kn hs[i].P t hs[i].C left' s.ns[i]:=⟨M.blk E.blk E.ne,b8,E.ne,E.two⟩
  have aE:dP (wK hs[i].C hs[i].Kn) (wK hs[i].C hs[i].Kn) W2.drew w3:=⟨⟨M.kept.os,M.kept.tape,M.kept.output,M.kept.size,λg hg n=>M.kept.block g hg (λh8=>n (.inl h8))⟩,λg hg=>.inl hg⟩
  obtain⟨q1,q2⟩:=D.call (t':=t+1) a hi oG (b5.up oG) aE ⟨rfl,rfl,rfl⟩
  have aV:({s with ns:=s.ns.set i s.ns[i]}:CS)=s:=by rw[List.set_getElem_self hi]
  rw[aV]at q1
  have L:=aG.qo D a dG bv bu ao ⟨_,aE⟩
  refine k1 c (λ_=>?_) L;clear c R
  refine dn ?_
  have HF:Hid (qO Wc base t hs s N i _ K e w _ _ _):=⟨V,⟨v,q1⟩,Q.drew.trans q2,lk (p.gs.gp i) oG,hi,sG,(p.again a).up oG,λ_ n=>absurd n dG⟩
  clear q1 q2 b5 aE b8 M L E
 rotate_left;focus
  have aL:i<s.lv.length:=oG
  have bf:=dA (OD Wc base t hs s i e W2 ⟨v,r⟩ hi oG (λn=>by have:=p.lv i n;omega))
  go_wp2_with fail
  refine bf.mono ?_
  rintro q w3 ⟨rfl,n',hs',O,aH,z,B⟩
  have HF:Hid (qO Wc base t hs s N i _ K e w _ _ _):=⟨V,z,Q.trans B,lk (p.gs.run a aL aH) oG,by show i<(s.ns.set i _).length;simpa using hi,O,(p.run a aL aH).up oG,λ_ n=>absurd n dG⟩
  clear z B aH
 rotate_left;rcases a9 with rfl|rfl|rfl;iterate 3
  focus
   obtain⟨a5,aC,af⟩:=dZ (r.row 5 dG)
   have c5:=r.cell (k:=5) dG
   rw[af,show rN hs s 5=0 from h0]at c5
   have HU:=dA (r.up (t':=t+1) oG)
   clear af h0
   go_wp2_with fail
   refine bodyPost_ret (v:=.tuple #[]) (by simp[results,results24,go_sem]) rfl ?_
   exact⟨rfl,hs,s,rfl,⟨_,HU⟩,p.up oG,Q,λ_ n=>absurd n dG⟩
 focus
  obtain⟨k,ab,hk⟩:=pk e _ h0
  have a4:=List.getElem_mem hk
  have ho:=p.ou _ a4
  obtain⟨j,bb⟩:=Int.eq_ofNat_of_zero_le ho.1.1
  obtain⟨m,hz⟩:∃m,s.net[k]=((j:Int),m):=⟨s.net[k].2,Prod.ext bb rfl⟩
  rw[hz]at a4 ho
  have hj:j<hs.length:=Int.ofNat_lt.1 ho.1.2
  have hm:Rl m:=ho.2
  have ar:=dA ab;have HZ:=dA hz;have a8:=dA a4
  clear ab bb ho hz a4
 rcases a9 with rfl|rfl|rfl;iterate 3
  focus
   obtain⟨a5,aC,af⟩:=dZ (r.row 5 dG)
   have c5:=r.cell (k:=5) dG
   rw[af,show rN hs s 5=s.net.length from rfl]at c5
   have bm:((s.net.length:Int)==0)=false:=by rw[beq_eq_false_iff_ne];omega
   have aq:=dA c5
   clear af
   go_upto_region 6 with fail
   clear c5 bm c0 y0
   go_cut [5] (λs5 wx=>s5=I (k:Int)/\wx=W2.drew)
   case first=>
    refine eY (S:=λw'=>w'.cell? ⟨Wc,5,Z⟩=Y (J a5 s.net.length aC)/\dC w' X #[I K,I A,I e] 70) (λ_=>?_) (hS:=⟨aq,a2.drew⟩)
    refine dB 0 ?_
    refine dB 1 (v:=I e) ?_ (hy:=λw b=>by have n:=b.2.cell 2;simp at n;go_simp)
    refine dB 2 ?_;refine dB 3 ?_;refine dB 4 ?_
    refine dB 5 (v:=J a5 s.net.length aC) ?_ (hy:=λw b=>by have n:=b.1;go_simp)
    refine dB 6 ?_
    refine dF 7 λK c=>?_
    (try go_simp)
    go_at_call 22
    refine(nR e (s.net.length:Int) _ oG a1.1 a1.2).mono ?_
    rintro q w9 ⟨rfl,U⟩
    obtain rfl:=U.symm
    rw[ar.out]
    refine k1 c (λ_=>?_) ⟨aq,a2.drew⟩;clear c K
    refine dF 8 λK c=>?_
    (try go_simp)
    refine k1 c (λ_=>?_) ⟨aq,a2.drew⟩;clear c K
    refine dn ?_
    go_wp2_with fail
    go_meet
    exact⟨rfl,rfl⟩
   obtain⟨rfl,rfl⟩:=hcut
   have b2:Hid (Below base w W2.drew):=Q.drew
   clear r a2 Q aq a7 aM x0 x2
   generalize W2.drew=W3 at*
  rotate_left
 iterate 3
  focus
   obtain⟨hs',O,ag,d1,d2,ah,hp,hl,hq⟩:=HT.out
   have aR:=dA (xF Wc base (t+1) true hs' _ _ _ _ _ v ag d1 (by rw[show(hs'.length:Int)=(s.nd i).nodes by rw[ap.out,O]];exact d2) (by show s.net.length+_<=_;omega))
   have bs:=dA ah;have b7:=dA hp;have bi:=dA d2;have aT:=dA hq
   clear ag d1 d2 ah hp hq HT
   go_wp2_with fail
   refine aR.mono ?_
   rintro q w6 ⟨rfl,aX,b3,_⟩
   have HF:Hid (qO Wc base t hs s N i _ K e w _ _ _):=⟨V,aX,bs.trans b3,lk b7 oG,by show i<(s.ns.set i _).length;simpa using hi,O,(p.put a b7 bi oG).up oG,λh1 h2=>by first|exact absurd h2 dG|exact⟨(aT.out h1).2,HM.out (aT.out h1).1⟩⟩
   clear aR aX b3
  rotate_left
 rotate_left 4;iterate 2
  focus
   have ba:=dA (DG hLO hUO hSO hBW hBS Wc base t hs s k j m W3 ⟨v,D⟩ hk HZ oG hm ht oG (p.stR hj a8 (oI hm)) (λok=>(p.gs.receive hj a8 (oI hm) ok).lk hj oG))
   go_wp2_with fail
   refine ba.mono ?_
   rintro q w4 ⟨rfl,ok,hs',O,aa,aj,aP⟩
   have b6:=dA (b2.trans aj);have aO:Hid (CA w4 Wc base (t+1) true hs' (s.come j m ok)):=aa
   have bx:=fP.bd (p.gs.come a8 (oI hm) hj ok)
   have aI:=OF s j m ok
   have aW:=dA (p.put hj (p.gs.receive hj a8 (oI hm) ok) aP.2 oG)
   clear ba aa aj aP
  rotate_left
 focus
  have ae:=dA (DH Wc base t true hs s k W3 ⟨v,D⟩ hk oG)
  go_wp2_with fail
  refine ae.mono ?_
  rintro q w4 ⟨rfl,⟨v4,aa⟩,aj⟩
  have HF:Hid (qO Wc base t hs s N i _ K e w _ _ _):=⟨V,⟨v4,aa.up oG⟩,b2.trans aj,lk ((p.gs.drop k).gp i) oG,hi,rfl,((p.drop k).again a).up oG,λ_ n=>absurd n dG⟩
  clear ae aa aj
 rotate_left;rotate_left 7;focus
  have HF:Hid (qO Wc base t hs s N i _ K e w _ _ _):=⟨V,aO,b6,lk ((p.gs.come a8 (oI hm) hj ok).gp i) oG,by rw[aI.1];exact hi,O,(aW.again a).up oG,λ_ n=>absurd n dG⟩
 rotate_left;focus
  have ae:=dA (DH Wc base (t+1) true hs' (s.come j m ok) k w4 aO (Nat.lt_of_lt_of_le hk aI.2) oG)
  go_wp2_with fail
  refine ae.mono ?_
  rintro q w5 ⟨rfl,ag,ah⟩
  have HF:Hid (qO Wc base t hs s N i _ K e w _ _ _):=⟨V,ag,b6.trans ah,lk (((p.gs.come a8 (oI hm) hj ok).drop k).gp i) oG,by show i<(s.come j m ok).ns.length;rw[aI.1];exact hi,O,((aW.drop k).again a).up oG,λ_ n=>absurd n dG⟩
  clear ae ag ah
 all_goals
  obtain⟨_,e1,e2,e3,e4,e5,e6,e7⟩:=HF.out
  have bo:=dA (DF hLO hUO Wc base (t+1) _ _ i _ e1 e4 oG e3)
  clear e1 e2 e3 e4 e5 e6 e7
  go_wp2_with fail
  refine bo.mono ?_
  rintro q w9 ⟨rfl,bn,bl⟩
  go_wp2_with fail
  refine bodyPost_end (v:=.tuple #[]) (by simp[results,results24,go_sem]) rfl ?_
  obtain⟨_,e1,e2,e3,e4,e5,e6,e7⟩:=HF.out
  exact⟨rfl,_,_,e5,bn,e6,e2.trans bl,e7⟩
namespace AG
def Inv.oz{n nb:Int}{x:Int->Nd}(c:2<=n/\n<=5)(b:∀j,0<=j->j<n->x j=Nd.first j n nb):Inv n nb x (λ_=>False) Gh.none (Gv.none n):=by
 have h:=Inv.first (nb:=nb) c;have v:=h.vx;refine⟨c,?_,λ{j} h0 h1=>?_,rfl,λh=>h.elim,λh=>h.elim,λh=>h.elim,λh=>h.elim⟩
 ·refine{a1:=λh=>h.elim,a2:=λh=>h.elim,a3:=λh=>h.elim,a4:=λh=>h.elim,a5:=λh=>h.elim,a6:=λh=>h.elim,n1:=λh=>h.elim,n2:=λ{j e} h0 h1=>?_,lm:=λ{j e} h0 h1=>?_,n3:=λh=>h.elim,n4:=λh=>h.elim,n5:=λ{j} h0 h1=>?_,n6:=λ_ _ _ _ h=>h,n7:=λ{j} h0 h1=>?_,n8:=λ{j} h0 h1=>?_,r1:=λh=>h.elim,r2:=λh=>h.elim};·have a:=v.n2 (e:=e) h0 h1;simp only[b j h0 h1];exact a
  ·have a:=v.lm (e:=e) h0 h1;simp only[b j h0 h1];exact a
  ·have a:=v.n5 h0 h1;simp only[b j h0 h1];exact a
  ·have a:=v.n7 h0 h1;simp only[b j h0 h1];exact a
  ·have a:=v.n8 h0 h1;simp only[b j h0 h1];exact a
 ·rw[b j h0 h1];exact h.own h0 h1
def CI.oz{n nb:Int}{x:Int->Nd}(d:2<=n/\n<=5)(a:∀j,0<=j->j<n->x j=Nd.first j n nb)(k:Int):CI n nb x (λ_=>False) Gh.none (Gv.none n) (λ_=>0) [] [] [⟨0,0,2 ^ n.toNat - 1⟩] k []:=by
 have c:=CI.first (nb:=nb) d;refine⟨Inv.oz d a,sG,λ{j} h0 h1=>by rw[a j h0 h1];exact c.oh h0 h1,sG,λ{j} h0 h1 h=>?_,sG,λh=>h.elim,λ{j} h0 h1=>by rw[a j h0 h1];simp[Nd.first],.inl rfl,sG,λi b=>?_,λ{j} h0 h1=>.inl (by rw[a j h0 h1];simp[Nd.first,Du.first,Du.ep])⟩;·rw[a j h0 h1]at h;simp[Nd.first]at h
 ·have:i=0:=by simp at b;omega
  subst this;exact⟨rfl,0,oG,oG,by rw[a 0 oG oG];simp[Nd.first,Du.first,Du.ep]⟩
end AG
def D9{n:Nat}{nb:Int}(l:2<=n/\n<=5):Ok (CS.fst n nb n) n 1:=by
 have a:∀j,j<n->(CS.fst n nb n).nd j=AG.Nd.first (j:Int) (n:Int) nb:=by intro j d;unfold CS.nd;show((List.range n).map (λi:Nat=>AG.Nd.first (i:Int) (n:Int) nb)).getD j _=_;rw[List.getD_eq_getElem?_getD,List.getElem?_map,List.getElem?_range d];rfl
 have c:(CS.fst n nb n).lf=λ_=>0:=by
  funext j;unfold CS.lf;split;·show(List.replicate n (0:Int)).getD j.toNat 0=0;rw[List.getD_eq_getElem?_getD,List.getElem?_replicate];split<;>rfl
  ·rfl
 have b:∀j,0<=j->j<(n:Int)->(CS.fst n nb n).xf j=AG.Nd.first j n (CS.fst n nb n).nb:=λj f m=>by have g:=a j.toNat oG;unfold CS.xf;rw[if_pos f,g,show((j.toNat:Nat):Int)=j by omega];rfl
 refine⟨⟨(λ_=>False),AG.Gh.none,AG.Gv.none (n:Int),λk=>⟨?_,?_,λj d=>?_,by simp[CS.fst],by simp[CS.fst],_,by rw[c];exact AG.LI.first _ _ b _⟩⟩,by intro z h;simp[CS.fst]at h,?_⟩;·rw[c];exact AG.CI.oz oG b _
 ·simp[CS.fst]
 ·rw[a j d];show(List.replicate n (1:Int)).getD j 0<=_;rw[List.getD_eq_getElem?_getD,List.getElem?_replicate,if_pos d];simp[AG.Nd.first,AG.Du.first]
 ·intro i hi;have e:(CS.fst n nb n).lv[i]=0:=by simp[CS.fst]
  rw[e];omega
def ON(s:CS)(k:Nat):∃l,(s.cm k).net=s.net++l:=by
 unfold CS.cm;split;·exact⟨[],(List.append_nil _).symm⟩
 ·unfold CS.come;rw[sD];exact⟨_,rfl⟩
def xI(s:CS)(k:Nat):∀d,∃l,(s.jg (k+d)).net=(s.jg k).net++l
 |0=>⟨[],(List.append_nil _).symm⟩
 |d+1=>by obtain⟨l,h⟩:=xI s k d;obtain⟨a,b⟩:=ON (s.jg (k+d)) (k+d);exact⟨l++a,by show((s.jg (k+d)).cm (k+d)).net=_;rw[b,h,List.append_assoc]⟩
def Ok.sub{s:CS}{n N:Nat}(h:Ok s n N){l:List (Int×AG.Ms)}(d:∀z∈l,z∈s.net)(e:l.length<=s.net.length):Ok {s with net:=l} n N:=by obtain⟨sn,g,u,a⟩:=h.gs;refine⟨⟨sn,g,u,λj=>⟨(a j).ci,(a j).ns,(a j).kn,?_,λz c=>(a j).nt z (d z c),(a j).li⟩⟩,λz c=>h.ou z (d z c),h.lv⟩;have b:=(a j).bd;exact⟨b.1,b.2.1,b.2.2.1,b.2.2.2.1,Nat.le_trans e b.2.2.2.2⟩
def vC(n:Nat)(z:Int×AG.Ms):Bool:=(decide (0<=z.1)&&decide (z.1<(n:Int)))&&(fH z.2.k z.2.f [0,z.2.e,z.2.b,z.2.wa,z.2.p,z.2.s,z.2.q,z.2.bl,z.2.v,(z.2.zs.length:Int)]&&(z.2.zs.all (λy=>decide (-9223372036854775808<=y)&&decide (y<=9223372036854775807))&&(!(z.2.k==9)||decide (1<=z.2.zs.length))))
def qP(n:Nat):Nat->CS->Bool
 |0,_=>true
 |m+1,s=>decide (s.net.length=0)||(decide (s.net.length<=1000)&&((s.jg s.net.length).net.all (vC n)&&qP n m s.pass))
def A0:CS:=CS.fst 2 1 2
def A1:CS:=A0.oq 1 2 0 0
def A2:CS:=CS.ji 9 A1
def A3:CS:=A2.oq 1 2 0 2
def A4:CS:=A3.oq 1 2 0 3
def A5:CS:=A4.oq 1 2 0 1
def A6:CS:=CS.ji 9 A5
def A7:CS:=A6.oq 1 2 0 2
def A8:CS:=CS.ji 9 A7
def yS{n:Nat}{z:Int×AG.Ms}(h:vC n z=true):(0<=z.1/\z.1<(n:Int))/\Rl z.2:=by unfold vC at h;simp only[Bool.and_eq_true,decide_eq_true_eq,List.all_eq_true,Bool.or_eq_true,Bool.not_eq_true',beq_eq_false_iff_ne]at h;exact⟨h.1,h.2.1,h.2.2.1,λa=>h.2.2.2.resolve_left (λb=>b a)⟩
def EA{n:Nat}:∀(M:Nat) (s:CS) (N:Nat),Ok s n N->qP n M s=true->N+13000*M<=40000000->tC M s/\Ok (CS.ji M s) n (N+13000*M)
 |0,s,N,h,_,_=>⟨trivial,h⟩
 |M+1,s,N,h,hb,hN=>by
  by_cases x:s.net.length=0
  ·refine⟨.inl x,?_⟩;have e:CS.ji (M+1) s=s:=by show(bif decide (s.net.length=0) then s else _)=s;rw[decide_eq_true x];rfl
   rw[e];exact h.up oG
  ·have t:(decide (s.net.length=0)||(decide (s.net.length<=1000)&&((s.jg s.net.length).net.all (vC n)&&qP n M s.pass)))=true:=hb;simp only[x,decide_false,Bool.false_or,Bool.and_eq_true,decide_eq_true_eq,List.all_eq_true]at t;obtain⟨E,d,o⟩:=t;have F:=h.gs.nn;have f:∀k,k<=s.net.length->∀z∈(s.jg k).net,z∈(s.jg s.net.length).net:=by intro k v z w;obtain⟨l,r⟩:=xI s k (s.net.length-k);rw[show k+(s.net.length-k)=s.net.length by omega]at r;rw[r];exact List.mem_append_left _ w
   have c:∀k,s.net.length<=(s.jg k).net.length:=by intro k;obtain⟨l,r⟩:=xI s 0 k;rw[show 0+k=k by omega]at r;rw[r,List.length_append];exact Nat.le_add_right _ _
   have g:∀k,k<=s.net.length->Ok (s.jg k) n (N+13*k):=by
    intro k;induction k with
    |zero=>intro _;exact h
    |succ k ih=>
     intro v;have p:=ih oG;have b:k<(s.jg k).net.length:=Nat.lt_of_lt_of_le v (c k);have a:=List.getElem_mem b;obtain⟨D,u⟩:=yS (d _ (f k oG _ a));have q:(s.jg k).net[k].1.toNat<n:=oG;have e:s.jg (k+1)=(s.jg k).come (s.jg k).net[k].1.toNat (s.jg k).net[k].2 true:=by show(s.jg k).cm k=_;unfold CS.cm;rw[List.getElem?_eq_getElem b]
     refine⟨?_,λz w=>yS (d z (f (k+1) v z w)),?_⟩;·rw[e];exact(p.gs.come (j:=(s.jg k).net[k].1) (m:=(s.jg k).net[k].2) a (oI u) q true).up oG
     ·rw[e];unfold CS.come;rw[sT];intro i hi;have:=p.lv i hi;exact⟨this.1,by show(s.jg k).lv[i]<=_;omega⟩
   have C:Ok s.pass n (N+13*s.net.length):=(g s.net.length r_).sub (λz w=>List.mem_of_mem_drop w) (by rw[List.length_drop];exact Nat.sub_le _ _);obtain⟨y,A⟩:=EA M s.pass (N+13*s.net.length) C o oG;refine⟨.inr ⟨⟨E,λk v=>?_⟩,c _,?_,y⟩,?_⟩;·have p:=g k oG;have b:k<(s.jg k).net.length:=Nat.lt_of_lt_of_le v (c k);have a:=List.getElem_mem b;obtain⟨D,u⟩:=yS (d _ (f k oG _ a));have q:(s.jg k).net[k].1.toNat<n:=oG;have B:=fP.bd (p.gs);refine⟨⟨(s.jg k).net[k].1.toNat,(s.jg k).net[k].2,b,?_,by rw[p.gs.nn.2];exact q,u,p.stR q (j:=(s.jg k).net[k].1) a (oI u),λok=>(p.gs.receive q (j:=(s.jg k).net[k].1) a (oI u) ok).lk q oG⟩,oG⟩;rw[show(((s.jg k).net[k].1.toNat:Nat):Int)=(s.jg k).net[k].1 by omega]
   ·have B:=fP.bd ((g s.net.length r_).gs);omega
   ·have e:CS.ji (M+1) s=CS.ji M s.pass:=by show(bif decide (s.net.length=0) then s else _)=_;rw[decide_eq_false x];rfl
    rw[e];exact A.up oG
def RH:qP 2 9 A1=true:=by decide +kernel
def RI:qP 2 9 A5=true:=by decide +kernel
def RJ:qP 2 9 A7=true:=by decide +kernel
def nM:A4.rs.map (λr=>r.v)=[1,1]/\A4.hi.length=2/\A7.rs.length=2/\A8.rs.length=3/\A8.hi.map (λr=>(r.E,r.P,r.S))=[(0,0,3),(1,2,2),(2,2,3)]:=by decide +kernel
def OO:(Tryz.prog.info? 72).map (λi=>(i.zero,i.size,i.bytes))=Y (Y (P0 Z),1,8):=kG
def OP:(Tryz.prog.info? 33).map (λi=>(i.zero,i.size,i.bytes))=Y (Y (P0 Z),1,8):=kG
def OQ:(Tryz.prog.info? 34).map (λi=>(i.zero,i.size,i.bytes))=Y (Y (P0 Z),1,8):=kG
def JZ{w:World}{a low i n:Nat}{nb:Int}(l:DS 98 107 low w a (J Z 0 0) [] (-1))(h:fQ w (a+1) (a+2) a)(hs:w.heap.size=a+3)(k:2<=n/\n<=5)(hi:i<n)(b:1<=nb/\nb<=4):rQ w (AG.Nd.first (i:Int) (n:Int) nb) 0 low (a+1) (a+2) a a (J Z 0 0) [] [] [] (fE (i:Int) (n:Int) 0 true):=by
 have s:n=2∨n=3∨n=4∨n=5:=oG;have hS:(0:Int)<=2^(n:Int).toNat - 1/\(2:Int)^(n:Int).toNat - 1<=31:=by rcases s with rfl|rfl|rfl|rfl<;>decide
 refine⟨⟨h,l,oG,oG,dG,sG,sG⟩,?_,by intro f d;simp at d,rfl,rfl,.inl rfl,by intro m o;simp at o,sG,rfl,?_,?_,?_,?_,?_,b⟩
 ·rintro g (rfl|rfl|rfl|p);·omega
  ·omega
  ·omega
  ·simp[Value.ownBlock]at p
 ·refine⟨by simp[fE,Kq],by intro y hy;simp[fE]at hy,⟨[],rfl⟩,?_,by simp[fE],by simp[fE],by simp[fE,i_],by simp[fE,i_],by simp[fE,i_],by simp[fE,i_]⟩;intro j q;have e:j=0:=by simp[fE]at q;omega
  subst e;exact⟨rfl,⟨Int.le_refl _,by show(0:Int)<=5;decide⟩,hS⟩
 ·refine⟨by simp[fE],by simp[fE],by simp[fE],by simp[fE],by simp[fE],?_,by simp[fE];omega⟩;intro r c;simp[fE]at c;subst c;exact⟨Int.le_refl _,by show(0:Int)<=_;decide⟩
 ·rw[D8 i n nb k];exact .inl ⟨[],rfl,λ_=>rfl⟩
 ·show 2<=(n:Int)/\(n:Int)<=5;omega
 ·show 0<=(i:Int)/\(i:Int)<(n:Int);omega
def DN(a b:Int)(n:Nat)(nb:Int)(w:World)(hT:dW w)(ha:i_ a)(hb:i_ b)(hn:eZ a%4=(n:Int)-2)(c9:eZ b%4=nb-1):Calls pG 47 #[.agg #[I a,I b]] w λq w'=>∃Wc hs,q=.returned (P0 (Y ⟨Wc,0,Z⟩))/\CA w' Wc w.heap.size 1 true hs (CS.fst n nb n)/\Qt hs/\hs.length=n/\Below w.heap.size w w':=by
 have cb:2<=n/\n<=5:=by have h1:=Int.emod_nonneg (eZ a) (show(4:Int)≠0 by decide);have h2:=Int.emod_lt_of_pos (eZ a) (show(0:Int)<4 by decide);omega
 have aR:1<=nb/\nb<=4:=by have h1:=Int.emod_nonneg (eZ b) (show(4:Int)≠0 by decide);have h2:=Int.emod_lt_of_pos (eZ b) (show(0:Int)<4 by decide);omega
 have HA:=dA ha;have HB:=dA hb;have HN:=dA hn;have cQ:=dA c9;have HT:=dA hT;clear ha hb hn c9;have bU:=a_ w (G #[I a,I b] 47);have av:=dA (dC.new w #[I a,I b] 47);have cc:=dA bU;clear bU;go_enter func47,ntmps47;go_upto_region 1 with fail;generalize hX:w.heap.size=X at*;generalize World.alloc _ _=W1 at*;have x0:=av.cell 0;have x1:=av.cell 1;simp at x0 x1;go_wp2_with fail;refine(nR a 4 _ dG HA.1 HA.2).mono ?_;rintro q w9 ⟨rfl,be⟩;obtain rfl:=be.symm;rw[HN.out];have cY:IntKind.i64.wrap (2+((n:Int)-2))=(n:Int):=by rw[show(2:Int)+((n:Int)-2)=(n:Int) by omega];exact IntWalk.i64_in _ oG
 have d2:IntKind.i64.wrap (1+(nb-1))=nb:=by rw[show(1:Int)+(nb-1)=nb by omega];exact IntWalk.i64_in _ oG
 go_wp2_with fail;refine(nR b 4 _ dG HB.1 HB.2).mono ?_;rintro q w9 ⟨rfl,be⟩;obtain rfl:=be.symm;rw[cQ.out];go_upto_region 4 with fail;have cD:X<W1.heap.size:=av.lt;have cq:=a_ W1 (G (jA (λ_=>J Z 0 0) nb true) 63);have bB:=dC.new W1 (jA (λ_=>J Z 0 0) nb true) 63;have bs:Hid (Below X w (W1.alloc (G (jA (λ_=>J Z 0 0) nb true) 63))):=cc.trans (cq.mono (Nat.le_of_lt cD));have bz:dW (W1.alloc (G (jA (λ_=>J Z 0 0) nb true) 63)):=HT.below bs (by rw[←hX];exact HT.two);have bd:Hid (Bg (W1.alloc (G (jA (λ_=>J Z 0 0) nb true) 63)) W1.heap.size X (λ_=>J Z 0 0) nb [] [] (λ_=>0) (λ_=>[])):=by refine⟨⟨bB,λk hk=>World.ownsRow_nil _ _ _ _,λg x=>by simp[Value.ownBlock]at x⟩,rfl,λi hi=>absurd hi (Nat.not_lt_zero i),λi j hi=>absurd hi (Nat.not_lt_zero i),λk hk g x=>by simp[Value.ownBlock]at x,λi hi=>absurd hi (Nat.not_lt_zero i),⟨Nat.le_of_lt cD,by rw[←hX];exact HT.two,λi hi=>absurd hi (Nat.not_lt_zero i)⟩,bz,λh hh=>by simp at hh⟩
 obtain⟨Wc,bE⟩:∃y,W1.heap.size=y:=⟨_,rfl⟩;rw[bE]at bd;simp only[bE];have aN:Hid (∃v hs,Bg (W1.alloc (G (jA (λ_=>J Z 0 0) nb true) 63)) Wc X v nb hs (CS.fst n nb 0).ns (rN hs {CS.fst n nb 0 with hi:=[]}) (rX hs {CS.fst n nb 0 with hi:=[]})/\hs.length=0):=by refine⟨_,[],bd.cong ?_,rfl⟩;intro k hk;simp only[eR,List.mem_cons,List.mem_nil_iff,or_false]at hk;rcases hk with rfl|rfl|rfl|rfl|rfl|rfl|rfl|rfl|rfl|rfl<;>exact⟨rfl,rfl⟩
 have e9:(W1.alloc (Obj.cells #[J Z 0 0,J Z 0 0,J Z 0 0,J Z 0 0,I nb,J Z 0 0,J Z 0 0,J Z 0 0,J Z 0 0,J Z 0 0,J Z 0 0,bool true] 63))=(W1.alloc (G (jA (λ_=>J Z 0 0) nb true) 63)):=rfl;rw[e9];clear bd bB cq bz e9 av cc x0 x1;generalize World.alloc _ _=W2 at*;go_loopw [5] (λs5 wr=>∃m:Nat,m<=n/\s5=I (m:Int)/\∃v hs,Bg wr Wc X v nb hs (CS.fst n nb m).ns (rN hs {CS.fst n nb m with hi:=[]}) (rX hs {CS.fst n nb m with hi:=[]})/\hs.length=m/\Below X w wr) (λs5 wr=>n - (intOf s5).toNat);case atStart=>obtain⟨v,hs,h1,h2⟩:=aN.out;exact⟨0,oG,rfl,v,hs,h1,h2,bs⟩
 case round=>
 clear aN bs;obtain⟨m,d0,rfl,v,hs,ax,al,au⟩:=hrel;by_cases cN:m<n
 ·have cW:decide ((m:Int)<(n:Int))=true:=by simp;omega
  have HG:=dA ax;have HW:=dA au;have A:=dA al;clear ax au al;go_wp2_with fail;refine(BD X wr).mono ?_;rintro q w3 ⟨rfl,hD,hH,a3,bu⟩;have bx:Hid (Calls pG 66 #[I (m:Int),I (n:Int),I nb,P0 (Y ⟨wr.heap.size+1,0,Z⟩)] w3 λr w'=>∃Kn Nd Mp C',r=.returned (.tuple #[P0 (Y ⟨Kn,0,Z⟩),I 0])/\fO w' Kn ⟨X,Nd,Mp,wr.heap.size+1,wr.heap.size+2,wr.heap.size⟩ 1 C' (-1) (AG.Nd.first (m:Int) (n:Int) nb)/\(∀g,C' g∨g=Kn->wr.heap.size<=g)/\Below w3.heap.size w3 w'):=by have x:=rQ.new (JZ hD hH bu cb cN aR) dG (HG.later a3).tabs (Nat.le_trans HG.jd a3.size) HG.tabs.two;rw[D8 m n nb cb]at x;exact x
  have cv:=dA (HG.later a3);have bg:=dA a3;have c4:=cv.cr.blk.cell 4;simp at c4;have cV:=bu;clear hD hH a3;go_wp2_with fail;refine bx.mono ?_;rintro q w4 ⟨Kn,Nd,Mp,C',rfl,bG,bH,cE⟩;have bp:Below wr.heap.size wr w4:=bg.trans (cE.mono bg.size);have a2:=dA (HG.more bp (h':=⟨Kn,⟨X,Nd,Mp,wr.heap.size+1,wr.heap.size+2,wr.heap.size⟩,C',-1⟩) bG (λg hg=>bH g hg) rfl);have co:Hid (Below X w w4):=HW.trans (bp.mono HG.jd);clear bx bG bH cE bp cv c4 bg HG HW;generalize wr.heap.size=z at*;have N:rN hs {CS.fst n nb m with hi:=[]} 0=m/\rN hs {CS.fst n nb m with hi:=[]} 1=m/\rN hs {CS.fst n nb m with hi:=[]} 2=m/\rN hs {CS.fst n nb m with hi:=[]} 3=m/\rN hs {CS.fst n nb m with hi:=[]} 10=m:=by refine⟨A,A,A,?_,?_⟩<;>simp[rN,CS.fst]
  obtain⟨F,ah⟩:∃y,rN hs {CS.fst n nb m with hi:=[]}=y:=⟨_,rfl⟩;obtain⟨X0,bl⟩:∃y,rX hs {CS.fst n nb m with hi:=[]}=y:=⟨_,rfl⟩;rw[ah,bl]at a2;rw[ah]at N;have cI:=dA ah;have cS:=dA bl;have HL:=dA N;clear ah bl N;have aZ:Hid (F 0=m/\F 1=m/\F 2=m/\F 3=m/\F 10=m):=HL.out;clear HL;obtain⟨cP,cR,bC,cH,cz⟩:=info_parts OO;have aC:=dA (a2.later (a_ w4 (G #[P0 (Y ⟨Kn,0,Z⟩)] 72)));have aH:Hid (Below X w (w4.alloc (G #[P0 (Y ⟨Kn,0,Z⟩)] 72))):=co.trans ((a_ w4 _).mono a2.jd);have aa:Hid (F 0=m):=aZ.1;have c0:=a2.cr.cell (k:=0) dG;obtain⟨bA,D⟩:∃y,v 0=y:=⟨_,rfl⟩;rw[D]at c0;have O:=aC.cr.row 0 dG;rw[D]at O;have aU:Hid ((w4.alloc (G #[P0 (Y ⟨Kn,0,Z⟩)] 72)).ownsRow X 72 1 bA (F 0) (X0 0)):=O;have a8:=dA D;have bZ:(w4.alloc (G #[P0 (Y ⟨Kn,0,Z⟩)] 72)).cell? ⟨w4.heap.size,0,Z⟩=Y (P0 (Y ⟨Kn,0,Z⟩)):=sG;clear O D;go_wp2_with(at_builtin;go_loud (refine pO rfl _ _ 56 rfl X 72 cP (P0 Z) 1 8 underlying56 cR bC cH cz rfl dG bA (F 0) (X0 0) eG aU ⟨w4.heap.size,0,Z⟩ 1 1 [P0 (Y ⟨Kn,0,Z⟩)] dG eG rfl ?c2 ?c3 ?c4 ?c5 ?c6 ?_));case c2=>
   intro j u c;rw[Go.WideShapes.add_plain];have hj:j=0:=by have:=(List.getElem?_eq_some_iff.1 c).1;simpa using this
   subst hj;simp at c;subst c;simpa using bZ
  case c3=>intro u c;simp at c;subst c;rfl
  case c4=>rw[aa.out];unfold maxLen;omega
  case c5=>rw[aa.out];omega
  case c6=>exact aC.jd
  intro d5 cs aW b1 aX;obtain⟨ac,az,p⟩:=dZ aW;subst p;rw[←a8.out]at b1 aX;obtain⟨B,p2,d,t⟩:=aC.push (k:=0) (m:=1) (news:=[P0 (Y ⟨Kn,0,Z⟩)]) (v3:=(J ac (F 0+1) az)) dG aW b1 aX;rw[a8.out]at B;have aT:Hid (Below X w (cs.setCell ⟨Wc,0,Z⟩ (J ac (F 0+1) az))):=aH.trans t;obtain⟨L,aF⟩:∃y,jY F 0 (F 0+1)=y:=⟨_,rfl⟩;obtain⟨X1,aY⟩:∃y,jY X0 0 (X0 0++[P0 (Y ⟨Kn,0,Z⟩)])=y:=⟨_,rfl⟩;obtain⟨v1,bM⟩:∃y,gI v 0 (J ac (F 0+1) az)=y:=⟨_,rfl⟩;rw[aF,aY,bM]at d;have b9:Hid (L 1=m/\L 2=m/\L 3=m/\L 10=m):=by have x:=aZ.out;unfold Hid;rw[←aF];simp only[jY];exact x.2
  have aw:=dA d;have bK:=dA aF;have cm:=dA aY;clear aW b1 aX d t aU aC aH aa c0 bZ a8 aF aY bM aZ co a2;go_upto_region 11 with fail;generalize cs.setCell ⟨Wc,0,Z⟩ (J ac (F 0+1) az)=f at*;clear B p2;obtain⟨cO,cM,ct,bv,bL⟩:=info_parts OP;have ae:=dA (aw.later (a_ f (G #[P0 (Y ⟨z+1,0,Z⟩)] 33)));have aQ:Hid (Below X w (f.alloc (G #[P0 (Y ⟨z+1,0,Z⟩)] 33))):=aT.trans ((a_ f _).mono aw.jd);have V:Hid (L 1=m):=b9.1;have c1:=aw.cr.cell (k:=1) dG;obtain⟨cB,K⟩:∃y,v1 1=y:=⟨_,rfl⟩;rw[K]at c1;have a6:=ae.cr.row 1 dG;rw[K]at a6;have aO:Hid ((f.alloc (G #[P0 (Y ⟨z+1,0,Z⟩)] 33)).ownsRow X 33 1 cB (L 1) (X1 1)):=a6;have ab:=dA K;have cl:(f.alloc (G #[P0 (Y ⟨z+1,0,Z⟩)] 33)).cell? ⟨f.heap.size,0,Z⟩=Y (P0 (Y ⟨z+1,0,Z⟩)):=sG;clear a6 K;go_wp2_with(at_builtin;go_loud (refine pO rfl _ _ 57 rfl X 33 cO (P0 Z) 1 8 underlying57 cM ct bv bL rfl dG cB (L 1) (X1 1) eG aO ⟨f.heap.size,0,Z⟩ 1 1 [P0 (Y ⟨z+1,0,Z⟩)] dG eG rfl ?c2 ?c3 ?c4 ?c5 ?c6 ?_));case c2=>
   intro j u c;rw[Go.WideShapes.add_plain];have hj:j=0:=by have:=(List.getElem?_eq_some_iff.1 c).1;simpa using this
   subst hj;simp at c;subst c;simpa using cl
  case c3=>intro u c;simp at c;subst c;rfl
  case c4=>rw[V.out];unfold maxLen;omega
  case c5=>rw[V.out];omega
  case c6=>exact ae.jd
  intro d3 cu bj b6 b3;obtain⟨ar,ag,p⟩:=dZ bj;subst p;rw[←ab.out]at b6 b3;obtain⟨B,p2,d,t⟩:=ae.push (k:=1) (m:=1) (news:=[P0 (Y ⟨z+1,0,Z⟩)]) (v3:=(J ar (L 1+1) ag)) dG bj b6 b3;rw[ab.out]at B;have aJ:Hid (Below X w (cu.setCell ⟨Wc,1,Z⟩ (J ar (L 1+1) ag))):=aQ.trans t;obtain⟨M,ak⟩:∃y,jY L 1 (L 1+1)=y:=⟨_,rfl⟩;obtain⟨X2,b4⟩:∃y,jY X1 1 (X1 1++[P0 (Y ⟨z+1,0,Z⟩)])=y:=⟨_,rfl⟩;obtain⟨v2,ce⟩:∃y,gI v1 1 (J ar (L 1+1) ag)=y:=⟨_,rfl⟩;rw[ak,b4,ce]at d;have bf:Hid (M 2=m/\M 3=m/\M 10=m):=by have x:=b9.out;unfold Hid;rw[←ak];simp only[jY];exact x.2
  have ai:=dA d;have cn:=dA ak;have cA:=dA b4;clear bj b6 b3 d t aO ae aQ V c1 cl ab ak b4 ce b9 aT aw;go_upto_region 12 with fail;generalize cu.setCell ⟨Wc,1,Z⟩ (J ar (L 1+1) ag)=l at*;clear B p2;obtain⟨cJ,cK,cw,bV,cf⟩:=info_parts OQ;have an:=dA (ai.later (a_ l (G #[P0 (Y ⟨z+2,0,Z⟩)] 34)));have aG:Hid (Below X w (l.alloc (G #[P0 (Y ⟨z+2,0,Z⟩)] 34))):=aJ.trans ((a_ l _).mono ai.jd);have a0:Hid (M 2=m):=bf.1;have c2:=ai.cr.cell (k:=2) dG;obtain⟨ca,C⟩:∃y,v2 2=y:=⟨_,rfl⟩;rw[C]at c2;have a1:=an.cr.row 2 dG;rw[C]at a1;have aM:Hid ((l.alloc (G #[P0 (Y ⟨z+2,0,Z⟩)] 34)).ownsRow X 34 1 ca (M 2) (X2 2)):=a1;have S:=dA C;have bT:(l.alloc (G #[P0 (Y ⟨z+2,0,Z⟩)] 34)).cell? ⟨l.heap.size,0,Z⟩=Y (P0 (Y ⟨z+2,0,Z⟩)):=sG;clear a1 C;go_wp2_with(at_builtin;go_loud (refine pO rfl _ _ 58 rfl X 34 cJ (P0 Z) 1 8 underlying58 cK cw bV cf rfl dG ca (M 2) (X2 2) eG aM ⟨l.heap.size,0,Z⟩ 1 1 [P0 (Y ⟨z+2,0,Z⟩)] dG eG rfl ?c2 ?c3 ?c4 ?c5 ?c6 ?_));case c2=>
   intro j u c;rw[Go.WideShapes.add_plain];have hj:j=0:=by have:=(List.getElem?_eq_some_iff.1 c).1;simpa using this
   subst hj;simp at c;subst c;simpa using bT
  case c3=>intro u c;simp at c;subst c;rfl
  case c4=>rw[a0.out];unfold maxLen;omega
  case c5=>rw[a0.out];omega
  case c6=>exact an.jd
  intro d4 c7 bb bq bh;obtain⟨aD,aA,p⟩:=dZ bb;subst p;rw[←S.out]at bq bh;obtain⟨B,p2,d,t⟩:=an.push (k:=2) (m:=1) (news:=[P0 (Y ⟨z+2,0,Z⟩)]) (v3:=(J aD (M 2+1) aA)) dG bb bq bh;rw[S.out]at B;have aI:Hid (Below X w (c7.setCell ⟨Wc,2,Z⟩ (J aD (M 2+1) aA))):=aG.trans t;obtain⟨U,af⟩:∃y,jY M 2 (M 2+1)=y:=⟨_,rfl⟩;obtain⟨X3,bt⟩:∃y,jY X2 2 (X2 2++[P0 (Y ⟨z+2,0,Z⟩)])=y:=⟨_,rfl⟩;obtain⟨v3,cg⟩:∃y,gI v2 2 (J aD (M 2+1) aA)=y:=⟨_,rfl⟩;rw[af,bt,cg]at d;have bk:Hid (U 3=m/\U 10=m):=by have x:=bf.out;unfold Hid;rw[←af];simp only[jY];exact x.2
  have aE:=dA d;have cG:=dA af;have bX:=dA bt;clear bb bq bh d t aM an aG a0 c2 bT S af bt cg bf aJ ai;go_upto_region 13 with fail;generalize c7.setCell ⟨Wc,2,Z⟩ (J aD (M 2+1) aA)=o at*;clear B p2;obtain⟨cL,cT,bQ,cd,bw⟩:=info_parts uR;have ao:=dA (aE.later (a_ o (G #[I 0] 3)));have aP:Hid (Below X w (o.alloc (G #[I 0] 3))):=aI.trans ((a_ o _).mono aE.jd);have a7:Hid (U 3=m):=bk.1;have c3:=aE.cr.cell (k:=3) dG;obtain⟨ci,E⟩:∃y,v3 3=y:=⟨_,rfl⟩;rw[E]at c3;have a5:=ao.cr.row 3 dG;rw[E]at a5;have aV:Hid ((o.alloc (G #[I 0] 3)).ownsRow X 3 1 ci (U 3) (X3 3)):=a5;have a9:=dA E;have ch:(o.alloc (G #[I 0] 3)).cell? ⟨o.heap.size,0,Z⟩=Y (I 0):=sG;clear a5 E;go_wp2_with(at_builtin;go_loud (refine pO rfl _ _ 59 rfl X 3 cL (I 0) 1 8 underlying59 cT bQ cd bw rfl dG ci (U 3) (X3 3) eG aV ⟨o.heap.size,0,Z⟩ 1 1 [I 0] dG eG rfl ?c2 ?c3 ?c4 ?c5 ?c6 ?_));case c2=>
   intro j u c;rw[Go.WideShapes.add_plain];have hj:j=0:=by have:=(List.getElem?_eq_some_iff.1 c).1;simpa using this
   subst hj;simp at c;subst c;simpa using ch
  case c3=>intro u c;simp at c;subst c;rfl
  case c4=>rw[a7.out];unfold maxLen;omega
  case c5=>rw[a7.out];omega
  case c6=>exact ao.jd
  intro cX c8 bm b5 b8;obtain⟨aq,aB,p⟩:=dZ bm;subst p;rw[←a9.out]at b5 b8;obtain⟨B,p2,d,t⟩:=ao.push (k:=3) (m:=1) (news:=[I 0]) (v3:=(J aq (U 3+1) aB)) dG bm b5 b8;rw[a9.out]at B;have aK:Hid (Below X w (c8.setCell ⟨Wc,3,Z⟩ (J aq (U 3+1) aB))):=aP.trans t;obtain⟨N4,aj⟩:∃y,jY U 3 (U 3+1)=y:=⟨_,rfl⟩;obtain⟨X4,b7⟩:∃y,jY X3 3 (X3 3++[I 0])=y:=⟨_,rfl⟩;obtain⟨v4,bO⟩:∃y,gI v3 3 (J aq (U 3+1) aB)=y:=⟨_,rfl⟩;rw[aj,b7,bO]at d;have bI:Hid (N4 10=m):=by have x:=bk.out;unfold Hid;rw[←aj];simp only[jY];exact x.2
  have ap:=dA d;have bJ:=dA aj;have cx:=dA b7;clear bm b5 b8 d t aV ao aP a7 c3 ch a9 aj b7 bO bk aI aE;go_upto_region 14 with fail;generalize c8.setCell ⟨Wc,3,Z⟩ (J aq (U 3+1) aB)=e at*;clear B p2;obtain⟨bD,cp,br,ba,b2⟩:=info_parts uR;have ad:=dA (ap.later (a_ e (G #[I 1] 3)));have aS:Hid (Below X w (e.alloc (G #[I 1] 3))):=aK.trans ((a_ e _).mono ap.jd);have Q:Hid (N4 10=m):=bI.out;have bF:=ap.cr.cell (k:=10) dG;obtain⟨bN,H⟩:∃y,v4 10=y:=⟨_,rfl⟩;rw[H]at bF;have a4:=ad.cr.row 10 dG;rw[H]at a4;have aL:Hid ((e.alloc (G #[I 1] 3)).ownsRow X 3 1 bN (N4 10) (X4 10)):=a4;have R:=dA H;have cF:(e.alloc (G #[I 1] 3)).cell? ⟨e.heap.size,0,Z⟩=Y (I 1):=sG;clear a4 H;go_wp2_with(at_builtin;go_loud (refine pO rfl _ _ 59 rfl X 3 bD (I 0) 1 8 underlying59 cp br ba b2 rfl dG bN (N4 10) (X4 10) eG aL ⟨e.heap.size,0,Z⟩ 1 1 [I 1] dG eG rfl ?c2 ?c3 ?c4 ?c5 ?c6 ?_));case c2=>
   intro j u c;rw[Go.WideShapes.add_plain];have hj:j=0:=by have:=(List.getElem?_eq_some_iff.1 c).1;simpa using this
   subst hj;simp at c;subst c;simpa using cF
  case c3=>intro u c;simp at c;subst c;rfl
  case c4=>rw[Q.out];unfold maxLen;omega
  case c5=>rw[Q.out];omega
  case c6=>exact ad.jd
  intro cZ bP bo bn bi;obtain⟨ay,am,p⟩:=dZ bo;subst p;rw[←R.out]at bn bi;obtain⟨B,p2,d,t⟩:=ad.push (k:=10) (m:=1) (news:=[I 1]) (v3:=(J ay (N4 10+1) am)) dG bo bn bi;rw[R.out]at B;have cj:Hid (Below X w (bP.setCell ⟨Wc,10,Z⟩ (J ay (N4 10+1) am))):=aS.trans t;obtain⟨N5,b0⟩:∃y,jY N4 10 (N4 10+1)=y:=⟨_,rfl⟩;obtain⟨X5,bc⟩:∃y,jY X4 10 (X4 10++[I 1])=y:=⟨_,rfl⟩;obtain⟨v5,bW⟩:∃y,gI v4 10 (J ay (N4 10+1) am)=y:=⟨_,rfl⟩;rw[b0,bc,bW]at d;have cU:=dA d;have cy:=dA b0;have bY:=dA bc;clear bo bn bi d t aL ad aS Q bF cF R b0 bc bW bI aK ap;go_upto_region 5 with fail;generalize bP.setCell ⟨Wc,10,Z⟩ (J ay (N4 10+1) am)=d1 at*;clear B p2;go_wp2_with fail;go_roundw;case rel=>
   have e0:=cI.out;have f0:=cS.out;subst e0 f0;have e1:=bK.out;have f1:=cm.out;subst e1 f1;have e2:=cn.out;have f2:=cA.out;subst e2 f2;have e3:=cG.out;have f3:=bX.out;subst e3 f3;have e4:=bJ.out;have f4:=cx.out;subst e4 f4;have e5:=cy.out;have f5:=bY.out;subst e5 f5;have en:(CS.fst n nb m).ns++[AG.Nd.first (m:Int) (n:Int) nb]=(CS.fst n nb (m+1)).ns:=by simp[CS.fst,List.range_succ]
   have x:=cU.out;rw[en]at x;refine⟨m+1,oG,rfl,_,_,x.cong ?_,by simp[A.out],cj⟩;intro k hk;simp only[eR,List.mem_cons,List.mem_nil_iff,or_false]at hk;rcases hk with rfl|rfl|rfl|rfl|rfl|rfl|rfl|rfl|rfl|rfl<;>simp[jY,rN,rX,CS.fst,List.replicate_succ']
  case measure=>simp[intOf];omega
 obtain rfl:m=n:=oG;have d6:decide ((m:Int)<(m:Int))=false:=sG;have HG:=dA ax;have HW:=dA au;have A:=dA al;clear ax au al;have d7:wrap64 (wrap64 (2^m)-1)=2^m-1:=by have h4:m=2∨m=3∨m=4∨m=5:=oG;rcases h4 with rfl|rfl|rfl|rfl<;>decide +kernel
 have ck:(wr.alloc (G #[I 0,I 0,I (2^m-1)] 66)).ownsRow X 66 3 (J (Y ⟨wr.heap.size,0,Z⟩) 1 1) 1 [I 0,I 0,I (2^m-1)]:=⟨rfl,.inr ⟨wr.heap.size,1,#[I 0,I 0,I (2^m-1)],rfl,HG.jd,heap_alloc_new wr _,dG,dG,rfl,rfl⟩⟩;obtain⟨B,p2,d,t⟩:=HG.push (k:=9) (m:=1) (news:=[I 0,I 0,I (2^m-1)]) (v3:=J (Y ⟨wr.heap.size,0,Z⟩) 1 1) dG ck (World.grownBy_alloc _ _ _) ⟨wr.heap.size,rfl,.inr ⟨Nat.le_refl _,World.grownBy_alloc _ _ _⟩⟩;have bR:=dA d;have bS:=dA (HW.trans t);clear ck d t;have W:=bR.cell (s:=CS.fst m nb m) (by intro k hk;simp only[eR,List.mem_cons,List.mem_nil_iff,or_false]at hk;rcases hk with rfl|rfl|rfl|rfl|rfl|rfl|rfl|rfl|rfl|rfl<;>simp[jY,rN,rX,CS.fst,eH.cells]) (by simp[CS.fst]) (by simp[CS.fst];omega) aR (by intro i hi;simp[CS.fst,AG.Nd.first])
 have cC:=dA W;have HQ:=dA bR.qt;clear W;go_wp2_with fail;refine bodyPost_ret (v:=P0 (Y ⟨Wc,0,Z⟩)) (by simp[results,results47,go_sem]) rfl ?_;first|exact⟨Wc,hs,rfl,⟨_,cC⟩,HQ,A,bS⟩|exact⟨Wc,rfl,hs,⟨_,cC⟩,HQ,A,bS⟩
end Go.Proofs.YtdcainmlcpafbaaGreatDoor
