import Derived.Test.YtdcainmlcpafbaaGreatDoorJ36
set_option linter.all false
set_option maxHeartbeats 100000000
set_option maxRecDepth 20000
namespace Go.Proofs.YtdcainmlcpafbaaGreatDoor
open Go.RowKit
section
open Value renaming int->I,slice->J,pointer->P0
open Tryz
open Tryz renaming prog->pG
open IntKind renaming i64->T
open Option renaming none->Z,some->Y
open Obj renaming cells->G
open Value (bool)
theorem pk(x:Int)(L:Nat)(h:0<L):∃i:Nat,eV x%(L:Int)=(i:Int)/\i<L:=by have a:=Int.emod_nonneg (eV x) (show(L:Int)≠0 by omega);have b:=Int.emod_lt_of_pos (eV x) (show(0:Int)<(L:Int) by omega);exact⟨(eV x%(L:Int)).toNat,by omega,by omega⟩
def CS.oh(s:CS)(i n:Nat)(b:Int):Nat->CS
 |0=>(s.put i (((s.nd i).dm (kN ((s.nd i).d.recs.getD ((s.nd i).d.recs.length-1) ⟨0,0,0⟩).S (eV b%32) i n) true).1,((s.nd i).dm (kN ((s.nd i).d.recs.getD ((s.nd i).d.recs.length-1) ⟨0,0,0⟩).S (eV b%32) i n) true).2.1)).look i
 |1=>(s.put i (((s.nd i).admi (eV b%(n:Int)) true).1,((s.nd i).admi (eV b%(n:Int)) true).2.1)).look i
 |k=>(s.oper i b (k==3) true).look i
@[reducible] def gB(X Wc r g c L i a:Nat)(K A Bm:Int)(w':World):Prop:=w'.cell? ⟨Wc,r,Z⟩=Y (J (Y ⟨g,0,Z⟩) L c)/\w'.cell? ⟨g,i,Z⟩=Y (P0 (Y ⟨a,0,Z⟩))/\dC w' X #[I T K,I T A,I T Bm] 70
theorem gB.ql{X Wc r g c L i a base t:Nat}{K A j:Int}{v:Nat->Value}{f:Bool}{hs:List Ho}{s:CS}{w w3:World}(h:gB X Wc r g c L i a K A j w)(e:dP w Wc base t v f hs s)(d:i<hs.length)(l:r∈eO)(o:v r=J (Y ⟨g,0,Z⟩) L c)(m:g<w.heap.size)(n:¬hs[i].al X)(b:∃G,dN hs[i].al G w w3):gB X Wc r g c L i a K A j w3:=by obtain⟨_,b⟩:=b;exact⟨(World.cell?_of_block (a:=⟨Wc,r,Z⟩) (b.kept.block Wc e.blk.lt (e.ng i d))).trans h.1,(World.cell?_of_block (a:=⟨g,i,Z⟩) (b.kept.block g m (fun k=>e.lg r l g (by rw[o];rfl) i d k))).trans h.2.1,b.blk h.2.2 n⟩
theorem OA(s:CS)(i n:Nat)(b:Int)(k:Nat)(a:k=2∨k=3):s.oh i n b k=(s.oper i b (k==3) true).look i:=by rcases a with rfl|rfl<;>simp only[CS.oh]
theorem NJ(s:CS)(i:Nat)(b:Int)(a ok:Bool):(s.oper i b a ok).ns.length=s.ns.length:=by unfold CS.oper;split;simp;split<;>simp
def QF(Wc base t:Nat)(hs:List Ho)(s:CS)(N i kk:Nat)(b:Int)(w w':World):Prop:=∃hs' s',hs'.length=hs.length/\CA w' Wc base (t+1) true hs' s'/\Ok s' hs.length (N+40)/\Below base w w'/\(Qt hs->kk<4->Qt hs'/\s'=s.oh i hs.length b kk)
def pS(Wc base t:Nat)(hs:List Ho)(s:CS)(N i kk:Nat)(K b:Int)(w:World)(hs':List Ho)(s':CS)(w':World):Prop:=eV K%10=(kk:Int)/\CA w' Wc base (t+1) true hs' s'/\Below base w w'/\pI s' i/\i<s'.ns.length/\hs'.length=hs.length/\Ok (s'.look i) hs.length (N+40)/\(Qt hs->kk<4->Qt hs'/\s'.look i=s.oh i hs.length b kk)
def QG(Wc base t:Nat)(v:Nat->Value)(hs:List Ho)(s:CS)(N i:Nat)(w:World)(f:Bool->AG.Nd×List (Int×AG.Ms))(ok:Bool)(l:Value)(WB:Nat)(w':World):Prop:=∃hs',hs'.length=hs.length/\dP w' Wc base (t+1) v true hs' {s with ns:=s.ns.set i (f ok).1}/\dW w' WB l (fP (f ok).2)/\eJ (s.nd i).nodes (f ok).2/\Below base w w'/\i4 (s.put i (f ok)) hs.length i (N+12)/\(f ok).2.length<=12/\(Qt hs->ok=true/\Qt hs')
theorem i2.nx{Kn t:Nat}{P:Pl}{C:Nat->Prop}{left n:Int}{f:AG.Nd×List (Int×AG.Ms)}{ok:Bool}{l:Value}{w w':World}(h:i2 Kn P t C left n f ok l w w'):∃G,dN (wK C Kn) G w w':=by obtain⟨_,_,C',_,_,a,_⟩:=h;exact⟨_,a⟩
theorem wV{W w w':World}{Wc base t N i:Nat}{v:Nat->Value}{hs:List Ho}{s:CS}{f:Bool->AG.Nd×List (Int×AG.Ms)}{ok:Bool}{l:Value}(p:Ok s hs.length N)(h:dP W Wc base t v true hs s)(a:i<hs.length)(hi:i<s.ns.length)(q:Below base w W)(b:i2 hs[i].Kn hs[i].P t hs[i].C hs[i].left (s.nd i).nodes (f ok) ok l W w')(k:i4 (s.put i (f ok)) hs.length i (N+12))(m:(f ok).2.length<=12):QG Wc base t v hs s N i w f ok l W.heap.size w':=by have c:=CS.ku hi;have n:=(p.stO a (f:=fun _=>f ok) (fun _=>k) (fun _=>m)).id true;rw[c]at n;obtain⟨r,o,hs',g,e,j,d⟩:=h.did a hi b n;exact⟨hs',g,e,r,o,q.trans j,k,m,d.1⟩
set_option maxRecDepth 40000 in
theorem CC(hLO:jA)(hUO:i9)(hSO:eW)(hBW:eZ)(hBS:fA)(Wc base t:Nat)(hs:List Ho)(s:CS)(N i kk:Nat)(K A e:Int)(w:World)(h:CA w Wc base t true hs s)(hg:Ok s hs.length N)(a:i<hs.length)(aN:eV A%(hs.length:Int)=(i:Int))(o:kk<10)(b1:eV K%10=(kk:Int))(aQ:i_ A)(a1:i_ e)(bc:i_ K)(ht:t+2<=1000000)(hN:N+100<=50000000):Calls pG 24 #[P0 (Y ⟨Wc,0,Z⟩),.agg #[I T K,I T A,I T e]] w fun q w'=>q=.returned (.tuple #[])/\QF Wc base t hs s N i kk e w w':=by
 obtain⟨v,h⟩:=h;have hn:=hg.gs.nn;have aB:=h.nb;have bC:=h.ll;have bz:=hg.gs.bd;have hi:i<s.ns.length:=by omega
 have a3:=CS.ku hi;have aA:=a_ w (G #[I T K,I T A,I T e] 70);have ac:=dA (dC.new w #[I T K,I T A,I T e] 70);have an:=dA (h.later aA);have aY:=dA (aA.mono h.jd);have ao:¬hs[i].al w.heap.size:=fun n=>by have:=((h.host i a hi).lt _ n).2;omega
 have bp:=dA aN;have V:=dA b1;have p:=dA hg;have am:=dA a3;have au:=(hg.gs.ids a).2.1;have ap:=dA au;have lk:∀{s':CS} {N':Nat},i4 s' hs.length i N'->N'<=N+40->pI s' i:=fun n h8=>n.lk a (by omega);clear h aA aN b1 hg a3 au;go_enter func24,ntmps24;go_upto_region 1 with fail;generalize hX:w.heap.size=X at*;generalize World.alloc _ _=W1 at*;obtain⟨a0,aK,a6⟩:=eB (an.out.row 0 (by decide));have c0:=an.out.cell (k:=0) (by decide);rw[a6]at c0;have bq:rN hs s 0=hs.length:=rfl;rw[bq]at c0;have ak:=dA c0;clear c0 a6;go_cut [4] (fun s4 wx=>s4=I T (i:Int)/\wx=W1.drew);case first=>refine eR (S:=fun w'=>w'.cell? ⟨Wc,0,Z⟩=Y (J a0 hs.length aK)/\dC w' X #[I T K,I T A,I T e] 70) (fun _=>?_) (hS:=⟨ak,ac.out.drew⟩);refine dB 0 ?_;refine dB 1 (v:=I T A) ?_ (hy:=fun w b=>by have n:=b.2.cell 1;simp at n;go_simp);refine dB 2 ?_;refine dB 3 ?_;refine dB 4 ?_;refine dB 5 (v:=J a0 hs.length aK) ?_ (hy:=fun w b=>by have n:=b.1;go_simp);refine dB 6 ?_;refine dE 7 fun K c=>?_;(try go_simp);go_at_call 22;refine(mX A (hs.length:Int) _ (by omega) aQ.1 aQ.2).mono ?_;rintro q w9 ⟨rfl,U⟩;obtain rfl:=U.symm;rw[bp.out];refine k1 c (fun _=>?_) ⟨ak,ac.out.drew⟩;clear c K;refine dE 8 fun K c=>?_;(try go_simp);refine k1 c (fun _=>?_) ⟨ak,ac.out.drew⟩;clear c K;refine dn ?_;go_wp2_with fail;go_meet;exact⟨rfl,rfl⟩
 obtain⟨rfl,rfl⟩:=hcut;have r:=dA (an.out.later (b_.drew));have a2:=dA ac.out.drew;have Q:Hid (Below base w W1.drew):=aY.out.drew;clear an ac aY ak;generalize W1.drew=W2 at*;have x0:=a2.out.cell 0;have x2:=a2.out.cell 2;simp at x0 x2;go_wp2_with fail;refine(mX K 10 _ (by decide) bc.1 bc.2).mono ?_;rintro q w9 ⟨rfl,U⟩;obtain rfl:=U.symm;rw[V.out];have D:=dA (r.out.later (b_.drew));have aJ:=D.out.host i a hi;rw[←am.out]at aJ;have aM:=dA aJ;obtain⟨g0,F,a6,c0,ax,aZ⟩:=r.out.ones (k:=0) (by decide) (show 0<hs.length by omega);have y0:=aZ i _ (show(rX hs s 0)[i]?=_ from nG a (fun h=>P0 (Y ⟨h.Kn,0,Z⟩)));rw[show rN hs s 0=hs.length from rfl]at c0 a6;have bD:(0:Int)<=(i:Int)/\(i:Int)<(hs.length:Int):=by omega
 have az:=dA a6;have a7:Hid (gB X Wc 0 g0 F hs.length i hs[i].Kn K A e W2.drew):=⟨c0,y0,a2.out.drew⟩;clear aZ a6 aJ;have a9:kk=0∨kk=1∨kk=4∨kk=2∨kk=3∨kk=8∨kk=9∨((kk=5∨kk=6∨kk=7)/\s.net.length=0)∨((kk=5∨kk=6∨kk=7)/\0<s.net.length):=by omega
 rcases a9 with rfl|rfl|rfl|rfl|rfl|rfl|rfl|⟨a9,h0⟩|⟨a9,h0⟩;focus
  have aw:=(p.out.gs.gp i).lk a (by omega)
  have a3:=am.out
  have aF:=aw.rg
  have aS:=aw.hl
  have be:0<s.ns[i].d.recs.length:=by
   obtain⟨sn,g,u,n⟩:=p.out.gs
   have h8:=((n 0).ci.inv.own (j:=(i:Int)) (by omega) (by omega)).i0.2.2.2.2
   rw[gX,a3]at h8
   have h7:(0:Int)<=(s.ns[i].d.recs.length:Int) - 1:=h8
   omega
  simp only[a3]at aF aS
  have hS:=(aF (s.ns[i].d.recs.length-1) (by omega)).1
  obtain⟨x,hx⟩:∃y,s.ns[i].d.recs[s.ns[i].d.recs.length-1]'(by omega)=y:=⟨_,rfl⟩
  rw[hx]at hS
  have b9:(s.nd i).d.recs.getD ((s.nd i).d.recs.length-1) ⟨0,0,0⟩=x:=by rw[a3,List.getD_eq_getElem?_getD,List.getElem?_eq_getElem (by omega),hx];rfl
  have b4:=dA (KU hLO hUO Wc base t true hs s i e W2.drew v D a hi (by omega) a1 be (by omega) x hx hS)
  have hw:=wR x.S (eV e%32) i hs.length
  have bB:(2:Int)^hs.length<=32:=p2 ⟨hs.length,by omega⟩
  have bj:=dA b9
  obtain⟨W,ad⟩:∃y,kN x.S (eV e%32) i hs.length=y:=⟨_,rfl⟩
  rw[ad]at b4 hw
  have bw:=dA ad
  clear ad b9 hx aF aS aw be a3
  go_upto_region 9 with fail
  clear c0 y0 x0 x2
  go_cut [7] (fun s7 wx=>∃w3 ok,dP w3 Wc base t v true hs s/\Below base W2.drew w3/\i2 hs[i].Kn hs[i].P t hs[i].C hs[i].left (s.nd i).nodes (((s.nd i).dm W ok).1,((s.nd i).dm W ok).2.1) ok s7 w3 wx)
  case first=>
   refine eR (S:=gB X Wc 0 g0 F hs.length i hs[i].Kn K A e) (fun _=>?_) (hS:=a7)
   refine dB 0 ?_;refine dB 1 ?_;refine dB 2 ?_
   refine dB 3 (v:=J (Y ⟨g0,0,Z⟩) hs.length F) ?_ (hy:=fun w b=>by have n:=b.1;go_simp)
   refine dB 4 ?_
   refine dB 5 (v:=P0 (Y ⟨g0,i,Z⟩)) ?_ (hy:=fun w b=>by go_simp)
   refine dB 6 (v:=P0 (Y ⟨hs[i].Kn,0,Z⟩)) ?_ (hy:=fun w b=>by have n:=b.2.1;go_simp)
   refine dB 7 ?_
   refine dB 8 ?_;refine dB 9 ?_
   refine dB 10 (v:=I T e) ?_ (hy:=fun w b=>by have n:=b.2.2.cell 2;simp at n;go_simp)
   refine dE 11 fun R c=>?_
   (try go_simp)
   go_at_call 54
   refine b4.out.mono ?_
   rintro q w3 ⟨rfl,z,B,M⟩
   have L:=a7.out.ql D a (by decide) az ax ao ⟨_,M⟩
   refine k1 c (fun _=>?_) L;clear c R
   have b0:=z.host i a hi
   rw[←am.out]at b0
   have br:=dA (b0.dm hLO hUO hSO hBW hBS (by omega) W (by omega))
   refine dE 12 fun R c=>?_
   (try go_simp)
   go_at_call 53
   refine br.out.mono ?_
   rintro q w4 ⟨l,ok,rfl,o⟩
   have aD:=L.ql z a (by decide) az (Nat.lt_of_lt_of_le ax B.size) ao o.nx
   refine k1 c (fun _=>?_) aD;clear c R
   refine dB 13 ?_;refine dB 14 ?_;refine dB 15 ?_
   refine dE 16 fun R c=>?_
   (try go_simp)
   refine k1 c (fun _=>?_) aD;clear c R
   refine dE 17 fun R c=>?_
   (try go_simp)
   refine k1 c (fun _=>?_) aD;clear c R
   refine dn ?_
   go_wp2_with fail
   go_meet
   exact⟨w3,ok,z,B,o⟩
  obtain⟨w3,ok,z,B,o⟩:=hcut
  have HT:=dA (wV (f:=fun ok=>(((s.nd i).dm W ok).1,((s.nd i).dm W ok).2.1)) p z a hi (Q.out.drew.trans B) o (p.out.gs.dm a _ ok) (by have:=AG.promote_len (s.nd i) W ok;rw[ap.out]at this;dsimp only;omega))
  have HM:Hid (ok=true->(s.put i (((s.nd i).dm W ok).1,((s.nd i).dm W ok).2.1)).look i=s.oh i hs.length e 0):=fun h=>by subst h;simp only[CS.oh];rw[bj.out,bw.out]
  clear z B o
 rotate_left;focus
  obtain⟨k,ab,bA⟩:=pk e hs.length (by omega)
  have ar:=dA ab
  have bt:=dA (aM.out.admi hLO hUO hSO hBW hBS (by omega) k (by rw[ap.out];omega))
  clear ab
  go_upto_region 12 with fail
  clear c0 y0 x0 x2
  go_cut [9] (fun s9 wx=>∃ok,i2 hs[i].Kn hs[i].P t hs[i].C hs[i].left (s.nd i).nodes (((s.nd i).admi k ok).1,((s.nd i).admi k ok).2.1) ok s9 W2.drew wx)
  case first=>
   refine eR (S:=gB X Wc 0 g0 F hs.length i hs[i].Kn K A e) (fun _=>?_) (hS:=a7)
   refine dB 0 ?_;refine dB 1 ?_;refine dB 2 ?_
   refine dB 3 (v:=J (Y ⟨g0,0,Z⟩) hs.length F) ?_ (hy:=fun w b=>by have n:=b.1;go_simp)
   refine dB 4 ?_
   refine dB 5 (v:=P0 (Y ⟨g0,i,Z⟩)) ?_ (hy:=fun w b=>by go_simp)
   refine dB 6 (v:=P0 (Y ⟨hs[i].Kn,0,Z⟩)) ?_ (hy:=fun w b=>by have n:=b.2.1;go_simp)
   refine dB 7 ?_
   refine dB 8 (v:=I T e) ?_ (hy:=fun w b=>by have n:=b.2.2.cell 2;simp at n;go_simp)
   refine dB 9 ?_;refine dB 10 ?_;refine dB 11 ?_
   refine dB 12 (v:=J (Y ⟨g0,0,Z⟩) hs.length F) ?_ (hy:=fun w b=>by have n:=b.1;go_simp)
   refine dB 13 ?_
   refine dE 14 fun R c=>?_
   (try go_simp)
   go_at_call 22
   refine(mX e (hs.length:Int) _ (by omega) a1.1 a1.2).mono ?_
   rintro q w9 ⟨rfl,U⟩
   obtain rfl:=U.symm
   rw[ar.out]
   refine k1 c (fun _=>?_) a7;clear c R
   refine dE 15 fun R c=>?_
   (try go_simp)
   go_at_call 55
   refine bt.out.mono ?_
   rintro q w3 ⟨l,ok,rfl,o⟩
   have L:=a7.out.ql D a (by decide) az ax ao o.nx
   refine k1 c (fun _=>?_) L;clear c R
   refine dB 16 ?_;refine dB 17 ?_;refine dB 18 ?_
   refine dE 19 fun R c=>?_
   (try go_simp)
   refine k1 c (fun _=>?_) L;clear c R
   refine dE 20 fun R c=>?_
   (try go_simp)
   refine k1 c (fun _=>?_) L;clear c R
   refine dn ?_
   go_wp2_with fail
   go_meet
   exact⟨ok,o⟩
  obtain⟨ok,o⟩:=hcut
  have HT:=dA (wV (f:=fun ok=>(((s.nd i).admi k ok).1,((s.nd i).admi k ok).2.1)) p D a hi Q.out.drew o (p.out.gs.admi a _ ok (by omega)) (by have:=AG.admit_len (s.nd i) k ok;dsimp only;omega))
  have HM:Hid (ok=true->(s.put i (((s.nd i).admi k ok).1,((s.nd i).admi k ok).2.1)).look i=s.oh i hs.length e 1):=fun h=>by subst h;simp only[CS.oh];rw[ar.out]
  clear o
 rotate_left;focus
  have E:=r.out.host i a hi
  rw[←am.out]at E
  have bk:=dA (E.iq hLO hUO hSO hBW hBS (by omega))
  clear E
  go_wp2_with fail
  refine bk.out.mono ?_
  rintro q w5 ⟨l,ok,rfl,o⟩
  have HT:=dA (wV (f:=fun ok=>(s.nd i).iq ok) p r a hi Q o (p.out.gs.iq a ok) (AG.mg _ _ (by rw[ap.out];omega)))
  have HM:=dA trivial
  clear o c0 y0 x0 x2
 rotate_left;iterate 2
  focus
   have bh:Hid (∀rd,_):=fun rd=>GN hLO hUO hSO hBW hBS Wc base t hs s i e rd W2 ⟨v,r⟩ hi (by omega) a1 (by omega) (p.out.stOp a e rd aB.1)
   go_wp2_with fail
   refine(bh.out _).mono ?_
   rintro q w3 ⟨rfl,ok,hs',O,z,B,ay⟩
   have HF:Hid (pS Wc base t hs s N i _ K e w _ _ _):=⟨V,z,Q.out.trans B,lk (p.out.gs.oper a e _ ok aB.1) (by omega),Nat.lt_of_lt_of_eq hi (NJ s i e _ ok).symm,O,(p.out.oper a e _ ok aB.1 ay.2).up (by omega),fun h1 _=>by obtain⟨rfl,h2⟩:=ay.1 h1;refine⟨h2,?_⟩;rw[OA _ _ _ _ _ (by decide)];rfl⟩
   clear z B ay
  rotate_left
 focus
  obtain⟨g2,ai,av,c2,bu,aU⟩:=r.out.ones (k:=2) (by decide) (show 0<hs.length by omega)
  have y2:=aU i _ (show(rX hs s 2)[i]?=_ from nG a (fun h=>P0 (Y ⟨h.P.H,0,Z⟩)))
  rw[show rN hs s 2=hs.length from rfl]at c2 av
  have bv:=dA av;have aG:Hid (gB X Wc 2 g2 ai hs.length i hs[i].P.H K A e W2.drew):=⟨c2,y2,a2.out.drew⟩
  have E:=D.out.host i a hi
  have bg:=dA (E.nd.stop (eV e%20) (by omega))
  clear aU av
  go_upto_region 29 with fail
  clear c2 y2 x0 x2 c0 y0
  refine eR (S:=gB X Wc 2 g2 ai hs.length i hs[i].P.H K A e) (fun _=>?_) (hS:=aG)
  refine dB 0 ?_;refine dB 1 ?_;refine dB 2 ?_
  refine dB 3 (v:=J (Y ⟨g2,0,Z⟩) hs.length ai) ?_ (hy:=fun w b=>by have n:=b.1;go_simp)
  refine dB 4 ?_
  refine dB 5 (v:=P0 (Y ⟨g2,i,Z⟩)) ?_ (hy:=fun w b=>by go_simp)
  refine dB 6 (v:=P0 (Y ⟨hs[i].P.H,0,Z⟩)) ?_ (hy:=fun w b=>by have n:=b.2.1;go_simp)
  refine dB 7 ?_
  refine dB 8 (v:=I T e) ?_ (hy:=fun w b=>by have n:=b.2.2.cell 2;simp at n;go_simp)
  refine dE 9 fun R c=>?_
  (try go_simp)
  go_at_call 22
  refine(mX e 20 _ (by decide) a1.1 a1.2).mono ?_
  rintro q w9 ⟨rfl,U⟩
  obtain rfl:=U.symm
  refine k1 c (fun _=>?_) aG;clear c R
  refine dE 10 fun R c=>?_
  (try go_simp)
  go_at_call 44
  refine bg.out.mono ?_
  rintro q w3 ⟨rfl,⟨left',b8⟩,M⟩
  have b5:fK w3 hs[i].Kn hs[i].P t hs[i].C left' s.ns[i]:=⟨M.blk E.blk E.ne,b8,E.ne,E.two⟩
  have aE:dN (wK hs[i].C hs[i].Kn) (wK hs[i].C hs[i].Kn) W2.drew w3:=⟨⟨M.kept.os,M.kept.tape,M.kept.output,M.kept.size,fun g hg n=>M.kept.block g hg (fun h8=>n (.inl h8))⟩,fun g hg=>.inl hg⟩
  obtain⟨q1,q2⟩:=D.out.call (t':=t+1) a hi (by omega) (b5.up (by omega)) aE ⟨rfl,rfl,rfl⟩
  have aV:({s with ns:=s.ns.set i s.ns[i]}:CS)=s:=by rw[List.set_getElem_self hi]
  rw[aV]at q1
  have L:=aG.out.ql D a (by decide) bv bu ao ⟨_,aE⟩
  refine k1 c (fun _=>?_) L;clear c R
  refine dn ?_
  have HF:Hid (pS Wc base t hs s N i _ K e w _ _ _):=⟨V,⟨v,q1⟩,Q.out.drew.trans q2,lk (p.out.gs.gp i) (by omega),hi,by simp,(p.out.again a).up (by omega),fun _ n=>absurd n (by decide)⟩
  clear q1 q2 b5 aE b8 M L E
 rotate_left;focus
  have aL:i<s.lv.length:=by omega
  have bf:=dA (NA Wc base t hs s i e W2 ⟨v,r⟩ hi (by omega) (fun n=>by have:=p.out.lv i n;omega))
  go_wp2_with fail
  refine bf.out.mono ?_
  rintro q w3 ⟨rfl,n',hs',O,aH,z,B⟩
  have HF:Hid (pS Wc base t hs s N i _ K e w _ _ _):=⟨V,z,Q.out.trans B,lk (p.out.gs.run a aL aH) (by omega),by show i<(s.ns.set i _).length;simpa using hi,O,(p.out.run a aL aH).up (by omega),fun _ n=>absurd n (by decide)⟩
  clear z B aH
 rotate_left;rcases a9 with rfl|rfl|rfl;iterate 3
  focus
   obtain⟨a5,aC,af⟩:=eB (r.out.row 5 (by decide))
   have c5:=r.out.cell (k:=5) (by decide)
   rw[af,show rN hs s 5=0 from h0]at c5
   have HU:=dA (r.out.up (t':=t+1) (by omega))
   clear af h0
   go_wp2_with fail
   refine bodyPost_ret (v:=.tuple #[]) (by simp[results,results24,go_sem]) rfl ?_
   exact⟨rfl,hs,s,rfl,⟨_,HU⟩,p.out.up (by omega),Q,fun _ n=>absurd n (by decide)⟩
 focus
  obtain⟨k,ab,hk⟩:=pk e _ h0
  have a4:=List.getElem_mem hk
  have ho:=p.out.ou _ a4
  obtain⟨j,bb⟩:=Int.eq_ofNat_of_zero_le ho.1.1
  obtain⟨m,hz⟩:∃m,s.net[k]=((j:Int),m):=⟨s.net[k].2,Prod.ext bb rfl⟩
  rw[hz]at a4 ho
  have hj:j<hs.length:=Int.ofNat_lt.1 ho.1.2
  have hm:Rl m:=ho.2
  have ar:=dA ab;have HZ:=dA hz;have a8:=dA a4
  clear ab bb ho hz a4
 rcases a9 with rfl|rfl|rfl;iterate 3
  focus
   obtain⟨a5,aC,af⟩:=eB (r.out.row 5 (by decide))
   have c5:=r.out.cell (k:=5) (by decide)
   rw[af,show rN hs s 5=s.net.length from rfl]at c5
   have bm:((s.net.length:Int)==0)=false:=by rw[beq_eq_false_iff_ne];omega
   have aq:=dA c5
   clear af
   go_upto_region 6 with fail
   clear c5 bm c0 y0
   go_cut [5] (fun s5 wx=>s5=I T (k:Int)/\wx=W2.drew)
   case first=>
    refine eR (S:=fun w'=>w'.cell? ⟨Wc,5,Z⟩=Y (J a5 s.net.length aC)/\dC w' X #[I T K,I T A,I T e] 70) (fun _=>?_) (hS:=⟨aq,a2.out.drew⟩)
    refine dB 0 ?_
    refine dB 1 (v:=I T e) ?_ (hy:=fun w b=>by have n:=b.2.cell 2;simp at n;go_simp)
    refine dB 2 ?_;refine dB 3 ?_;refine dB 4 ?_
    refine dB 5 (v:=J a5 s.net.length aC) ?_ (hy:=fun w b=>by have n:=b.1;go_simp)
    refine dB 6 ?_
    refine dE 7 fun K c=>?_
    (try go_simp)
    go_at_call 22
    refine(mX e (s.net.length:Int) _ (by omega) a1.1 a1.2).mono ?_
    rintro q w9 ⟨rfl,U⟩
    obtain rfl:=U.symm
    rw[ar.out]
    refine k1 c (fun _=>?_) ⟨aq,a2.out.drew⟩;clear c K
    refine dE 8 fun K c=>?_
    (try go_simp)
    refine k1 c (fun _=>?_) ⟨aq,a2.out.drew⟩;clear c K
    refine dn ?_
    go_wp2_with fail
    go_meet
    exact⟨rfl,rfl⟩
   obtain⟨rfl,rfl⟩:=hcut
   have b2:Hid (Below base w W2.drew):=Q.out.drew
   clear r a2 Q aq a7 aM x0 x2
   generalize W2.drew=W3 at*
  rotate_left
 iterate 3
  focus
   obtain⟨hs',O,ag,d1,d2,ah,hp,hl,hq⟩:=HT.out
   have aR:=dA (vZ Wc base (t+1) true hs' _ _ _ _ _ v ag d1 (by rw[show(hs'.length:Int)=(s.nd i).nodes by rw[ap.out,O]];exact d2) (by show s.net.length+_<=_;omega))
   have bs:=dA ah;have b7:=dA hp;have bi:=dA d2;have aT:=dA hq
   clear ag d1 d2 ah hp hq HT
   go_wp2_with fail
   refine aR.out.mono ?_
   rintro q w6 ⟨rfl,aX,b3,_⟩
   have HF:Hid (pS Wc base t hs s N i _ K e w _ _ _):=⟨V,aX,bs.out.trans b3,lk b7 (by omega),by show i<(s.ns.set i _).length;simpa using hi,O,(p.out.put a b7 bi (by omega)).up (by omega),fun h1 h2=>by first|exact absurd h2 (by decide)|exact⟨(aT.out h1).2,HM.out (aT.out h1).1⟩⟩
   clear aR aX b3
  rotate_left
 rotate_left 4;iterate 2
  focus
   have ba:=dA (B7 hLO hUO hSO hBW hBS Wc base t hs s k j m W3 ⟨v,D⟩ hk HZ (by omega) hm ht (by omega) (p.out.stR hj a8 (nM hm)) (fun ok=>(p.out.gs.receive hj a8 (nM hm) ok).lk hj (by omega)))
   go_wp2_with fail
   refine ba.out.mono ?_
   rintro q w4 ⟨rfl,ok,hs',O,aa,aj,aP⟩
   have b6:=dA (b2.out.trans aj);have aO:Hid (CA w4 Wc base (t+1) true hs' (s.come j m ok)):=aa
   have bx:=fM.bd (p.out.gs.come a8 (nM hm) hj ok)
   have aI:=ND s j m ok
   have aW:=dA (p.out.put hj (p.out.gs.receive hj a8 (nM hm) ok) aP.2 (by omega))
   clear ba aa aj aP
  rotate_left
 focus
  have ae:=dA (B9 Wc base t true hs s k W3 ⟨v,D⟩ hk (by omega))
  go_wp2_with fail
  refine ae.out.mono ?_
  rintro q w4 ⟨rfl,⟨v4,aa⟩,aj⟩
  have HF:Hid (pS Wc base t hs s N i _ K e w _ _ _):=⟨V,⟨v4,aa.up (by omega)⟩,b2.out.trans aj,lk ((p.out.gs.drop k).gp i) (by omega),hi,rfl,((p.out.drop k).again a).up (by omega),fun _ n=>absurd n (by decide)⟩
  clear ae aa aj
 rotate_left;rotate_left 7;focus
  have HF:Hid (pS Wc base t hs s N i _ K e w _ _ _):=⟨V,aO,b6,lk ((p.out.gs.come a8 (nM hm) hj ok).gp i) (by omega),by rw[aI.1];exact hi,O,(aW.out.again a).up (by omega),fun _ n=>absurd n (by decide)⟩
 rotate_left;focus
  have ae:=dA (B9 Wc base (t+1) true hs' (s.come j m ok) k w4 aO (Nat.lt_of_lt_of_le hk aI.2) (by omega))
  go_wp2_with fail
  refine ae.out.mono ?_
  rintro q w5 ⟨rfl,ag,ah⟩
  have HF:Hid (pS Wc base t hs s N i _ K e w _ _ _):=⟨V,ag,b6.out.trans ah,lk (((p.out.gs.come a8 (nM hm) hj ok).drop k).gp i) (by omega),by show i<(s.come j m ok).ns.length;rw[aI.1];exact hi,O,((aW.out.drop k).again a).up (by omega),fun _ n=>absurd n (by decide)⟩
  clear ae ag ah
 all_goals
  obtain⟨_,e1,e2,e3,e4,e5,e6,e7⟩:=HF.out
  have bo:=dA (B6 hLO hUO Wc base (t+1) _ _ i _ e1 e4 (by omega) e3)
  clear e1 e2 e3 e4 e5 e6 e7
  go_wp2_with fail
  refine bo.out.mono ?_
  rintro q w9 ⟨rfl,bn,bl⟩
  go_wp2_with fail
  refine bodyPost_end (v:=.tuple #[]) (by simp[results,results24,go_sem]) rfl ?_
  obtain⟨_,e1,e2,e3,e4,e5,e6,e7⟩:=HF.out
  exact⟨rfl,_,_,e5,bn,e6,e2.trans bl,e7⟩
def DQ(w w':World)(v v':Value):Prop:=∃g',v'.ownBlock=some g'/\(v.ownBlock=some g'∨w.heap.size<=g'/\w.grownBy w' none)
theorem qS{P:Program}{w:World}{ops:Array Oper}{b:List Oper}{o:Oper}{a:Act}{Q:Exit->Act->World->Prop}(k:o.guard=none)(s x:Operand)(t:TypeId)(l:o.op=.call {callee:=.builtin .append,args:=#[s,x],argTypes:=#[t,t]})(base:Nat)(e:TypeId)(i:TypeInfo)(z:Value)(size bytes:Nat)(E:P.underlying t=some (.slice e))(B:P.info? e=some i)(N:i.zero=some z)(D:i.size=size)(H:i.bytes=bytes)(U:z.cells.size=size)(F:0<size)(v:Value)(n:Nat)(xs:List Value)(hs:a.eval s=v)(f:w.ownsRow base e size v n xs)(q:Addr)(m c:Nat)(news:List Value)(p:0<m)(O:a.eval x=.slice (some q) m c)(R:news.length=m*size)(V:∀j u,news[j]?=some u->w.cell? (q.add j)=some u)(r:∀u∈news,u.oneCell'=true)(y:n+m<=maxLen)(M:(n+m)*bytes<=140737488355328)(d:base<=w.heap.size)(h:∀v' w',w'.ownsRow base e size v' (n+m) (xs++news)->w.grownBy w' v.ownBlock->DQ w w' v v'->wpList P ops Q b (a.put o.dst v') w'):wpList P ops Q (o::b) a w:=by refine wpList_plain k fun K L=>?_;obtain⟨v',w',g,C,S,_,A⟩:=xL (P:=P) w base t o.type e i z size bytes E B N D H U F v n xs f q m c news p R V r y M d;unfold Oper.wp;simp only[execOp,l,resolve,invoke,builtin,Sem.run_bind,Sem.run_pure,Result.andThen_ok,List.map_toArray,List.map_cons,List.map_nil,hs,O,g];exact L _ _ (h v' w' C S A)
def jJ{α:Type}(N:Nat->α)(k:Nat)(x:α)(j:Nat):α:=if j=k then x else N j
theorem CD{α:Type}{N:Nat->α}{k j:Nat}{x:α}(h:j≠k):jJ N k x j=N j:=if_neg h
theorem zQ{α:Type}{N:Nat->α}{k:Nat}{x:α}:jJ N k x k=x:=if_pos rfl
structure Bg(w:World)(Wc base:Nat)(v:Nat->Value)(nb:Int)(hs:List Ho)(ns:List AG.Nd)(N:Nat->Nat)(X:Nat->List Value):Prop where
 cr:jY w Wc base v nb true N X
 hl:hs.length=ns.length
 host:∀i (h:i<hs.length) (h':i<ns.length),fK w hs[i].Kn hs[i].P 1 hs[i].C hs[i].left ns[i]
 ap:∀i j (hi:i<hs.length) (hj:j<hs.length),i≠j->∀g,hs[i].al g->¬hs[j].al g
 lg:∀k∈eO,∀g,(v k).ownBlock=some g->∀i (hi:i<hs.length),¬hs[i].al g
 ng:∀i (hi:i<hs.length),¬hs[i].al Wc
 low:base<=Wc/\2<=base/\∀i (hi:i<hs.length),∀g,hs[i].al g->base<=g
 tabs:dU w
 qt:Qt hs
section
variable {w w' w3:World} {Wc base:Nat} {v:Nat->Value} {nb:Int} {hs:List Ho} {ns:List AG.Nd} {N N':Nat->Nat} {X X':Nat->List Value}
theorem Bg.jd(h:Bg w Wc base v nb hs ns N X):base<=w.heap.size:=Nat.le_trans h.low.1 (Nat.le_of_lt h.cr.blk.lt)
theorem Bg.cong(h:Bg w Wc base v nb hs ns N X)(b:∀k∈eO,N k=N' k/\X k=X' k):Bg w Wc base v nb hs ns N' X':=⟨⟨h.cr.blk,fun k a=>by rw[←(b k a).1,←(b k a).2];exact h.cr.row k a,h.cr.sep⟩,h.hl,h.host,h.ap,h.lg,h.ng,h.low,h.tabs,h.qt⟩
theorem Bg.later(h:Bg w Wc base v nb hs ns N X)(b:Below w.heap.size w w'):Bg w' Wc base v nb hs ns N X:=by have d:dU w':=h.tabs.kept (dK.of_below (A:=fun _=>False) b) (fun c=>c) (fun c=>c);exact⟨h.cr.later b,h.hl,fun i hi a=>(h.host i hi a).same b.size (fun g e=>b.block g ((h.host i hi a).lt g e).2) d,h.ap,h.lg,h.ng,h.low,d,h.qt⟩
theorem Bg.push{k m:Nat}{news:List Value}{v3:Value}(p:k∈eO)(h:Bg w Wc base v nb hs ns N X)(Q:w3.ownsRow base (rT k) (rS k) v3 (N k+m) (X k++news))(u:w.grownBy w3 (v k).ownBlock)(R:DQ w w3 (v k) v3):w3.cell? ⟨Wc,k,Z⟩=Y (v k)/\w3.frozen? ⟨Wc,k,Z⟩=false/\Bg (w3.setCell ⟨Wc,k,Z⟩ v3) Wc base (gD v k v3) nb hs ns (jJ N k (N k+m)) (jJ X k (X k++news))/\Below base w (w3.setCell ⟨Wc,k,Z⟩ v3):=by
 have s:=h.cr.off p;have t:dC w3 Wc (iW v nb true) 63:=h.cr.blk.same (u.block Wc h.cr.blk.lt (fun b=>s b.symm));have e:=dH.setCell w3 ⟨Wc,k,Z⟩ v3;have H:dC (w3.setCell ⟨Wc,k,Z⟩ v3) Wc (iW (gD v k v3) nb true) 63:=by have:=t.set k v3;rw[rA v nb true v3 k p]at this;exact this
 have o:dK (fun g=>g=Wc∨(v k).ownBlock=some g) w (w3.setCell ⟨Wc,k,Z⟩ v3):=⟨e.os.trans u.os,e.tape.trans u.tape,e.output.trans u.output,by rw[e.size];exact u.size,fun g a b=>(e.block g (fun c=>b (.inl c))).trans (u.block g a (fun c=>b (.inr c.symm)))⟩;have a:∀g,v3.ownBlock=some g->(v k).ownBlock=some g∨w.heap.size<=g:=by
  intro g a;obtain⟨O,M,L⟩:=R;rw[M]at a;have D:O=g:=by simpa using a
  subst D;exact L.imp id (fun c=>c.1)
 have C:v3.ownBlock≠some Wc:=by
  intro b;rcases a Wc b with c|c;·exact s c
  ·have:=h.cr.blk.lt;omega
 have B:(w3.setCell ⟨Wc,k,Z⟩ v3).ownsRow base (rT k) (rS k) v3 (N k+m) (X k++news):=dO Q (fun g a=>e.block g (fun b=>C (by rw[a,b])));have K:dU (w3.setCell ⟨Wc,k,Z⟩ v3):=h.tabs.kept o (fun b=>b.elim (fun c=>by have:=h.low;omega) (fun c=>by have:=((h.cr.row k p).lt 0 c).1;have:=h.low;omega)) (fun b=>b.elim (fun c=>by have:=h.low;omega) (fun c=>by have:=((h.cr.row k p).lt 1 c).1;have:=h.low;omega));have q:∀j∈eO,j≠k->∀g,(v j).ownBlock=some g->(v k).ownBlock≠some g:=fun j n d g b c=>h.cr.rsep n p d b c;have A:∀j∈eO,j≠k->∀g,(v j).ownBlock=some g->v3.ownBlock≠some g:=by
  intro j n d g b c;rcases a g c with l|l;·exact q j n d g b l
  ·have:=((h.cr.row j n).lt g b).2;omega
 refine⟨(t.cell k).trans (tM v nb true k p),t.free k,⟨⟨H,fun j n=>?_,fun g z f=>?_⟩,h.hl,fun i hi E=>?_,h.ap,fun j n g b i hi=>?_,h.ng,h.low,K,h.qt⟩,?_⟩
 ·by_cases d:j=k;·subst d;rw[kW,zQ,zQ];exact B
  ·rw[nF d,CD d,CD d];exact dO (h.cr.row j n) (fun g b=>o.block g ((h.cr.row j n).lt g b).2 (fun c=>c.elim (fun l=>h.cr.off n (by rw[b,l])) (fun l=>q j n d g b l)))
 ·have F:3∈eO:=by decide
  have y:10∈eO:=by decide
  by_cases x:3=k;·subst x;rw[kW]at z;rw[nF (by decide)]at f;exact A 10 y (by decide) g f z
  ·rw[nF x]at z;by_cases r:10=k;·subst r;rw[kW]at f;exact A 3 F (by decide) g z f
   ·rw[nF r]at f;exact h.cr.sep g z f
 ·have b:=h.host i hi E;exact b.same o.size (fun g a=>o.block g (b.lt g a).2 (fun c=>c.elim (fun l=>h.ng i hi (l ▸ a)) (fun l=>h.lg k p g l i hi a))) K
 ·by_cases d:j=k
  ·subst d;rw[kW]at b;rcases a g b with c|c;·exact h.lg j n g c i hi
   ·intro l;have:=((h.host i hi (by rw[←h.hl];exact hi)).lt g l).2;omega
  ·rw[nF d]at b;exact h.lg j n g b i hi
 ·exact⟨o.os,o.tape,o.output,o.size,fun g a=>o.block g (Nat.lt_of_lt_of_le a h.jd) (fun b=>b.elim (fun c=>by have:=h.low;omega) (fun c=>by have:=((h.cr.row k p).lt g c).1;omega))⟩
theorem Bg.more(h:Bg w Wc base v nb hs ns N X)(A:Below w.heap.size w w'){h':Ho}{n':AG.Nd}(H:fK w' h'.Kn h'.P 1 h'.C h'.left n')(t:∀g,h'.al g->w.heap.size<=g)(K:h'.left = -1):Bg w' Wc base v nb (hs++[h']) (ns++[n']) N X:=by
 have D:=h.later A;have l:∀j (f:j<(hs++[h']).length),∀g,(hs++[h'])[j].al g->(j=hs.length/\h'.al g)∨(∃d:j<hs.length,hs[j].al g):=by
  intro j f g n;by_cases i:j<hs.length;·rw[List.getElem_append_left i]at n;exact .inr ⟨i,n⟩
  ·have e:j=hs.length:=by simp at f;omega
   subst e;rw[List.getElem_append_right r_]at n;simp at n;exact .inl ⟨rfl,n⟩
 have p:∀j (f:j<hs.length) g,hs[j].al g->g<w.heap.size:=fun j f g n=>((h.host j f (by rw[←h.hl];exact f)).lt g n).2;refine⟨D.cr,by simp[h.hl],fun j f d=>?_,fun a b Q A s g E u=>?_,fun k q g n j f m=>?_,fun j f m=>?_,⟨h.low.1,h.low.2.1,fun j f g m=>?_⟩,D.tabs,fun x O=>?_⟩
 ·by_cases i:j<hs.length
  ·have y:j<ns.length:=by rw[←h.hl];exact i
   simp only[List.getElem_append_left i,List.getElem_append_left y];exact D.host j i y
  ·have e:j=hs.length:=by simp at f;omega
   have L:j=ns.length:=e.trans h.hl;have M:(hs++[h'])[j]=h':=by subst e;simp
   have F:(ns++[n'])[j]=n':=by subst L;simp
   rw[M,F];exact H
 ·rcases l a Q g E with⟨rfl,c⟩|⟨z,c⟩
  ·rcases l b A g u with⟨rfl,_⟩|⟨o,r⟩;·exact s rfl
   ·have:=p b o g r;have:=t g c;omega
  ·rcases l b A g u with⟨rfl,r⟩|⟨o,r⟩;·have:=p a z g c;have:=t g r;omega
   ·exact h.ap a b z o s g c r
 ·rcases l j f g m with⟨rfl,c⟩|⟨d,c⟩;·have:=((h.cr.row k q).lt g n).2;have:=t g c;omega
  ·exact h.lg k q g n j d c
 ·rcases l j f Wc m with⟨rfl,c⟩|⟨d,c⟩;·have:=h.cr.blk.lt;have:=t Wc c;omega
  ·exact h.ng j d c
 ·rcases l j f g m with⟨rfl,c⟩|⟨d,c⟩;·have:=h.jd;have:=t g c;omega
  ·exact h.low.2.2 j d g c
 ·rcases List.mem_append.1 O with B|B;·exact h.qt x B
  ·simp at B;rw[B];exact K
theorem Bg.cell{s:CS}(h:Bg w Wc base v s.nb hs s.ns N X)(d:∀k∈eO,N k=rN hs s k/\X k=rX hs s k)(c:s.lv.length=s.ns.length/\s.kn.length=s.ns.length)(b:2<=s.ns.length/\s.ns.length<=5)(a:1<=s.nb/\s.nb<=4)(ids:∀i (h:i<s.ns.length),s.ns[i].id=(i:Int)/\s.ns[i].nodes=(s.ns.length:Int)/\s.ns[i].nb=s.nb):dP w Wc base 1 v true hs s:=⟨h.cr.blk,(h.cong d).cr.row,h.cr.sep,h.hl,h.host,h.ap,h.lg,h.ng,h.low,c,b,a,h.tabs,ids⟩
end
def CS.fst(n:Nat)(nb:Int)(m:Nat):CS:=⟨nb,(List.range m).map (fun i:Nat=>AG.Nd.first (i:Int) (n:Int) nb),List.replicate m 0,[],[],[],[],[⟨0,0,2^n - 1⟩],List.replicate m 1⟩
theorem C3(i n:Nat)(nb:Int)(b:2<=n/\n<=5):(AG.Nd.first (i:Int) (n:Int) nb).fresh (fB (i:Int) (n:Int) 0 true).du=AG.Nd.first (i:Int) (n:Int) nb:=by
 have a:(fB (i:Int) (n:Int) 0 true).bk=fun _=>0:=by funext j;unfold fB SD.bk;simp
 have e:(fB (i:Int) (n:Int) 0 true).du=AG.Du.first (i:Int) (n:Int):=by unfold SD.du AG.Du.first;rw[a];rfl
 rw[e];rfl
end
namespace AG
theorem Inv.oq{n nb:Int}{x:Int->Nd}(c:2<=n/\n<=5)(b:∀j,0<=j->j<n->x j=Nd.first j n nb):Inv n nb x (fun _=>False) Gh.none (Gv.none n):=by
 have h:=Inv.first (nb:=nb) c;have v:=h.vx;refine⟨c,?_,fun{j} h0 h1=>?_,rfl,fun h=>h.elim,fun h=>h.elim,fun h=>h.elim,fun h=>h.elim⟩
 ·refine{a1:=fun h=>h.elim,a2:=fun h=>h.elim,a3:=fun h=>h.elim,a4:=fun h=>h.elim,a5:=fun h=>h.elim,a6:=fun h=>h.elim,n1:=fun h=>h.elim,n2:=fun{j e} h0 h1=>?_,lm:=fun{j e} h0 h1=>?_,n3:=fun h=>h.elim,n4:=fun h=>h.elim,n5:=fun{j} h0 h1=>?_,n6:=fun _ _ _ _ h=>h,n7:=fun{j} h0 h1=>?_,n8:=fun{j} h0 h1=>?_,r1:=fun h=>h.elim,r2:=fun h=>h.elim};·have a:=v.n2 (e:=e) h0 h1;simp only[b j h0 h1];exact a
  ·have a:=v.lm (e:=e) h0 h1;simp only[b j h0 h1];exact a
  ·have a:=v.n5 h0 h1;simp only[b j h0 h1];exact a
  ·have a:=v.n7 h0 h1;simp only[b j h0 h1];exact a
  ·have a:=v.n8 h0 h1;simp only[b j h0 h1];exact a
 ·rw[b j h0 h1];exact h.own h0 h1
theorem CI.oq{n nb:Int}{x:Int->Nd}(d:2<=n/\n<=5)(a:∀j,0<=j->j<n->x j=Nd.first j n nb)(k:Int):CI n nb x (fun _=>False) Gh.none (Gv.none n) (fun _=>0) [] [] [⟨0,0,2 ^ n.toNat - 1⟩] k []:=by
 have c:=CI.first (nb:=nb) d;refine⟨Inv.oq d a,by simp,fun{j} h0 h1=>by rw[a j h0 h1];exact c.og h0 h1,by simp,fun{j} h0 h1 h=>?_,by simp,fun h=>h.elim,fun{j} h0 h1=>by rw[a j h0 h1];simp[Nd.first],.inl rfl,by simp,fun i b=>?_,fun{j} h0 h1=>.inl (by rw[a j h0 h1];simp[Nd.first,Du.first,Du.ep])⟩;·rw[a j h0 h1]at h;simp[Nd.first]at h
 ·have:i=0:=by simp at b;omega
  subst this;exact⟨rfl,0,by omega,by omega,by rw[a 0 (by omega) (by omega)];simp[Nd.first,Du.first,Du.ep]⟩
end AG
theorem C4{n:Nat}{nb:Int}(h:2<=n/\n<=5):Ok (CS.fst n nb n) n 1:=by
 have a:∀j,j<n->(CS.fst n nb n).nd j=AG.Nd.first (j:Int) (n:Int) nb:=by intro j b;unfold CS.nd;show((List.range n).map (fun i:Nat=>AG.Nd.first (i:Int) (n:Int) nb)).getD j _=_;rw[List.getD_eq_getElem?_getD,List.getElem?_map,List.getElem?_range b];rfl
 have c:(CS.fst n nb n).lf=fun _=>0:=by
  funext j;unfold CS.lf;split;·show(List.replicate n (0:Int)).getD j.toNat 0=0;rw[List.getD_eq_getElem?_getD,List.getElem?_replicate];split<;>rfl
  ·rfl
 refine⟨⟨(fun _=>False),AG.Gh.none,AG.Gv.none (n:Int),fun k=>⟨?_,?_,fun j b=>?_,by simp[CS.fst],by simp[CS.fst]⟩⟩,by intro z g;simp[CS.fst]at g,?_⟩;·rw[c];exact AG.CI.oq (by omega) (fun j d l=>by have f:=a j.toNat (by omega);unfold CS.xf;rw[if_pos d,f,show((j.toNat:Nat):Int)=j by omega];rfl) _
 ·simp[CS.fst]
 ·rw[a j b];show(List.replicate n (1:Int)).getD j 0<=_;rw[List.getD_eq_getElem?_getD,List.getElem?_replicate,if_pos b];simp[AG.Nd.first,AG.Du.first]
 ·intro i hi;have e:(CS.fst n nb n).lv[i]=0:=by simp[CS.fst]
  rw[e];omega
theorem NK(s:CS)(k:Nat):∃l,(s.cm k).net=s.net++l:=by
 unfold CS.cm;split;·exact⟨[],(List.append_nil _).symm⟩
 ·unfold CS.come;rw[rB];exact⟨_,rfl⟩
theorem wA(s:CS)(k:Nat):∀d,∃l,(s.jf (k+d)).net=(s.jf k).net++l
 |0=>⟨[],(List.append_nil _).symm⟩
 |d+1=>by obtain⟨l,h⟩:=wA s k d;obtain⟨a,b⟩:=NK (s.jf (k+d)) (k+d);exact⟨l++a,by show((s.jf (k+d)).cm (k+d)).net=_;rw[b,h,List.append_assoc]⟩
theorem Ok.sub{s:CS}{n N:Nat}(h:Ok s n N){l:List (Int×AG.Ms)}(d:∀z∈l,z∈s.net)(e:l.length<=s.net.length):Ok {s with net:=l} n N:=by obtain⟨sn,g,u,a⟩:=h.gs;refine⟨⟨sn,g,u,fun j=>⟨(a j).ci,(a j).ns,(a j).kn,?_,fun z c=>(a j).nt z (d z c)⟩⟩,fun z c=>h.ou z (d z c),h.lv⟩;have b:=(a j).bd;exact⟨b.1,b.2.1,b.2.2.1,b.2.2.2.1,Nat.le_trans e b.2.2.2.2⟩
def uE(n:Nat)(z:Int×AG.Ms):Bool:=(decide (0<=z.1)&&decide (z.1<(n:Int)))&&(fD z.2.k z.2.f [0,z.2.e,z.2.b,z.2.wa,z.2.p,z.2.s,z.2.q,z.2.bl,z.2.v,(z.2.zs.length:Int)]&&(z.2.zs.all (fun y=>decide (-9223372036854775808<=y)&&decide (y<=9223372036854775807))&&(!(z.2.k==9)||decide (1<=z.2.zs.length))))
def pT(n:Nat):Nat->CS->Bool
 |0,_=>true
 |m+1,s=>decide (s.net.length=0)||(decide (s.net.length<=1000)&&((s.jf s.net.length).net.all (uE n)&&pT n m s.pass))
def A0:CS:=CS.fst 2 1 2
def A1:CS:=A0.oh 1 2 0 0
def A2:CS:=CS.jh 9 A1
def A3:CS:=A2.oh 1 2 0 2
def A4:CS:=A3.oh 1 2 0 3
def A5:CS:=A4.oh 1 2 0 1
def A6:CS:=CS.jh 9 A5
def A7:CS:=A6.oh 1 2 0 2
def A8:CS:=CS.jh 9 A7
theorem xJ{n:Nat}{z:Int×AG.Ms}(h:uE n z=true):(0<=z.1/\z.1<(n:Int))/\Rl z.2:=by unfold uE at h;simp only[Bool.and_eq_true,decide_eq_true_eq,List.all_eq_true,Bool.or_eq_true,Bool.not_eq_true',beq_eq_false_iff_ne]at h;exact⟨h.1,h.2.1,h.2.2.1,fun a=>h.2.2.2.resolve_left (fun b=>b a)⟩
theorem C6{n:Nat}:∀(M:Nat) (s:CS) (N:Nat),Ok s n N->pT n M s=true->N+13000*M<=40000000->sE M s/\Ok (CS.jh M s) n (N+13000*M)
 |0,s,N,h,_,_=>⟨trivial,h⟩
 |M+1,s,N,h,hb,hN=>by
  by_cases x:s.net.length=0
  ·refine⟨.inl x,?_⟩;have e:CS.jh (M+1) s=s:=by show(bif decide (s.net.length=0) then s else _)=s;rw[decide_eq_true x];rfl
   rw[e];exact h.up (by omega)
  ·have t:(decide (s.net.length=0)||(decide (s.net.length<=1000)&&((s.jf s.net.length).net.all (uE n)&&pT n M s.pass)))=true:=hb;simp only[x,decide_false,Bool.false_or,Bool.and_eq_true,decide_eq_true_eq,List.all_eq_true]at t;obtain⟨E,d,o⟩:=t;have F:=h.gs.nn;have f:∀k,k<=s.net.length->∀z∈(s.jf k).net,z∈(s.jf s.net.length).net:=by intro k v z w;obtain⟨l,r⟩:=wA s k (s.net.length-k);rw[show k+(s.net.length-k)=s.net.length by omega]at r;rw[r];exact List.mem_append_left _ w
   have c:∀k,s.net.length<=(s.jf k).net.length:=by intro k;obtain⟨l,r⟩:=wA s 0 k;rw[show 0+k=k by omega]at r;rw[r,List.length_append];exact Nat.le_add_right _ _
   have g:∀k,k<=s.net.length->Ok (s.jf k) n (N+13*k):=by
    intro k;induction k with
    |zero=>intro _;exact h
    |succ k ih=>
     intro v;have p:=ih (by omega);have b:k<(s.jf k).net.length:=Nat.lt_of_lt_of_le v (c k);have a:=List.getElem_mem b;obtain⟨D,u⟩:=xJ (d _ (f k (by omega) _ a));have q:(s.jf k).net[k].1.toNat<n:=by omega
     have e:s.jf (k+1)=(s.jf k).come (s.jf k).net[k].1.toNat (s.jf k).net[k].2 true:=by show(s.jf k).cm k=_;unfold CS.cm;rw[List.getElem?_eq_getElem b]
     refine⟨?_,fun z w=>xJ (d z (f (k+1) v z w)),?_⟩;·rw[e];exact(p.gs.come (j:=(s.jf k).net[k].1) (m:=(s.jf k).net[k].2) a (nM u) q true).up (by omega)
     ·rw[e];unfold CS.come;rw[rV];intro i hi;have:=p.lv i hi;exact⟨this.1,by show(s.jf k).lv[i]<=_;omega⟩
   have C:Ok s.pass n (N+13*s.net.length):=(g s.net.length r_).sub (fun z w=>List.mem_of_mem_drop w) (by rw[List.length_drop];exact Nat.sub_le _ _);obtain⟨y,A⟩:=C6 M s.pass (N+13*s.net.length) C o (by omega);refine⟨.inr ⟨⟨E,fun k v=>?_⟩,c _,?_,y⟩,?_⟩
   ·have p:=g k (by omega);have b:k<(s.jf k).net.length:=Nat.lt_of_lt_of_le v (c k);have a:=List.getElem_mem b;obtain⟨D,u⟩:=xJ (d _ (f k (by omega) _ a));have q:(s.jf k).net[k].1.toNat<n:=by omega
    have B:=fM.bd (p.gs);refine⟨⟨(s.jf k).net[k].1.toNat,(s.jf k).net[k].2,b,?_,by rw[p.gs.nn.2];exact q,u,p.stR q (j:=(s.jf k).net[k].1) a (nM u),fun ok=>(p.gs.receive q (j:=(s.jf k).net[k].1) a (nM u) ok).lk q (by omega)⟩,by omega⟩;rw[show(((s.jf k).net[k].1.toNat:Nat):Int)=(s.jf k).net[k].1 by omega]
   ·have B:=fM.bd ((g s.net.length r_).gs);omega
   ·have e:CS.jh (M+1) s=CS.jh M s.pass:=by show(bif decide (s.net.length=0) then s else _)=_;rw[decide_eq_false x];rfl
    rw[e];exact A.up (by omega)
theorem QH:pT 2 9 A1=true:=by decide +kernel
theorem QI:pT 2 9 A5=true:=by decide +kernel
theorem QJ:pT 2 9 A7=true:=by decide +kernel
theorem mT:A4.rs.map (fun r=>r.v)=[1,1]/\A4.hi.length=2/\A7.rs.length=2/\A8.rs.length=3/\A8.hi.map (fun r=>(r.E,r.P,r.S))=[(0,0,3),(1,2,2),(2,2,3)]:=by decide +kernel
section
open Value renaming int->I,slice->J,pointer->P0
open IntKind renaming i64->T
open Option renaming none->Z,some->Y
open Obj renaming cells->G
open Value (bool)
theorem NL:(Tryz.prog.info? 72).map (fun i=>(i.zero,i.size,i.bytes))=Y (Y (P0 Z),1,8):=by kernel_rfl
theorem NM:(Tryz.prog.info? 33).map (fun i=>(i.zero,i.size,i.bytes))=Y (Y (P0 Z),1,8):=by kernel_rfl
theorem NN:(Tryz.prog.info? 34).map (fun i=>(i.zero,i.size,i.bytes))=Y (Y (P0 Z),1,8):=by kernel_rfl
theorem IY{w:World}{a low i n:Nat}{nb:Int}(l:DS 98 107 low w a (J Z 0 0) [] (-1))(h:fN w (a+1) (a+2) a)(hs:w.heap.size=a+3)(k:2<=n/\n<=5)(hi:i<n)(b:1<=nb/\nb<=4):qR w (AG.Nd.first (i:Int) (n:Int) nb) 0 low (a+1) (a+2) a a (J Z 0 0) [] [] [] (fB (i:Int) (n:Int) 0 true):=by
 have s:n=2∨n=3∨n=4∨n=5:=by omega
 have hS:(0:Int)<=2^(n:Int).toNat - 1/\(2:Int)^(n:Int).toNat - 1<=31:=by rcases s with rfl|rfl|rfl|rfl<;>decide
 refine⟨⟨h,l,by omega,by omega,by decide,by simp,by simp⟩,?_,by intro f d;simp at d,rfl,rfl,.inl rfl,by intro m o;simp at o,by simp,rfl,?_,?_,?_,?_,?_,b⟩
 ·rintro g (rfl|rfl|rfl|p);·omega
  ·omega
  ·omega
  ·simp[Value.ownBlock]at p
 ·refine⟨by simp[fB,Kq],by intro y hy;simp[fB]at hy,⟨[],rfl⟩,?_,by simp[fB],by simp[fB],by simp[fB];decide,by simp[fB];decide,by simp[fB];decide,by simp[fB];decide⟩;intro j q;have e:j=0:=by simp[fB]at q;omega
  subst e;exact⟨rfl,⟨Int.le_refl _,by show(0:Int)<=5;decide⟩,hS⟩
 ·refine⟨by simp[fB],by simp[fB],by simp[fB],by simp[fB],by simp[fB],?_,by simp[fB];omega⟩;intro r c;simp[fB]at c;subst c;exact⟨Int.le_refl _,by show(0:Int)<=_;decide⟩
 ·rw[C3 i n nb k];exact .inl ⟨[],rfl,fun _=>rfl⟩
 ·show 2<=(n:Int)/\(n:Int)<=5;omega
 ·show 0<=(i:Int)/\(i:Int)<(n:Int);omega
end
end Go.Proofs.YtdcainmlcpafbaaGreatDoor
