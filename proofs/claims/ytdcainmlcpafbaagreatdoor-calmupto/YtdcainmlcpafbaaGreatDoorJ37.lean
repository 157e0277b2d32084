import Derived.Test.YtdcainmlcpafbaaGreatDoorJ33
set_option linter.all false
set_option maxHeartbeats 100000000
set_option maxRecDepth 20000
namespace Go.Proofs.YtdcainmlcpafbaaGreatDoor
open Go.RowKit
open Value renaming slice->J,pointer->P0
open Tryz
open Tryz renaming prog->pG
open IntKind renaming i64->T
open Option renaming none->Z,some->Y
open Obj renaming cells->G
open Value (bool)
def pk(x:Int)(L:Nat)(h:0<L):∃i:Nat,eV x%(L:Int)=(i:Int)/\i<L:=by have a:=Int.emod_nonneg (eV x) (show(L:Int)≠0 by omega);have b:=Int.emod_lt_of_pos (eV x) (show(0:Int)<(L:Int) by omega);exact⟨(eV x%(L:Int)).toNat,oG,oG⟩
def CS.ja(s:CS)(i n:Nat)(b:Int):Nat->CS
 |0=>(s.put i (((s.nd i).eu (kI ((s.nd i).d.recs.getD ((s.nd i).d.recs.length-1) ⟨0,0,0⟩).S (eV b%32) i n) true).1,((s.nd i).eu (kI ((s.nd i).d.recs.getD ((s.nd i).d.recs.length-1) ⟨0,0,0⟩).S (eV b%32) i n) true).2.1)).look i
 |1=>(s.put i (((s.nd i).admi (eV b%(n:Int)) true).1,((s.nd i).admi (eV b%(n:Int)) true).2.1)).look i
 |4=>(s.put i ((s.nd i).gq true)).look i
 |k=>(s.oper i b (k==3) true).look i
@[reducible] def gO(X Wc r g c L i a:Nat)(K A Bm:Int)(w':World):Prop:=w'.cell? ⟨Wc,r,Z⟩=Y (J (Y ⟨g,0,Z⟩) L c)/\w'.cell? ⟨g,i,Z⟩=Y (P0 (Y ⟨a,0,Z⟩))/\dI w' X #[I K,I A,I Bm] 70
def gO.ql{X Wc r g c L i a base t:Nat}{K A j:Int}{v:Nat->Value}{f:Bool}{hs:List Ho}{s:CS}{w w3:World}(h:gO X Wc r g c L i a K A j w)(e:dU w Wc base t v f hs s)(d:i<hs.length)(l:r∈eW)(o:v r=J (Y ⟨g,0,Z⟩) L c)(m:g<w.1.size)(n:¬hs[i].al X)(b:∃G,dR hs[i].al G w w3):gO X Wc r g c L i a K A j w3:=by obtain⟨_,b⟩:=b;exact⟨(World.cell?_of_block (a:=⟨Wc,r,Z⟩) (b.kept.block Wc e.blk.lt (e.ni i d))).trans h.1,(World.cell?_of_block (a:=⟨g,i,Z⟩) (b.kept.block g m (λk=>e.mg r l g (by rw[o];rfl) i d k))).trans h.2.1,b.blk h.2.2 n⟩
def zJ(s:CS)(i n:Nat)(b:Int)(k:Nat)(a:k=2∨k=3):s.ja i n b k=(s.oper i b (k==3) true).look i:=by rcases a with rfl|rfl<;>simp only[CS.ja]
def QL(s:CS)(i:Nat)(b:Int)(rd ok:Bool):(s.oper i b rd ok).ns.length=s.ns.length:=by unfold CS.oper;split;simp;split<;>simp
def OX(s:CS)(i:Nat)(b:Int)(rd ok:Bool):(s.oper i b rd ok).hi=s.hi:=by unfold CS.oper;split;rfl;split<;>rfl
def qH{s:CS}{i:Nat}(h:pX s i):(s.look i).hi.length<=s.hi.length+1:=by show(s.hi++(s.nd i).d.recs.drop s.hi.length).length<=_;rw[List.length_append,List.length_drop];have:=h.hl;omega
def EJ{s:CS}{i n N:Nat}(h:eX s n N)(hi:i<n):(s.look i).hi.length=s.hi.length:=by obtain⟨_,_,_,h⟩:=h;have a:=eX.lt h hi;have e:(s.nd i).d.ep=((s.nd i).d.recs.length:Int) - 1:=rfl;show(s.hi++(s.nd i).d.recs.drop s.hi.length).length=_;rw[List.length_append,List.length_drop];omega
def TL(Wc base t:Nat)(hs:List Ho)(s:CS)(N i kk:Nat)(b:Int)(w w':World):Prop:=∃hs' s',hs'.length=hs.length/\CA w' Wc base (t+1) true hs' s'/\Ok s' hs.length (N+40)/\Below base w w'/\s'.hi.length<=s.hi.length+1/\(Qt hs->kk<5->Qt hs'/\s'=s.ja i hs.length b kk)
def rA(Wc base t:Nat)(hs:List Ho)(s:CS)(N i kk:Nat)(K b:Int)(w:World)(hs':List Ho)(s':CS)(w':World):Prop:=eV K%10=(kk:Int)/\CA w' Wc base (t+1) true hs' s'/\Below base w w'/\pX s' i/\i<s'.ns.length/\hs'.length=hs.length/\Ok (s'.look i) hs.length (N+40)/\(s'.look i).hi.length<=s.hi.length+1/\(Qt hs->kk<5->Qt hs'/\s'.look i=s.ja i hs.length b kk)
def TM(Wc base t:Nat)(v:Nat->Value)(hs:List Ho)(s:CS)(N i:Nat)(w:World)(f:Bool->AG.Nd×List (Int×AG.Ms))(ok:Bool)(l:Value)(WB:Nat)(w':World):Prop:=∃hs',hs'.length=hs.length/\dU w' Wc base (t+1) v true hs' {s with ns:=s.ns.set i (f ok).1}/\dZ w' WB l (fY (f ok).2)/\eR (s.nd i).2 (f ok).2/\Below base w w'/\i5 (s.put i (f ok)) hs.length i (N+12)/\(f ok).2.length<=12/\(Qt hs->ok=true/\Qt hs')
def jI.nx{Kn t:Nat}{P:Pl}{C:Nat->Prop}{left n:Int}{f:AG.Nd×List (Int×AG.Ms)}{ok:Bool}{l:Value}{w w':World}(h:jI Kn P t C left n f ok l w w'):∃G,dR (wK C Kn) G w w':=by obtain⟨_,_,C',_,_,a,_⟩:=h;exact⟨_,a⟩
def vJ{W w w':World}{Wc base t N i:Nat}{v:Nat->Value}{hs:List Ho}{s:CS}{f:Bool->AG.Nd×List (Int×AG.Ms)}{ok:Bool}{l:Value}(p:Ok s hs.length N)(h:dU W Wc base t v true hs s)(a:i<hs.length)(hi:i<s.ns.length)(q:Below base w W)(b:jI hs[i].Kn hs[i].P t hs[i].C hs[i].left (s.nd i).2 (f ok) ok l W w')(k:i5 (s.put i (f ok)) hs.length i (N+12))(m:(f ok).2.length<=12):TM Wc base t v hs s N i w f ok l W.1.size w':=by have c:=CS.jy hi;have n:=(p.stO a (f:=λ_=>f ok) (λ_=>k) (λ_=>m)).id true;rw[c]at n;obtain⟨r,o,hs',g,e,j,d⟩:=h.did a hi b n;exact⟨hs',g,e,r,o,q.trans j,k,m,d.1⟩
set_option maxRecDepth 40000 in
def EK(hLO:i8)(hUO:i6)(hSO:fB)(hBW:fH)(hBS:fI)(Wc base t:Nat)(hs:List Ho)(s:CS)(N i kk:Nat)(K A c:Int)(w:World)(h:CA w Wc base t true hs s)(hg:Ok s hs.length N)(a:i<hs.length)(aN:eV A%(hs.length:Int)=(i:Int))(o:kk<10)(b1:eV K%10=(kk:Int))(aQ:i_ A)(a1:i_ c)(bc:i_ K)(ht:t+2<=20000000)(hN:N+100<=500000000):Calls pG 24 #[P0 (Y ⟨Wc,0,Z⟩),.agg #[I K,I A,I c]] w λq w'=>q=.returned (.tuple #[])/\TL Wc base t hs s N i kk c w w':=by
 obtain⟨v,h⟩:=h;have hn:=hg.gs.nn;have ar:=h.nb;have bC:=h.ll;have bz:=hg.gs.bd;have hi:i<s.ns.length:=oG;have a3:=CS.jy hi;have aC:=(Below.refl w.1.size w).alloc r_ (G #[I K,I A,I c] 70);have ab:=dF (dI.new w #[I K,I A,I c] 70);have am:=dF (h.later aC);have aY:=dF (aC.mono h.jf);have an:¬hs[i].al w.1.size:=λe=>by have:=((h.host i a hi).lt _ e).2;omega
 have bp:=dF aN;have V:=dF b1;have n:=dF hg;have ak:=dF a3;have av:=(hg.gs.ids a).2.1;have ao:=dF av;have lk:∀{s':CS} {N':Nat},i5 s' hs.length i N'->N'<=N+40->pX s' i:=λe h8=>e.lk a oG;clear h aC aN b1 hg a3 av;go_enter func24,ntmps24;go_upto_region 1 with fail;generalize hX:w.1.size=X at*;generalize World.alloc _ _=W1 at*;obtain⟨a0,aL,a6⟩:=eK (am.row 0 dG);have c0:=am.cell (k:=0) dG;rw[a6]at c0;have bq:rN hs s 0=hs.length:=rfl;rw[bq]at c0;have aj:=dF c0;clear c0 a6;go_cut [4] (λs4 wx=>s4=I (i:Int)/\wx=W1.drew);case first=>refine eZ (S:=λw'=>w'.cell? ⟨Wc,0,Z⟩=Y (J a0 hs.length aL)/\dI w' X #[I K,I A,I c] 70) (λ_=>?_) (hS:=⟨aj,ab.drew⟩);refine dH 0 ?_;refine dH 1 (v:=I A) ?_ (hy:=λw b=>by have e:=b.2.cell 1;simp at e;go_simp);refine dH 2 ?_;refine dH 3 ?_;refine dH 4 ?_;refine dH 5 (v:=J a0 hs.length aL) ?_ (hy:=λw b=>by have e:=b.1;go_simp);refine dH 6 ?_;refine dT 7 λK p=>?_;(try go_simp);go_at_call 22;refine(nO A (hs.length:Int) _ oG aQ.1 aQ.2).mono ?_;rintro q w9 ⟨rfl,R⟩;obtain rfl:=R.symm;rw[bp.out];refine kr p 8 (λK p=>?_) ⟨aj,ab.drew⟩;(try go_simp);refine kd p ?_ ⟨aj,ab.drew⟩;go_wp2_with fail;go_meet;exact⟨rfl,rfl⟩
 obtain⟨rfl,rfl⟩:=hcut;have r:=dF (am.later (b_.drew));have a2:=dF ab.drew;have Q:Hid (Below base w W1.drew):=aY.drew;clear am ab aY aj;generalize W1.drew=W2 at*;have x0:=a2.cell 0;have x2:=a2.cell 2;simp at x0 x2;go_wp2_with fail;refine(nO K 10 _ dG bc.1 bc.2).mono ?_;rintro q w9 ⟨rfl,R⟩;obtain rfl:=R.symm;rw[V.out];have D:=dF (r.later (b_.drew));have aK:=D.host i a hi;rw[←ak.out]at aK;have aM:=dF aK;obtain⟨g0,F,a6,c0,az,aZ⟩:=r.ones (k:=0) dG (show 0<hs.length by omega);have y0:=aZ i _ (show(rX hs s 0)[i]?=_ from mW a (λh=>P0 (Y ⟨h.Kn,0,Z⟩)));rw[show rN hs s 0=hs.length from rfl]at c0 a6;have bD:(0:Int)<=(i:Int)/\(i:Int)<(hs.length:Int):=oG;have aB:=dF a6;have a7:Hid (gO X Wc 0 g0 F hs.length i hs[i].Kn K A c W2.drew):=⟨c0,y0,a2.drew⟩;clear aZ a6 aK;have a8:kk=0∨kk=1∨kk=4∨kk=2∨kk=3∨kk=8∨kk=9∨((kk=5∨kk=6∨kk=7)/\s.4.length=0)∨((kk=5∨kk=6∨kk=7)/\0<s.4.length):=oG;rcases a8 with rfl|rfl|rfl|rfl|rfl|rfl|rfl|⟨a8,h0⟩|⟨a8,h0⟩;focus
  have ay:=(n.gs.gp i).lk a oG
  have a3:=ak.out
  have aH:=ay.rg
  have aS:=ay.hl
  have be:0<s.ns[i].d.recs.length:=by
   obtain⟨sn,g,u,e⟩:=n.gs
   have h8:=((e 0).1.1.own (j:=(i:Int)) oG oG).i0.2.2.2.2
   rw[eE,a3]at h8
   have h7:(0:Int)<=(s.ns[i].d.recs.length:Int) - 1:=h8
   omega
  simp only[a3]at aH aS
  have hS:=(aH (s.ns[i].d.recs.length-1) oG).1
  obtain⟨x,hx⟩:∃y,s.ns[i].d.recs[s.ns[i].d.recs.length-1]' oG=y:=⟨_,rfl⟩
  rw[hx]at hS
  have b9:(s.nd i).d.recs.getD ((s.nd i).d.recs.length-1) ⟨0,0,0⟩=x:=by rw[a3,List.getD_eq_getElem?_getD,List.getElem?_eq_getElem oG,hx];rfl
  have b4:=dF (M9 hLO hUO Wc base t true hs s i c W2.drew v D a hi oG a1 be oG x hx hS)
  have hw:=yV x.S (eV c%32) i hs.length
  have bB:(2:Int)^hs.length<=32:=p2 ⟨hs.length,oG⟩
  have bj:=dF b9
  obtain⟨W,ac⟩:∃y,kI x.S (eV c%32) i hs.length=y:=⟨_,rfl⟩
  rw[ac]at b4 hw
  have bw:=dF ac
  clear ac b9 hx aH aS ay be a3
  go_upto_region 9 with fail
  clear c0 y0 x0 x2
  go_cut [7] (λs7 wx=>∃w3 ok,dU w3 Wc base t v true hs s/\Below base W2.drew w3/\jI hs[i].Kn hs[i].P t hs[i].C hs[i].left (s.nd i).2 (((s.nd i).eu W ok).1,((s.nd i).eu W ok).2.1) ok s7 w3 wx)
  case first=>
   refine eZ (S:=gO X Wc 0 g0 F hs.length i hs[i].Kn K A c) (λ_=>?_) (hS:=a7)
   refine dH 0 ?_;refine dH 1 ?_;refine dH 2 ?_
   refine dH 3 (v:=J (Y ⟨g0,0,Z⟩) hs.length F) ?_ (hy:=λw b=>by have e:=b.1;go_simp)
   refine dH 4 ?_
   refine dH 5 (v:=P0 (Y ⟨g0,i,Z⟩)) ?_ (hy:=λw b=>by go_simp)
   refine dH 6 (v:=P0 (Y ⟨hs[i].Kn,0,Z⟩)) ?_ (hy:=λw b=>by have e:=b.2.1;go_simp)
   refine dH 7 ?_
   refine dH 8 ?_;refine dH 9 ?_
   refine dH 10 (v:=I c) ?_ (hy:=λw b=>by have e:=b.2.2.cell 2;simp at e;go_simp)
   refine dT 11 λK9 p=>?_
   (try go_simp)
   go_at_call 54
   refine b4.mono ?_
   rintro q w3 ⟨rfl,z,B,M⟩
   have L:=a7.ql D a dG aB az an ⟨_,M⟩
   refine k1 p (λ_=>?_) L;clear p K9
   have b0:=z.host i a hi
   rw[←ak.out]at b0
   have br:=dF (b0.eu hLO hUO hSO hBW hBS oG W oG)
   refine dT 12 λK9 p=>?_
   (try go_simp)
   go_at_call 53
   refine br.mono ?_
   rintro q w4 ⟨l,ok,rfl,o⟩
   have aF:=L.ql z a dG aB (Nat.lt_of_lt_of_le az B.size) an o.nx
   refine k1 p (λ_=>?_) aF;clear p K9
   refine dH 13 ?_;refine dH 14 ?_;refine dH 15 ?_
   refine dT 16 λK9 p=>?_
   (try go_simp)
   refine kr p 17 (λK9 p=>?_) aF
   (try go_simp)
   refine kd p ?_ aF
   go_wp2_with fail
   go_meet
   exact⟨w3,ok,z,B,o⟩
  obtain⟨w3,ok,z,B,o⟩:=hcut
  have HT:=dF (vJ (f:=λok=>(((s.nd i).eu W ok).1,((s.nd i).eu W ok).2.1)) n z a hi (Q.drew.trans B) o (n.gs.eu a _ ok) (by have:=AG.promote_len (s.nd i) W ok;rw[ao.out]at this;dsimp only;omega))
  have HM:Hid (ok=true->(s.put i (((s.nd i).eu W ok).1,((s.nd i).eu W ok).2.1)).look i=s.ja i hs.length c 0):=λh=>by subst h;simp only[CS.ja];rw[bj.out,bw.out]
  clear z B o
 rotate_left;focus
  obtain⟨k,aa,bA⟩:=pk c hs.length oG
  have aq:=dF aa
  have bt:=dF (aM.admi hLO hUO hSO hBW hBS oG k (by rw[ao.out];omega))
  clear aa
  go_upto_region 12 with fail
  clear c0 y0 x0 x2
  go_cut [9] (λs9 wx=>∃ok,jI hs[i].Kn hs[i].P t hs[i].C hs[i].left (s.nd i).2 (((s.nd i).admi k ok).1,((s.nd i).admi k ok).2.1) ok s9 W2.drew wx)
  case first=>
   refine eZ (S:=gO X Wc 0 g0 F hs.length i hs[i].Kn K A c) (λ_=>?_) (hS:=a7)
   refine dH 0 ?_;refine dH 1 ?_;refine dH 2 ?_
   refine dH 3 (v:=J (Y ⟨g0,0,Z⟩) hs.length F) ?_ (hy:=λw b=>by have e:=b.1;go_simp)
   refine dH 4 ?_
   refine dH 5 (v:=P0 (Y ⟨g0,i,Z⟩)) ?_ (hy:=λw b=>by go_simp)
   refine dH 6 (v:=P0 (Y ⟨hs[i].Kn,0,Z⟩)) ?_ (hy:=λw b=>by have e:=b.2.1;go_simp)
   refine dH 7 ?_
   refine dH 8 (v:=I c) ?_ (hy:=λw b=>by have e:=b.2.2.cell 2;simp at e;go_simp)
   refine dH 9 ?_;refine dH 10 ?_;refine dH 11 ?_
   refine dH 12 (v:=J (Y ⟨g0,0,Z⟩) hs.length F) ?_ (hy:=λw b=>by have e:=b.1;go_simp)
   refine dH 13 ?_
   refine dT 14 λK9 p=>?_
   (try go_simp)
   go_at_call 22
   refine(nO c (hs.length:Int) _ oG a1.1 a1.2).mono ?_
   rintro q w9 ⟨rfl,R⟩
   obtain rfl:=R.symm
   rw[aq.out]
   refine kr p 15 (λK9 p=>?_) a7
   (try go_simp)
   go_at_call 55
   refine bt.mono ?_
   rintro q w3 ⟨l,ok,rfl,o⟩
   have L:=a7.ql D a dG aB az an o.nx
   refine k1 p (λ_=>?_) L;clear p K9
   refine dH 16 ?_;refine dH 17 ?_;refine dH 18 ?_
   refine dT 19 λK9 p=>?_
   (try go_simp)
   refine kr p 20 (λK9 p=>?_) L
   (try go_simp)
   refine kd p ?_ L
   go_wp2_with fail
   go_meet
   exact⟨ok,o⟩
  obtain⟨ok,o⟩:=hcut
  have HT:=dF (vJ (f:=λok=>(((s.nd i).admi k ok).1,((s.nd i).admi k ok).2.1)) n D a hi Q.drew o (n.gs.admi a _ ok oG) (by have:=AG.admit_len (s.nd i) k ok;dsimp only;omega))
  have HM:Hid (ok=true->(s.put i (((s.nd i).admi k ok).1,((s.nd i).admi k ok).2.1)).look i=s.ja i hs.length c 1):=λh=>by subst h;simp only[CS.ja];rw[aq.out]
  clear o
 rotate_left;focus
  have E:=r.host i a hi
  rw[←ak.out]at E
  have bk:=dF (E.gq hLO hUO hSO hBW hBS oG)
  clear E
  go_wp2_with fail
  refine bk.mono ?_
  rintro q w5 ⟨l,ok,rfl,o⟩
  have HT:=dF (vJ (f:=λok=>(s.nd i).gq ok) n r a hi Q o (n.gs.gq a ok) (AG.kz _ _ (by rw[ao.out];omega)))
  have HM:Hid (ok=true->(s.put i ((s.nd i).gq ok)).look i=s.ja i hs.length c 4):=λh=>by subst h;simp only[CS.ja]
  clear o c0 y0 x0 x2
 rotate_left;iterate 2
  focus
   have bh:Hid (∀rd,_):=λrd=>JR hLO hUO hSO hBW hBS Wc base t hs s i c rd W2 ⟨v,r⟩ hi oG a1 oG (n.stOp a c rd ar.1)
   go_wp2_with fail
   refine(bh.out _).mono ?_
   rintro q w3 ⟨rfl,ok,hs',O,z,B,aA⟩
   have HF:Hid (rA Wc base t hs s N i _ K c w _ _ _):=⟨V,z,Q.trans B,lk (n.gs.oper a c _ ok ar.1) oG,Nat.lt_of_lt_of_eq hi (QL s i c _ ok).symm,O,(n.oper a c _ ok ar.1 aA.2).up oG,Nat.le_trans (qH (lk (n.gs.oper a c _ ok ar.1) oG)) (Nat.le_of_eq (congrArg (λl:List eM=>l.length+1) (OX s i c _ ok))),λh1 _=>by obtain⟨rfl,h2⟩:=aA.1 h1;refine⟨h2,?_⟩;rw[zJ _ _ _ _ _ dG];rfl⟩
   clear z B aA
  rotate_left
 focus
  obtain⟨g2,ah,aw,c2,bu,aU⟩:=r.ones (k:=2) dG (show 0<hs.length by omega)
  have y2:=aU i _ (show(rX hs s 2)[i]?=_ from mW a (λh=>P0 (Y ⟨h.P.H,0,Z⟩)))
  rw[show rN hs s 2=hs.length from rfl]at c2 aw
  have bv:=dF aw;have aI:Hid (gO X Wc 2 g2 ah hs.length i hs[i].P.H K A c W2.drew):=⟨c2,y2,a2.drew⟩
  have E:=D.host i a hi
  have bg:=dF (E.nd.stop (eV c%20) oG)
  clear aU aw
  go_upto_region 29 with fail
  clear c2 y2 x0 x2 c0 y0
  refine eZ (S:=gO X Wc 2 g2 ah hs.length i hs[i].P.H K A c) (λ_=>?_) (hS:=aI)
  refine dH 0 ?_;refine dH 1 ?_;refine dH 2 ?_
  refine dH 3 (v:=J (Y ⟨g2,0,Z⟩) hs.length ah) ?_ (hy:=λw b=>by have e:=b.1;go_simp)
  refine dH 4 ?_
  refine dH 5 (v:=P0 (Y ⟨g2,i,Z⟩)) ?_ (hy:=λw b=>by go_simp)
  refine dH 6 (v:=P0 (Y ⟨hs[i].P.H,0,Z⟩)) ?_ (hy:=λw b=>by have e:=b.2.1;go_simp)
  refine dH 7 ?_
  refine dH 8 (v:=I c) ?_ (hy:=λw b=>by have e:=b.2.2.cell 2;simp at e;go_simp)
  refine dT 9 λK9 p=>?_
  (try go_simp)
  go_at_call 22
  refine(nO c 20 _ dG a1.1 a1.2).mono ?_
  rintro q w9 ⟨rfl,R⟩
  obtain rfl:=R.symm
  refine kr p 10 (λK9 p=>?_) aI
  (try go_simp)
  go_at_call 44
  refine bg.mono ?_
  rintro q w3 ⟨rfl,⟨left',b8⟩,M⟩
  have b5:fN w3 hs[i].Kn hs[i].P t hs[i].C left' s.ns[i]:=⟨M.blk E.blk E.ne,b8,E.ne,E.two⟩
  have aG:dR (wK hs[i].C hs[i].Kn) (wK hs[i].C hs[i].Kn) W2.drew w3:=⟨⟨M.kept.os,M.kept.tape,M.kept.output,M.kept.size,λg hg e=>M.kept.block g hg (λh8=>e (.inl h8))⟩,λg hg=>.inl hg⟩
  obtain⟨q1,q2⟩:=D.call (t':=t+1) a hi oG (b5.up oG) aG ⟨rfl,rfl,rfl⟩
  have aV:({s with ns:=s.ns.set i s.ns[i]}:CS)=s:=by rw[List.set_getElem_self hi]
  rw[aV]at q1
  have L:=aI.ql D a dG bv bu an ⟨_,aG⟩
  refine kd p ?_ L
  have HF:Hid (rA Wc base t hs s N i _ K c w _ _ _):=⟨V,⟨v,q1⟩,Q.drew.trans q2,lk (n.gs.gp i) oG,hi,sG,(n.again a).up oG,qH (lk (n.gs.gp i) oG),λ_ e=>absurd e dG⟩
  clear q1 q2 b5 aG b8 M L E
 rotate_left;focus
  have ax:i<s.3.length:=oG
  have bf:=dF (E6 Wc base t hs s i c W2 ⟨v,r⟩ hi oG (λe=>by have:=n.3 i e;omega))
  go_wp2_with fail
  refine bf.mono ?_
  rintro q w3 ⟨rfl,n',hs',O,au,z,B,_⟩
  have HF:Hid (rA Wc base t hs s N i _ K c w _ _ _):=⟨V,z,Q.trans B,lk (n.gs.run a ax au) oG,by show i<(s.ns.set i _).length;simpa using hi,O,(n.run a ax au).up oG,qH (lk (n.gs.run a ax au) oG),λ_ e=>absurd e dG⟩
  clear z B au
 rotate_left;rcases a8 with rfl|rfl|rfl;iterate 3
  focus
   obtain⟨a5,aD,ae⟩:=eK (r.row 5 dG)
   have c5:=r.cell (k:=5) dG
   rw[ae,show rN hs s 5=0 from h0]at c5
   have HU:=dF (r.up (t':=t+1) oG)
   clear ae h0
   go_wp2_with fail
   refine bodyPost_ret (v:=.tuple #[]) (by simp[results,results24,go_sem]) rfl ?_
   exact⟨rfl,hs,s,rfl,⟨_,HU⟩,n.up oG,Q,Nat.le_succ _,λ_ e=>absurd e dG⟩
 focus
  obtain⟨k,aa,hk⟩:=pk c _ h0
  have a4:=List.getElem_mem hk
  have ho:=n.ou _ a4
  obtain⟨j,bb⟩:=Int.eq_ofNat_of_zero_le ho.1.1
  obtain⟨m,hz⟩:∃m,s.4[k]=((j:Int),m):=⟨s.4[k].2,Prod.ext bb rfl⟩
  rw[hz]at a4 ho
  have hj:j<hs.length:=Int.ofNat_lt.1 ho.1.2
  have hm:Rl m:=ho.2
  have aq:=dF aa;have HZ:=dF hz;have U:=dF a4
  clear aa bb ho hz a4
 rcases a8 with rfl|rfl|rfl;iterate 3
  focus
   obtain⟨a5,aD,ae⟩:=eK (r.row 5 dG)
   have c5:=r.cell (k:=5) dG
   rw[ae,show rN hs s 5=s.4.length from rfl]at c5
   have bm:((s.4.length:Int)==0)=false:=by rw[beq_eq_false_iff_ne];omega
   have ap:=dF c5
   clear ae
   go_upto_region 6 with fail
   clear c5 bm c0 y0
   go_cut [5] (λs5 wx=>s5=I (k:Int)/\wx=W2.drew)
   case first=>
    refine eZ (S:=λw'=>w'.cell? ⟨Wc,5,Z⟩=Y (J a5 s.4.length aD)/\dI w' X #[I K,I A,I c] 70) (λ_=>?_) (hS:=⟨ap,a2.drew⟩)
    refine dH 0 ?_
    refine dH 1 (v:=I c) ?_ (hy:=λw b=>by have e:=b.2.cell 2;simp at e;go_simp)
    refine dH 2 ?_;refine dH 3 ?_;refine dH 4 ?_
    refine dH 5 (v:=J a5 s.4.length aD) ?_ (hy:=λw b=>by have e:=b.1;go_simp)
    refine dH 6 ?_
    refine dT 7 λK p=>?_
    (try go_simp)
    go_at_call 22
    refine(nO c (s.4.length:Int) _ oG a1.1 a1.2).mono ?_
    rintro q w9 ⟨rfl,R⟩
    obtain rfl:=R.symm
    rw[aq.out]
    refine kr p 8 (λK p=>?_) ⟨ap,a2.drew⟩
    (try go_simp)
    refine kd p ?_ ⟨ap,a2.drew⟩
    go_wp2_with fail
    go_meet
    exact⟨rfl,rfl⟩
   obtain⟨rfl,rfl⟩:=hcut
   have b2:Hid (Below base w W2.drew):=Q.drew
   clear r a2 Q ap a7 aM x0 x2
   generalize W2.drew=W3 at*
  rotate_left
 iterate 3
  focus
   obtain⟨hs',O,af,d1,d2,ag,hp,hl,hq⟩:=HT.out
   have aR:=dF (uY Wc base (t+1) true hs' _ _ _ _ _ v af d1 (by rw[show(hs'.length:Int)=(s.nd i).2 by rw[ao.out,O]];exact d2) (by show s.4.length+_<=_;omega))
   have bs:=dF ag;have aE:=dF hp;have bi:=dF d2;have aT:=dF hq
   clear af d1 d2 ag hp hq HT
   go_wp2_with fail
   refine aR.mono ?_
   rintro q w6 ⟨rfl,aX,b3,_⟩
   have HF:Hid (rA Wc base t hs s N i _ K c w _ _ _):=⟨V,aX,bs.trans b3,lk aE oG,by show i<(s.ns.set i _).length;simpa using hi,O,(n.put a aE bi oG).up oG,qH (lk aE oG),λh1 h2=>by first|exact absurd h2 dG|exact⟨(aT.out h1).2,HM.out (aT.out h1).1⟩⟩
   clear aR aX b3
  rotate_left
 rotate_left 4;iterate 2
  focus
   have ba:=dF (EF hLO hUO hSO hBW hBS Wc base t hs s k j m W3 ⟨v,D⟩ hk HZ oG hm ht oG (n.stR hj U (mM hm)) (λok=>(n.gs.receive hj U (mM hm) ok).lk hj oG))
   go_wp2_with fail
   refine ba.mono ?_
   rintro q w4 ⟨rfl,ok,hs',O,a9,ai,aP⟩
   have b6:=dF (b2.trans ai);have aO:Hid (CA w4 Wc base (t+1) true hs' (s.come j m ok)):=a9
   have bx:=eX.bd (n.gs.come U (mM hm) hj ok)
   have aJ:=E7 s j m ok
   have aW:=dF (n.put hj (n.gs.receive hj U (mM hm) ok) aP.2 oG)
   have b7:Hid ((s.come j m ok).hi.length<=s.hi.length+1):=qH (s:=s.put j ((s.nd j).receive m ok)) ((n.gs.receive hj U (mM hm) ok).lk hj oG)
   clear ba a9 ai aP
  rotate_left
 focus
  have ad:=dF (EG Wc base t true hs s k W3 ⟨v,D⟩ hk oG)
  go_wp2_with fail
  refine ad.mono ?_
  rintro q w4 ⟨rfl,⟨v4,a9⟩,ai⟩
  have HF:Hid (rA Wc base t hs s N i _ K c w _ _ _):=⟨V,⟨v4,a9.up oG⟩,b2.trans ai,lk ((n.gs.drop k).gp i) oG,hi,rfl,((n.drop k).again a).up oG,qH (lk ((n.gs.drop k).gp i) oG),λ_ e=>absurd e dG⟩
  clear ad a9 ai
 rotate_left;rotate_left 7;focus
  have HF:Hid (rA Wc base t hs s N i _ K c w _ _ _):=⟨V,aO,b6,lk ((n.gs.come U (mM hm) hj ok).gp i) oG,by rw[aJ.1];exact hi,O,(aW.again a).up oG,Nat.le_trans (Nat.le_of_eq (EJ (n.gs.come U (mM hm) hj ok) a)) b7,λ_ e=>absurd e dG⟩
 rotate_left;focus
  have ad:=dF (EG Wc base (t+1) true hs' (s.come j m ok) k w4 aO (Nat.lt_of_lt_of_le hk aJ.2) oG)
  go_wp2_with fail
  refine ad.mono ?_
  rintro q w5 ⟨rfl,af,ag⟩
  have HF:Hid (rA Wc base t hs s N i _ K c w _ _ _):=⟨V,af,b6.trans ag,lk (((n.gs.come U (mM hm) hj ok).drop k).gp i) oG,by show i<(s.come j m ok).ns.length;rw[aJ.1];exact hi,O,((aW.drop k).again a).up oG,Nat.le_trans (Nat.le_of_eq (EJ ((n.gs.come U (mM hm) hj ok).drop k) a)) b7,λ_ e=>absurd e dG⟩
  clear ad af ag
 all_goals
  obtain⟨_,e1,e2,e3,e4,e5,e6,e8,e7⟩:=HF.out
  have bo:=dF (yB hLO hUO Wc base (t+1) _ _ i _ e1 e4 oG e3)
  clear e1 e2 e3 e4 e5 e6 e7 e8
  go_wp2_with fail
  refine bo.mono ?_
  rintro q w9 ⟨rfl,bn,bl⟩
  go_wp2_with fail
  refine bodyPost_end (v:=.tuple #[]) (by simp[results,results24,go_sem]) rfl ?_
  obtain⟨_,e1,e2,e3,e4,e5,e6,e8,e7⟩:=HF.out
  exact⟨rfl,_,_,e5,bn,e6,e2.trans bl,e8,e7⟩
def F6(w w':World)(v v':Value):Prop:=∃g',v'.ownBlock=some g'/\(v.ownBlock=some g'∨w.1.size<=g'/\w.grownBy w' none)
def sM{P:Program}{w:World}{ops:Array Oper}{rest:List Oper}{o:Oper}{a:Act}{Q:Exit->Act->World->Prop}(g:o.guard=none)(s x:Operand)(t:TypeId)(k:o.op=.call {callee:=.builtin .append,args:=#[s,x],argTypes:=#[t,t]})(base:Nat)(e:TypeId)(i:TypeInfo)(z:Value)(size bytes:Nat)(D:P.underlying t=some (.slice e))(A:P.info? e=some i)(M:i.zero=some z)(C:i.size=size)(F:i.bytes=bytes)(S:z.cells.size=size)(E:0<size)(v:Value)(n:Nat)(xs:List Value)(hs:a.eval s=v)(d:w.ownsRow base e size v n xs)(p:Addr)(m c:Nat)(news:List Value)(l:0<m)(N:a.eval x=.slice (some p) m c)(O:news.length=m*size)(U:∀j u,news[j]?=some u->w.cell? (p.add j)=some u)(q:∀u∈news,u.oneCell'=true)(r:n+m<=maxLen)(L:(n+m)*bytes<=140737488355328)(b:base<=w.1.size)(h:∀v' w',w'.ownsRow base e size v' (n+m) (xs++news)->w.grownBy w' v.ownBlock->F6 w w' v v'->wpList P ops Q rest (a.put o.dst v') w'):wpList P ops Q (o::rest) a w:=by refine wpList_plain g λK H=>?_;obtain⟨v',w',f,B,R,_,y⟩:=zT (P:=P) w base t o.type e i z size bytes D A M C F S E v n xs d p m c news l O U q r L b;unfold Oper.wp;simp only[execOp,k,resolve,invoke,builtin,Sem.run_bind,Sem.run_pure,Result.andThen_ok,List.map_toArray,List.map_cons,List.map_nil,hs,N,f];exact H _ _ (h v' w' B R y)
def kB{α:Type}(N:Nat->α)(k:Nat)(x:α)(j:Nat):α:=if j=k then x else N j
def EL{α:Type}{N:Nat->α}{k j:Nat}{x:α}(h:j≠k):kB N k x j=N j:=if_neg h
def B9{α:Type}{N:Nat->α}{k:Nat}{x:α}:kB N k x k=x:=if_pos rfl
structure Bg(w:World)(Wc base:Nat)(v:Nat->Value)(nb:Int)(hs:List Ho)(ns:List AG.Nd)(N:Nat->Nat)(X:Nat->List Value):Prop where
 cr:kV w Wc base v nb true N X
 hl:hs.length=ns.length
 host:∀i (h:i<hs.length) (h':i<ns.length),fN w hs[i].Kn hs[i].P 1 hs[i].C hs[i].left ns[i]
 ap:∀i j (hi:i<hs.length) (hj:j<hs.length),i≠j->∀g,hs[i].al g->¬hs[j].al g
 mg:∀k∈eW,∀g,(v k).ownBlock=some g->∀i (hi:i<hs.length),¬hs[i].al g
 ni:∀i (hi:i<hs.length),¬hs[i].al Wc
 low:base<=Wc/\2<=base/\∀i (hi:i<hs.length),∀g,hs[i].al g->base<=g
 tabs:dY w
 qt:Qt hs
section
variable {w w' w3:World} {Wc base:Nat} {v:Nat->Value} {nb:Int} {hs:List Ho} {ns:List AG.Nd} {N N':Nat->Nat} {X X':Nat->List Value}
def Bg.jf(h:Bg w Wc base v nb hs ns N X):base<=w.1.size:=Nat.le_trans h.low.1 (Nat.le_of_lt h.cr.blk.lt)
def Bg.qd(h:Bg w Wc base v nb hs ns N X)(b:∀k∈eW,N k=N' k/\X k=X' k):Bg w Wc base v nb hs ns N' X':=⟨⟨h.cr.blk,λk a=>by rw[←(b k a).1,←(b k a).2];exact h.cr.row k a,h.cr.sep⟩,h.hl,h.host,h.ap,h.mg,h.ni,h.low,h.tabs,h.qt⟩
def Bg.later(h:Bg w Wc base v nb hs ns N X)(b:Bw w w'):Bg w' Wc base v nb hs ns N X:=by have d:dY w':=h.tabs.kept (dQ.of_below (A:=λ_=>False) b) (λc=>c) (λc=>c);exact⟨h.cr.later b,h.hl,λi hi a=>(h.host i hi a).same b.size (λg e=>b.block g ((h.host i hi a).lt g e).2) d,h.ap,h.mg,h.ni,h.low,d,h.qt⟩
def Bg.push{k m:Nat}{news:List Value}{v3:Value}(p:k∈eW)(h:Bg w Wc base v nb hs ns N X)(Q:w3.ownsRow base (rT k) (rS k) v3 (N k+m) (X k++news))(u:w.grownBy w3 (v k).ownBlock)(R:F6 w w3 (v k) v3):w3.cell? ⟨Wc,k,Z⟩=Y (v k)/\w3.frozen? ⟨Wc,k,Z⟩=false/\Bg (w3.setCell ⟨Wc,k,Z⟩ v3) Wc base (gM v k v3) nb hs ns (kB N k (N k+m)) (kB X k (X k++news))/\Below base w (w3.setCell ⟨Wc,k,Z⟩ v3):=by
 have s:=h.cr.off p;have t:dI w3 Wc (jS v nb true) 63:=h.cr.blk.same (u.block Wc h.cr.blk.lt (λb=>s b.symm));have e:=dM.setCell w3 ⟨Wc,k,Z⟩ v3;have H:dI (w3.setCell ⟨Wc,k,Z⟩ v3) Wc (jS (gM v k v3) nb true) 63:=by have:=t.set k v3;rw[uP v nb true v3 k p]at this;exact this
 have o:dQ (λg=>g=Wc∨(v k).ownBlock=some g) w (w3.setCell ⟨Wc,k,Z⟩ v3):=⟨e.os.trans u.os,e.tape.trans u.tape,e.output.trans u.output,by rw[e.size];exact u.size,λg a b=>(e.block g (λc=>b (.inl c))).trans (u.block g a (λc=>b (.inr c.symm)))⟩;have a:∀g,v3.ownBlock=some g->(v k).ownBlock=some g∨w.1.size<=g:=by
  intro g a;obtain⟨O,M,L⟩:=R;rw[M]at a;have D:O=g:=by simpa using a
  subst D;exact L.imp id (λc=>c.1)
 have C:v3.ownBlock≠some Wc:=by
  intro b;rcases a Wc b with c|c;·exact s c
  ·have:=h.cr.blk.lt;omega
 have B:(w3.setCell ⟨Wc,k,Z⟩ v3).ownsRow base (rT k) (rS k) v3 (N k+m) (X k++news):=dW Q (λg a=>e.block g (λb=>C (by rw[a,b])));have K:dY (w3.setCell ⟨Wc,k,Z⟩ v3):=h.tabs.kept o (λb=>b.elim (λc=>by have:=h.low;omega) (λc=>by have:=((h.cr.row k p).lt 0 c).1;have:=h.low;omega)) (λb=>b.elim (λc=>by have:=h.low;omega) (λc=>by have:=((h.cr.row k p).lt 1 c).1;have:=h.low;omega));have q:∀j∈eW,j≠k->∀g,(v j).ownBlock=some g->(v k).ownBlock≠some g:=λj n d g b c=>h.cr.rsep n p d b c;have A:∀j∈eW,j≠k->∀g,(v j).ownBlock=some g->v3.ownBlock≠some g:=by
  intro j n d g b c;rcases a g c with l|l;·exact q j n d g b l
  ·have:=((h.cr.row j n).lt g b).2;omega
 refine⟨(t.cell k).trans (uX v nb true k p),t.free k,⟨⟨H,λj n=>?_,λg z f=>?_⟩,h.hl,λi hi E=>?_,h.ap,λj n g b i hi=>?_,h.ni,h.low,K,h.qt⟩,?_⟩
 ·by_cases d:j=k;·subst d;rw[mE,B9,B9];exact B
  ·rw[pJ d,EL d,EL d];exact dW (h.cr.row j n) (λg b=>o.block g ((h.cr.row j n).lt g b).2 (λc=>c.elim (λl=>h.cr.off n (by rw[b,l])) (λl=>q j n d g b l)))
 ·have F:3∈eW:=dG;have y:10∈eW:=dG;by_cases x:3=k;·subst x;rw[mE]at z;rw[pJ dG]at f;exact A 10 y dG g f z
  ·rw[pJ x]at z;by_cases r:10=k;·subst r;rw[mE]at f;exact A 3 F dG g z f
   ·rw[pJ r]at f;exact h.cr.sep g z f
 ·have b:=h.host i hi E;exact b.same o.size (λg a=>o.block g (b.lt g a).2 (λc=>c.elim (λl=>h.ni i hi (l ▸ a)) (λl=>h.mg k p g l i hi a))) K
 ·by_cases d:j=k
  ·subst d;rw[mE]at b;rcases a g b with c|c;·exact h.mg j n g c i hi
   ·intro l;have:=((h.host i hi (by rw[←h.hl];exact hi)).lt g l).2;omega
  ·rw[pJ d]at b;exact h.mg j n g b i hi
 ·exact⟨o.os,o.tape,o.output,o.size,λg a=>o.block g (Nat.lt_of_lt_of_le a h.jf) (λb=>b.elim (λc=>by have:=h.low;omega) (λc=>by have:=((h.cr.row k p).lt g c).1;omega))⟩
def Bg.more(h:Bg w Wc base v nb hs ns N X)(A:Bw w w'){h':Ho}{n':AG.Nd}(H:fN w' h'.Kn h'.P 1 h'.C h'.left n')(t:∀g,h'.al g->w.1.size<=g)(K:h'.left = -1):Bg w' Wc base v nb (hs++[h']) (ns++[n']) N X:=by
 have D:=h.later A;have l:∀j (f:j<(hs++[h']).length),∀g,(hs++[h'])[j].al g->(j=hs.length/\h'.al g)∨(∃d:j<hs.length,hs[j].al g):=by
  intro j f g n;by_cases i:j<hs.length;·rw[List.getElem_append_left i]at n;exact .inr ⟨i,n⟩
  ·have e:j=hs.length:=by simp at f;omega
   subst e;rw[List.getElem_append_right r_]at n;simp at n;exact .inl ⟨rfl,n⟩
 have p:∀j (f:j<hs.length) g,hs[j].al g->g<w.1.size:=λj f g n=>((h.host j f (by rw[←h.hl];exact f)).lt g n).2;refine⟨D.cr,by simp[h.hl],λj f d=>?_,λa b Q A s g E u=>?_,λk q g n j f m=>?_,λj f m=>?_,⟨h.low.1,h.low.2.1,λj f g m=>?_⟩,D.tabs,λx O=>?_⟩
 ·by_cases i:j<hs.length
  ·have y:j<ns.length:=by rw[←h.hl];exact i
   simp only[List.getElem_append_left i,List.getElem_append_left y];exact D.host j i y
  ·have e:j=hs.length:=by simp at f;omega
   have L:j=ns.length:=e.trans h.hl;have M:(hs++[h'])[j]=h':=by subst e;simp
   have F:(ns++[n'])[j]=n':=by subst L;simp
   rw[M,F];exact H
 ·rcases l a Q g E with⟨rfl,c⟩|⟨z,c⟩
  ·rcases l b A g u with⟨rfl,_⟩|⟨o,r⟩;·exact s rfl
   ·have:=p b o g r;have:=t g c;omega
  ·rcases l b A g u with⟨rfl,r⟩|⟨o,r⟩;·have:=p a z g c;have:=t g r;omega
   ·exact h.ap a b z o s g c r
 ·rcases l j f g m with⟨rfl,c⟩|⟨d,c⟩;·have:=((h.cr.row k q).lt g n).2;have:=t g c;omega
  ·exact h.mg k q g n j d c
 ·rcases l j f Wc m with⟨rfl,c⟩|⟨d,c⟩;·have:=h.cr.blk.lt;have:=t Wc c;omega
  ·exact h.ni j d c
 ·rcases l j f g m with⟨rfl,c⟩|⟨d,c⟩;·have:=h.jf;have:=t g c;omega
  ·exact h.low.2.2 j d g c
 ·rcases List.mem_append.1 O with B|B;·exact h.qt x B
  ·simp at B;rw[B];exact K
def Bg.cell{s:CS}(h:Bg w Wc base v s.nb hs s.ns N X)(d:∀k∈eW,N k=rN hs s k/\X k=rX hs s k)(c:s.3.length=s.ns.length/\s.kn.length=s.ns.length)(b:2<=s.ns.length/\s.ns.length<=5)(a:1<=s.nb/\s.nb<=4)(ids:∀i (h:i<s.ns.length),s.ns[i].id=(i:Int)/\s.ns[i].2=(s.ns.length:Int)/\s.ns[i].nb=s.nb):dU w Wc base 1 v true hs s:=⟨h.cr.blk,(h.qd d).cr.row,h.cr.sep,h.hl,h.host,h.ap,h.mg,h.ni,h.low,c,b,a,h.tabs,ids⟩
end
def CS.fst(n:Nat)(nb:Int)(m:Nat):CS:=⟨nb,(List.range m).map (λi:Nat=>AG.Nd.first (i:Int) (n:Int) nb),List.replicate m 0,[],[],[],[],[⟨0,0,2^n - 1⟩],List.replicate m 1⟩
def FH(i n:Nat)(nb:Int)(b:2<=n/\n<=5):(AG.Nd.first (i:Int) (n:Int) nb).fresh (fL (i:Int) (n:Int) 0 true).du=AG.Nd.first (i:Int) (n:Int) nb:=by
 have a:(fL (i:Int) (n:Int) 0 true).bk=λ_=>0:=by funext j;unfold fL SD.bk;simp
 have e:(fL (i:Int) (n:Int) 0 true).du=AG.Du.first (i:Int) (n:Int):=by unfold SD.du AG.Du.first;rw[a];rfl
 rw[e];rfl
end Go.Proofs.YtdcainmlcpafbaaGreatDoor
