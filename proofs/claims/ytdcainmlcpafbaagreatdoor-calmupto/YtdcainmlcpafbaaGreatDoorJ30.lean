import Derived.Test.YtdcainmlcpafbaaGreatDoorJ29
set_option linter.all false
set_option maxHeartbeats 8000000
set_option maxRecDepth 20000
namespace Go.Proofs.YtdcainmlcpafbaaGreatDoor
open Go.RowKit
open Value renaming slice->J,pointer->P0
open Tryz
open Tryz renaming prog->pG
open IntKind renaming i64->T
open Option renaming none->Z,some->Y
open Obj renaming cells->G
open Value (bool)
def B5{α:Type}(f:α->List Value)(c:Nat)(b:∀x,(f x).length=c)(x':α)(k:Nat)(u:Value)(d:k<c):∀(l:List α) (i:Nat) (h:i<l.length),(f l[i]).set k u=f x'->(l.flatMap f).set (i*c+k) u=(l.set i x').flatMap f
 | [],i,h,_=>by simp at h
 |a::l,0,h,he=>by simp only[List.getElem_cons_zero]at he;simp only[List.flatMap_cons,List.set_cons_zero,Nat.zero_mul,Nat.zero_add];rw[List.set_append_left _ _ (by rw[b];exact d),he]
 |a::l,i+1,h,he=>by simp only[List.getElem_cons_succ]at he;simp only[List.flatMap_cons,List.set_cons_succ];rw[List.set_append_right _ _ (by rw[b];rw[Nat.succ_mul];omega),←B5 f c b x' k u d l i (by simpa using h) he,b];congr 2;rw[Nat.succ_mul];omega
def dU.lm{w:World}{Wc base t:Nat}{v:Nat->Value}{f:Bool}{hs:List Ho}{s s':CS}{k g n c:Nat}(y:k∈eW)(h:dU w Wc base t v f hs s)(l:v k=J (Y ⟨g,0,Z⟩) n c)(j:Nat)(u:Value)(A:s'.ns=s.ns)(i:s'.nb=s.nb)(o:s'.3.length=s.3.length/\s'.kn.length=s.kn.length)(m:∀j∈eW,j≠k->rN hs s' j=rN hs s j/\rX hs s' j=rX hs s j)(B:rN hs s' k=rN hs s k)(z:rX hs s' k=(rX hs s k).set j u):dU (w.setCell ⟨g,j,Z⟩ u) Wc base t v f hs s'/\Below base w (w.setCell ⟨g,j,Z⟩ u)/\dM g w (w.setCell ⟨g,j,Z⟩ u):=by
 have r:=dM.setCell w ⟨g,j,Z⟩ u;have b:=h.row k y;have q:n=rN hs s k:=by rw[l]at b;obtain⟨a,E,d⟩:=eK b;cases d;rfl
 subst q;have e:(v k).ownBlock=some g:=by rw[l];rfl
 have p:g≠Wc:=λd=>h.off y (by rw[e,d]);rw[l]at b;have C:=(b.stored j u).1;have d:=dU.turn (v':=v) (f':=f) (s':=s') y h (dQ.of_but r (.inr e)) (λ_ _ _=>rfl) (by rw[i];exact h.blk.same (r.block Wc (λd=>p d.symm))) (by rw[B,z,l];exact C) (λD x=>.inl x) A i o m;exact⟨d.1,d.2,r⟩
def mQ(i lv:Int)(op:Int)(o:AG.As):Bool:=(o.nd==i)&&((o.lf==lv)&&(o.op==op))
def P8:(Tryz.prog.info? 4).map (λi=>(i.zero,i.size,i.bytes))=Y (Y (.bool false),1,1):=kG
def P9(Wc base t:Nat)(f:Bool)(hs:List Ho)(s:CS)(i:Nat)(lv:Int)(r:dO)(p:Nat)(w:World)(h:CA w Wc base t f hs s)(hi:i<s.3.length)(bW:s.3[i]=lv)(hp:p<s.ops.length)(hm:mQ i lv r.op s.ops[p]=true)(hf:∀j (hj:j<s.ops.length),j<p->mQ i lv r.op s.ops[j]=false)(ab:s.ops[p].dn=false/\(decide (s.ops[p].e<r.e)||((r.e==s.ops[p].e)&&decide (s.ops[p].q<r.q)))=true/\r.bl=s.ops[p].bl/\(s.ops[p].rd=false->r.v=s.ops[p].v))(a0:s.ops[p].rd=true->r.v=0∨∃o∈s.ops,p9 r o=true)(hl:s.ops.length<=2000000000)(b7:s.rs.length<=2000000000/\s.rd.length<=2000000000):Calls pG 83 #[P0 (Y ⟨Wc,0,Z⟩),I (i:Int),.agg #[I r.op,I r.bl,I r.v,I r.e,I r.q]] w λq w'=>q=.returned (.tuple #[])/\CA w' Wc base t f hs {s with ops:=s.ops.set p {s.ops[p] with dn:=true},rs:=s.rs++[r],rd:=s.rd++[s.ops[p].rd]}/\Below base w w':=by
 obtain⟨v,h⟩:=h;have ap:=(Below.refl w.1.size w).alloc r_ (G #[I r.op,I r.bl,I r.v,I r.e,I r.q] 76);have HX:=dF (dI.new w #[I r.op,I r.bl,I r.v,I r.e,I r.q] 76);have HB:=dF ap;have HC:=dF (h.later ap);have bd:=dF h.jf;have c5:=ap.size;have bC:(v 7).ownBlock≠some w.1.size:=λa=>by have:=((h.row 7 dG).lt _ a).2;omega
 have bc:w.1.size≠Wc:=by have:=h.blk.lt;omega
 obtain⟨i0,bO,bq,bU,bE⟩:=info_parts EY;obtain⟨i1,bm,bM,be,br⟩:=info_parts P8;have HM:=dF hm;have b8:=dF hf;have b5:=dF ab;have aQ:=dF a0;clear h ap hm hf ab a0;obtain⟨a3,c3,bF⟩:=eK (HC.row 3 dG);have b0:fM _ _ _ _:=fM.ig (HC.row 3 dG);obtain⟨g3,bY,e3,M,b4⟩:=b0.at (show 0<s.3.length by omega);have l3:=b4 i (I lv) (by show(s.3.map I)[i]?=_;rw[List.getElem?_map,List.getElem?_eq_getElem hi,bW];rfl);obtain⟨g6,bX,e6,bJ,X⟩:=(fM.ig (HC.row 6 dG)).at (show 0<s.ops.length by omega);have bh:=dF X;have ag:=dF e6;have bD:=dF e3;clear b4 X b0 bF;go_enter func83,ntmps83;go_upto_region 2 with fail;generalize World.alloc _ _=W0 at*;go_loopw [6] (λs6 wr=>∃k:Nat,k<=p/\s6=I (k:Int)/\Bw W0 wr) (λs6 wr=>s.ops.length - (intOf s6).toNat);case atStart=>exact⟨0,oG,rfl,Below.refl _ _⟩
 case round=>
  obtain⟨k,c4,rfl,z⟩:=hrel;have av:k<s.ops.length:=oG;have a7:=dF (HC.later z);have aM:=dF (HX.later z);have aZ:=dF z;have aD:=a7.cell (k:=6) dG;rw[ag.out]at aD;have ax:=a7.cell (k:=3) dG;rw[bD.out]at ax;have aI:rN hs s 6=s.ops.length:=rfl;have bu:rN hs s 3=s.3.length:=rfl;rw[aI]at aD;rw[bu]at ax;have aT:=(z.cell (p:=⟨g3,i,Z⟩) M).trans l3;have aH:=zH (w:=wr) (ops:=s.ops) (λj u hu=>(z.cell (p:=⟨g6,j,Z⟩) bJ).trans (bh.out j u hu)) k av;obtain⟨o,ho⟩:∃y,s.ops[k]=y:=⟨_,rfl⟩;rw[ho]at aH;have b9:Hid (wr.rangeAt g6 (k*9) [I o.nd,I o.lf,I o.op,I o.bl,I o.v,bool o.rd,bool o.dn,I o.e,I o.q]):=aH;have ak:=dF ho;have HY:=dF (dI.new wr #[I o.nd,I o.lf,I o.op,I o.bl,I o.v,bool o.rd,bool o.dn,I o.e,I o.q] 178);have W:=(Below.refl wr.1.size wr).alloc r_ (G #[I o.nd,I o.lf,I o.op,I o.bl,I o.v,bool o.rd,bool o.dn,I o.e,I o.q] 178);have aS:=dF (a7.later W);have aJ:=dF (aM.later W);have ar:Hid (Bw W0 (wr.alloc (G #[I o.nd,I o.lf,I o.op,I o.bl,I o.v,bool o.rd,bool o.dn,I o.e,I o.q] 178))):=z.trans (W.mono z.size);have bg:=(W.cell (p:=⟨Wc,3,Z⟩) (by have:=a7.blk.lt;exact this)).trans ax;have bi:=(W.cell (p:=⟨g3,i,Z⟩) (by have:=z.size;show g3<_;omega)).trans aT;have bn:decide ((k:Int)<(s.ops.length:Int))=true:=nG;have c6:(0:Int)<=(k:Int)/\(k:Int)<(s.ops.length:Int):=oG;have c0:(0:Int)<=(i:Int)/\(i:Int)<(s.3.length:Int):=oG;clear aH z W ho aT ax;go_upto_region 5 with(refine wpList_load_mid rfl 178 _ rfl g6 (k*9) rfl [I o.nd,I o.lf,I o.op,I o.bl,I o.v,bool o.rd,bool o.dn,I o.e,I o.q] _ b9 underlying178 rfl kG ?_);generalize World.alloc _ _=W5 at*;have c1:g6<wr.1.size:=by have:=aZ.size;omega
  have bk:g6≠w.1.size:=λa=>by have O:=aM.blk;have ai:=a7.row 6 dG;rw[ag.out]at ai;obtain⟨c9,h7⟩:=fC ai (g:=g6) rfl;rw[←a,h7]at O;simp at O;exact absurd O.2 dG
  generalize wr.1.size=n at*;have y0:=HY.cell 0;have y1:=HY.cell 1;have y2:=HY.cell 2;have x0:=aJ.cell 0;simp at y0 y1 y2 x0;clear aD bn;obtain⟨b1,e1⟩:∃y,(o.nd != (i:Int))=y:=⟨_,rfl⟩;obtain⟨b2,e2⟩:∃y,(o.lf != lv)=y:=⟨_,rfl⟩;obtain⟨b3,e3⟩:∃y,(o.op != r.op)=y:=⟨_,rfl⟩;have aw:mQ i lv r.op o=(!b1&&(!b2&&!b3)):=by unfold mQ;rw[←e1,←e2,←e3];simp[bne]
  by_cases bK:k=p;case neg=>
   have a:=b8.out k av oG;rw[ak.out,aw]at a;have bo:k+1<=p:=oG;clear aw;cases b1<;>cases b2<;>cases b3;all_goals first|(exact absurd a dG)|skip
   all_goals
    clear a
    go_quiet (fail)
    go_wp2_with fail
    go_roundw
    case rel=>exact⟨k+1,bo,rfl,below_drewN ar _⟩
    case measure=>simp[intOf];omega
  subst bK;have a:=HM.out;rw[ak.out,aw]at a;simp only[Bool.and_eq_true,Bool.not_eq_true']at a;obtain⟨rfl,rfl,rfl⟩:=a;have ab:=b5.out;have a0:=aQ.out;rw[ak.out]at ab a0;clear aw HM b8 b5 aQ;go_quiet (fail);have ae:Bw W5 (W5.drewN nq):=below_drewN b_ _;have an:=dF (aS.later ae);have a6:=dF (aJ.later ae);have C:=dF (HY.later ae);have aW:Hid (Bw W0 (W5.drewN nq)):=ar.trans (ae.mono ar.size);clear aS aJ HY ar ae y0 y1 y2 x0 e1 e2 e3 bg bi a7 aM aZ b9;generalize W5.drewN nq=W6 at*;have y3:=C.cell 3;have y4:=C.cell 4;have y5:=C.cell 5;have y6:=C.cell 6;have y7:=C.cell 7;have y8:=C.cell 8;have x1:=a6.cell 1;have x2:=a6.cell 2;have x3:=a6.cell 3;have x4:=a6.cell 4;simp at y3 y4 y5 y6 y7 y8 x1 x2 x3 x4;obtain⟨aA,bT,aR,aG⟩:=ab;rw[aA]at y6;have bG:=dF a0;have bt:Hid (s.ops[k].rd=o.rd):=by unfold Hid;rw[ak.out]
  obtain⟨rd,au⟩:∃y,o.rd=y:=⟨_,rfl⟩;rw[au]at y5;have ay:=dF au;have f1:(r.bl != o.bl)=false:=by simp[aR]
  have f2:rd=false->(r.v != o.v)=false:=by intro a;rw[au]at aG;simp[aG a]
  have X:=an.cell (k:=6) dG;rw[ag.out]at X;have aI:rN hs s 6=s.ops.length:=rfl;rw[aI]at X;have B:=an.row 6 dG;rw[ag.out]at B;obtain⟨bZ,ah⟩:=fC B (g:=g6) rfl;have bA:W6.frozen? ⟨g6,k*9+6,Z⟩=false:=by simp[World.frozen?,ah]
  have ba:W6.cell? ⟨g6,k*9+6,Z⟩=Y (bool false):=by
   have a:=zH (w:=W6) (ops:=s.ops) (λj u hu=>by obtain⟨g9,c9,e9,_,al⟩:=(fM.ig B).at (show 0<s.ops.length by omega);cases e9;exact al j u hu) k av
   have O:=a 6 (bool s.ops[k].dn) rfl;rw[ak.out,aA]at O;exact O
  clear B au aR aG a0 aA;go_wp2_with fail;refine(ED r.e r.q o.e o.q W6).mono ?_;rintro r9 w9 ⟨rfl,bB⟩;obtain rfl:=bB.symm;rw[bT];cases rd;all_goals
   first|(have f3:=f2 rfl)|skip
   clear f2
   go_upto_region 10 with fail
   have aU:(s.ops.set k {s.ops[k] with dn:=true}).flatMap lV=(s.ops.flatMap lV).set (k*9+6) (bool true):=(B5 lV 9 GG _ 6 _ dG s.ops k av (by rfl)).symm
   obtain⟨q1,q2,q3⟩:=dU.lm (s':={s with ops:=s.ops.set k {s.ops[k] with dn:=true}}) (k:=6) dG an ag (k*9+6) (bool true) rfl rfl ⟨rfl,rfl⟩ (by
     intro j hj bj
     unfold rN rX
     split<;>first|exact⟨rfl,rfl⟩|exact absurd rfl bj) (by show(s.ops.set k _).length=_;simp[rN]) aU
   have U:=dF q1;have bp:Hid (Below base w (W6.setCell ⟨g6,k*9+6,Z⟩ (bool true))):=(HB.mono bd).trans ((aW.mono (by have:=bd.out;omega)).trans q2)
   have aX:=dF (a6.same (q3.block _ (λa=>bk a.symm)));have aq:=dF (C.same (q3.block n oG))
   clear q1 q2 q3 an a6 C aW y3 y4 y5 y6 y7 y8 x1 x2 x3 x4 X ah bA ba aU
   generalize W6.setCell ⟨g6,k*9+6,Z⟩ (bool true)=W2 at*
   obtain⟨L,ao⟩:∃y,({s with ops:=s.ops.set k {s.ops[k] with dn:=true}}:CS)=y:=⟨_,rfl⟩
   rw[ao]at U
   have aV:n≠Wc:=λa=>by have O:=aq.blk;rw[a,U.blk.blk]at O;simp at O
   have bR:(v 7).ownBlock≠some n:=λa=>by obtain⟨c9,O⟩:=fC (U.row 7 dG) a;have h7:=aq.blk;rw[O]at h7;simp at h7;exact absurd h7.2 dG
   have az:rN hs L 7<=2000000000:=by rw[←ao];exact b7.1
   have aC:=U.cell (k:=7) dG
   have d:Bw W2 (W2.alloc (G #[I r.op,I r.bl,I r.v,I r.e,I r.q] 76)).drew:=(a_ _ _).drew
   have af:base<=(W2.alloc (G #[I r.op,I r.bl,I r.v,I r.e,I r.q] 76)).drew.1.size:=Nat.le_trans U.jf d.size
   have A:=dF (U.later d)
   have aO:(W2.alloc (G #[I r.op,I r.bl,I r.v,I r.e,I r.q] 76)).drew.cell? ⟨Wc,7,Z⟩=Y (v 7):=A.cell (k:=7) dG
   have N:dI W2.drew w.1.size #[I r.op,I r.bl,I r.v,I r.e,I r.q] 76/\dI W2.drew n #[I o.nd,I o.lf,I o.op,I o.bl,I o.v,bool o.rd,bool o.dn,I o.e,I o.q] 178:=⟨aX.drew,aq.drew⟩
   have b:dI (W2.alloc (G #[I r.op,I r.bl,I r.v,I r.e,I r.q] 76)).drew w.1.size #[I r.op,I r.bl,I r.v,I r.e,I r.q] 76/\dI (W2.alloc (G #[I r.op,I r.bl,I r.v,I r.e,I r.q] 76)).drew n #[I o.nd,I o.lf,I o.op,I o.bl,I o.v,bool o.rd,bool o.dn,I o.e,I o.q] 178:=⟨aX.later d,aq.later d⟩
   have ad:(W2.alloc (G #[I r.op,I r.bl,I r.v,I r.e,I r.q] 76)).drew.ownsRow base 76 5 (v 7) (rN hs L 7) (rX hs L 7):=A.row 7 dG
   have a8:∀j u,[I r.op,I r.bl,I r.v,I r.e,I r.q][j]?=Y u->(W2.alloc (G #[I r.op,I r.bl,I r.v,I r.e,I r.q] 76)).drew.cell? ((⟨W2.1.size,0,Z⟩:Addr).add j)=Y u:=by
    intro j u hu;rw[Go.WideShapes.add_plain];refine(World.cell?_alloc_at _ _ _ _ sG).trans ?_;simpa using hu
   have HP:Hid (∀v' w3,w3.ownsRow base 76 5 v' (rN hs L 7+1) (rX hs L 7++[I r.op,I r.bl,I r.v,I r.e,I r.q])->(W2.alloc (G #[I r.op,I r.bl,I r.v,I r.e,I r.q] 76)).drew.grownBy w3 (v 7).ownBlock->(∃g',v'.ownBlock=Y g'/\((v 7).ownBlock=Y g'∨(W2.alloc (G #[I r.op,I r.bl,I r.v,I r.e,I r.q] 76)).drew.1.size<=g'/\(W2.alloc (G #[I r.op,I r.bl,I r.v,I r.e,I r.q] 76)).drew.grownBy w3 none))->(w3.cell? ⟨Wc,7,Z⟩=Y (v 7)/\w3.frozen? ⟨Wc,7,Z⟩=false/\((dI w3 w.1.size #[I r.op,I r.bl,I r.v,I r.e,I r.q] 76/\dI w3 n #[I o.nd,I o.lf,I o.op,I o.bl,I o.v,bool o.rd,bool o.dn,I o.e,I o.q] 178)/\(dI (w3.setCell ⟨Wc,7,Z⟩ v') w.1.size #[I r.op,I r.bl,I r.v,I r.e,I r.q] 76/\dI (w3.setCell ⟨Wc,7,Z⟩ v') n #[I o.nd,I o.lf,I o.op,I o.bl,I o.v,bool o.rd,bool o.dn,I o.e,I o.q] 178))/\dU (w3.setCell ⟨Wc,7,Z⟩ v') Wc base t (gM v 7 v') f hs {L with rs:=L.rs++[r]}/\Below base w (w3.setCell ⟨Wc,7,Z⟩ v')/\dI (w3.setCell ⟨Wc,7,Z⟩ v') w.1.size #[I r.op,I r.bl,I r.v,I r.e,I r.q] 76/\dI (w3.setCell ⟨Wc,7,Z⟩ v') n #[I o.nd,I o.lf,I o.op,I o.bl,I o.v,bool o.rd,bool o.dn,I o.e,I o.q] 178)):=by
    intro v' w3 ho V c
    obtain⟨a1,a2,a3,a4,a5⟩:=dU.push (s':={L with rs:=L.rs++[r]}) (k:=7) (m:=1) dG A ho V c rfl rfl ⟨rfl,rfl⟩ (by
      intro j hj aF
      unfold rN rX
      split<;>first|exact⟨rfl,rfl⟩|exact absurd rfl aF) (by simp[rN]) (by simp[rX,dO.cells])
    have o1:dI w3 w.1.size #[I r.op,I r.bl,I r.v,I r.e,I r.q] 76:=b.1.same (V.block _ b.1.lt (λa=>bC a.symm))
    have o2:dI w3 n #[I o.nd,I o.lf,I o.op,I o.bl,I o.v,bool o.rd,bool o.dn,I o.e,I o.q] 178:=b.2.same (V.block _ b.2.lt (λa=>bR a.symm))
    have o3:dI (w3.setCell ⟨Wc,7,Z⟩ v') w.1.size #[I r.op,I r.bl,I r.v,I r.e,I r.q] 76:=o1.same ((dM.setCell w3 ⟨Wc,7,Z⟩ v').block _ bc)
    have o4:dI (w3.setCell ⟨Wc,7,Z⟩ v') n #[I o.nd,I o.lf,I o.op,I o.bl,I o.v,bool o.rd,bool o.dn,I o.e,I o.q] 178:=o2.same ((dM.setCell w3 ⟨Wc,7,Z⟩ v').block _ aV)
    exact⟨a1,a2,⟨⟨o1,o2⟩,⟨o3,o4⟩⟩,a3,bp.trans ((d.mono U.jf).trans a4),o3,o4⟩
   go_cut [101] (λsx wx=>∃v',dU wx Wc base t (gM v 7 v') f hs {L with rs:=L.rs++[r]}/\Below base w wx/\dI wx w.1.size #[I r.op,I r.bl,I r.v,I r.e,I r.q] 76/\dI wx n #[I o.nd,I o.lf,I o.op,I o.bl,I o.v,bool o.rd,bool o.dn,I o.e,I o.q] 178)
   case first=>
    refine eZ (S:=λw'=>dI w' w.1.size #[I r.op,I r.bl,I r.v,I r.e,I r.q] 76/\dI w' n #[I o.nd,I o.lf,I o.op,I o.bl,I o.v,bool o.rd,bool o.dn,I o.e,I o.q] 178) (λ_=>?_) (hS:=N)
    refine dH 0 ?_;refine dH 1 ?_;refine dH 2 ?_;refine dH 3 ?_;refine i4 5 w.1.size 0 [I r.op,I r.bl,I r.v,I r.e,I r.q] ?_ (λw aB=>aB.1.range rfl)
    refine jC [4,6] ?_
    refine .cons rfl (λK l=>?_) ?_
    focus
     (try go_simp)
     refine kr l 6 (λK l=>?_) N
    rotate_left
    focus
     refine .cons rfl (λK l=>?_) .nil
     (try go_simp)
     refine kr l 4 (λK l=>?_) b
    all_goals
     (try go_simp)
     refine kr l 7 (λK l=>?_) b
     refine lG rfl (.tmp 96) (.tmp 98) 52 rfl base 76 i0 (.agg #[I 0,I 0,I 0,I 0,I 0]) 5 40 underlying52 bO bq bU bE rfl dG (v 7) (rN hs L 7) (rX hs L 7) eG ad ⟨W2.1.size,0,Z⟩ 1 1 [I r.op,I r.bl,I r.v,I r.e,I r.q] oG eG rfl a8 (by intro u hu;simp at hu;rcases hu with rfl|rfl|rfl|rfl|rfl<;>rfl) xG oG af ?_
     intro v' w3 R M c
     obtain⟨bS,bf,rfl⟩:=eK R
     obtain⟨bs,bQ,aa,aN⟩:=HP.out _ w3 R M c
     clear R M c
     refine k1 l (λ_=>?_) aa.1;clear l K;refine dH 8 ?_;refine dH 9 ?_
     refine dT 10 λK l=>?_
     (try go_simp)
     refine kd l ?_ aa.2
     go_wp2_with fail
     go_meet
     exact⟨_,aN⟩
   case rest=>
   obtain⟨x,ac,D,aj,am⟩:=hcut
   clear HP a8 ad b N aO A af d aC az
   obtain⟨F,bw⟩:∃y,y=wc:=⟨_,rfl⟩
   subst bw
   have H:=dF ac;have bH:=dF D;have aK:=dF aj;have aL:=dF am
   clear ac D aj am
   obtain⟨Q,aP⟩:∃y,({L with rs:=L.rs++[r]}:CS)=y:=⟨_,rfl⟩
   rw[aP]at H
   have bN:((gM v 7 x) 8).ownBlock≠some w.1.size:=λa=>by obtain⟨c9,O⟩:=fC (H.row 8 dG) a;have h7:=aK.blk;rw[O]at h7;simp at h7;exact absurd h7.2 dG
   have bP:((gM v 7 x) 8).ownBlock≠some n:=λa=>by obtain⟨c9,O⟩:=fC (H.row 8 dG) a;have h7:=aL.blk;rw[O]at h7;simp at h7;exact absurd h7.2 dG
   go_upto_region 11 with fail
   have az:rN hs Q 8<=2000000000:=by rw[←aP,←ao];exact b7.2
   have aC:=H.cell (k:=8) dG
   have d:Bw F (F.alloc (G #[bool o.rd] 4)).drew:=(a_ _ _).drew
   have af:base<=(F.alloc (G #[bool o.rd] 4)).drew.1.size:=Nat.le_trans H.jf d.size
   have A:=dF (H.later d)
   have aO:(F.alloc (G #[bool o.rd] 4)).drew.cell? ⟨Wc,8,Z⟩=Y ((gM v 7 x) 8):=A.cell (k:=8) dG
   have N:dI F.drew w.1.size #[I r.op,I r.bl,I r.v,I r.e,I r.q] 76/\dI F.drew n #[I o.nd,I o.lf,I o.op,I o.bl,I o.v,bool o.rd,bool o.dn,I o.e,I o.q] 178:=⟨aK.drew,aL.drew⟩
   have b:dI (F.alloc (G #[bool o.rd] 4)).drew w.1.size #[I r.op,I r.bl,I r.v,I r.e,I r.q] 76/\dI (F.alloc (G #[bool o.rd] 4)).drew n #[I o.nd,I o.lf,I o.op,I o.bl,I o.v,bool o.rd,bool o.dn,I o.e,I o.q] 178:=⟨aK.later d,aL.later d⟩
   have ad:(F.alloc (G #[bool o.rd] 4)).drew.ownsRow base 4 1 ((gM v 7 x) 8) (rN hs Q 8) (rX hs Q 8):=A.row 8 dG
   have a8:∀j u,[bool o.rd][j]?=Y u->(F.alloc (G #[bool o.rd] 4)).drew.cell? ((⟨F.1.size,0,Z⟩:Addr).add j)=Y u:=by
    intro j u hu;rw[Go.WideShapes.add_plain];refine(World.cell?_alloc_at _ _ _ _ sG).trans ?_;simpa using hu
   have HP:Hid (∀v' w3,w3.ownsRow base 4 1 v' (rN hs Q 8+1) (rX hs Q 8++[bool o.rd])->(F.alloc (G #[bool o.rd] 4)).drew.grownBy w3 ((gM v 7 x) 8).ownBlock->(∃g',v'.ownBlock=Y g'/\(((gM v 7 x) 8).ownBlock=Y g'∨(F.alloc (G #[bool o.rd] 4)).drew.1.size<=g'/\(F.alloc (G #[bool o.rd] 4)).drew.grownBy w3 none))->(w3.cell? ⟨Wc,8,Z⟩=Y ((gM v 7 x) 8)/\w3.frozen? ⟨Wc,8,Z⟩=false/\((dI w3 w.1.size #[I r.op,I r.bl,I r.v,I r.e,I r.q] 76/\dI w3 n #[I o.nd,I o.lf,I o.op,I o.bl,I o.v,bool o.rd,bool o.dn,I o.e,I o.q] 178)/\(dI (w3.setCell ⟨Wc,8,Z⟩ v') w.1.size #[I r.op,I r.bl,I r.v,I r.e,I r.q] 76/\dI (w3.setCell ⟨Wc,8,Z⟩ v') n #[I o.nd,I o.lf,I o.op,I o.bl,I o.v,bool o.rd,bool o.dn,I o.e,I o.q] 178))/\dU (w3.setCell ⟨Wc,8,Z⟩ v') Wc base t (gM (gM v 7 x) 8 v') f hs {Q with rd:=Q.rd++[o.rd]}/\Below base w (w3.setCell ⟨Wc,8,Z⟩ v')/\dI (w3.setCell ⟨Wc,8,Z⟩ v') w.1.size #[I r.op,I r.bl,I r.v,I r.e,I r.q] 76/\dI (w3.setCell ⟨Wc,8,Z⟩ v') n #[I o.nd,I o.lf,I o.op,I o.bl,I o.v,bool o.rd,bool o.dn,I o.e,I o.q] 178)):=by
    intro v' w3 ho V c
    obtain⟨a1,a2,a3,a4,a5⟩:=dU.push (s':={Q with rd:=Q.rd++[o.rd]}) (k:=8) (m:=1) dG A ho V c rfl rfl ⟨rfl,rfl⟩ (by
      intro j hj aF
      unfold rN rX
      split<;>first|exact⟨rfl,rfl⟩|exact absurd rfl aF) (by simp[rN]) (by simp[rX,dO.cells])
    have o1:dI w3 w.1.size #[I r.op,I r.bl,I r.v,I r.e,I r.q] 76:=b.1.same (V.block _ b.1.lt (λa=>bN a.symm))
    have o2:dI w3 n #[I o.nd,I o.lf,I o.op,I o.bl,I o.v,bool o.rd,bool o.dn,I o.e,I o.q] 178:=b.2.same (V.block _ b.2.lt (λa=>bP a.symm))
    have o3:dI (w3.setCell ⟨Wc,8,Z⟩ v') w.1.size #[I r.op,I r.bl,I r.v,I r.e,I r.q] 76:=o1.same ((dM.setCell w3 ⟨Wc,8,Z⟩ v').block _ bc)
    have o4:dI (w3.setCell ⟨Wc,8,Z⟩ v') n #[I o.nd,I o.lf,I o.op,I o.bl,I o.v,bool o.rd,bool o.dn,I o.e,I o.q] 178:=o2.same ((dM.setCell w3 ⟨Wc,8,Z⟩ v').block _ aV)
    exact⟨a1,a2,⟨⟨o1,o2⟩,⟨o3,o4⟩⟩,a3,bH.trans ((d.mono H.jf).trans a4),o3,o4⟩
   go_cut [112] (λsx wx=>∃v',dU wx Wc base t (gM (gM v 7 x) 8 v') f hs {Q with rd:=Q.rd++[o.rd]}/\Below base w wx/\dI wx w.1.size #[I r.op,I r.bl,I r.v,I r.e,I r.q] 76/\dI wx n #[I o.nd,I o.lf,I o.op,I o.bl,I o.v,bool o.rd,bool o.dn,I o.e,I o.q] 178)
   case first=>
    refine eZ (S:=λw'=>dI w' w.1.size #[I r.op,I r.bl,I r.v,I r.e,I r.q] 76/\dI w' n #[I o.nd,I o.lf,I o.op,I o.bl,I o.v,bool o.rd,bool o.dn,I o.e,I o.q] 178) (λ_=>?_) (hS:=N)
    refine dH 0 ?_;refine dH 1 ?_;refine dH 2 ?_;refine dH 3 ?_;refine dH 5 ?_;refine dH 6 (v:=bool o.rd) ?_ (hy:=λw aB=>by have a:=aB.2.cell 5;simp at a;go_simp)
    refine jC [4,7] ?_
    refine .cons rfl (λK l=>?_) ?_
    focus
     (try go_simp)
     refine kr l 7 (λK l=>?_) N
    rotate_left
    focus
     refine .cons rfl (λK l=>?_) .nil
     (try go_simp)
     refine kr l 4 (λK l=>?_) b
    all_goals
     (try go_simp)
     refine kr l 8 (λK l=>?_) b
     refine lG rfl (.tmp 106) (.tmp 109) 53 rfl base 4 i1 (.bool false) 1 1 underlying53 bm bM be br rfl dG ((gM v 7 x) 8) (rN hs Q 8) (rX hs Q 8) eG ad ⟨F.1.size,0,Z⟩ 1 1 [bool o.rd] oG eG rfl a8 (by intro u hu;simp at hu;rcases hu with rfl;rfl) xG oG af ?_
     intro v' w3 R M c
     obtain⟨bS,bf,rfl⟩:=eK R
     obtain⟨bs,bQ,aa,aN⟩:=HP.out _ w3 R M c
     clear R M c
     refine k1 l (λ_=>?_) aa.1;clear l K;refine dH 9 ?_;refine dH 10 ?_
     refine dT 11 λK l=>?_
     (try go_simp)
     refine kd l ?_ aa.2
     go_wp2_with fail
     go_meet
     exact⟨_,aN⟩
   case rest=>
   obtain⟨c2,ac,D,aj,am⟩:=hcut
   clear HP a8 ad b N aO A af d aC az
   obtain⟨W8,bL⟩:∃y,y=wc:=⟨_,rfl⟩
   subst bL
   have E:=dF ac;have b6:=dF D;have bx:=dF aj;have bv:=dF am
   clear ac D aj am
   have bI:({Q with rd:=Q.rd++[o.rd]}:CS)={s with ops:=s.ops.set k {s.ops[k] with dn:=true},rs:=s.rs++[r],rd:=s.rd++[s.ops[k].rd]}:=by rw[←aP,←ao,bt.out]
   rw[bI]at E
   have y5:=bv.cell 5;simp at y5;rw[ay.out]at y5
   first
   |(go_wp2_with fail
     refine bodyPost_ret (v:=.tuple #[]) (by simp[results,results83,go_sem]) rfl ?_
     exact⟨rfl,⟨_,E⟩,b6⟩)
   |(have hG:W8.rangeAt w.1.size 0 [I r.op,I r.bl,I r.v,I r.e,I r.q]:=bx.range rfl
     have HG:=dF hG
     have bb:r.v=0∨∃o9∈s.ops.set k {s.ops[k] with dn:=true},p9 r o9=true:=by
      refine(bG.out ay).imp id ?_
      rintro⟨o9,h1,h2⟩
      obtain⟨j,hj,rfl⟩:=List.getElem_of_mem h1
      refine⟨(s.ops.set k {s.ops[k] with dn:=true})[j]'(by simpa using hj),List.getElem_mem _,?_⟩
      by_cases aY:j=k
      ·subst aY;rw[List.getElem_set_self];exact h2
      ·rw[List.getElem_set_ne (λa=>aY a.symm)];exact h2
     have al:=E.cell (k:=6) dG
     have aE:=fM.ig (E.row 6 dG)
     obtain⟨a9,c9,bV⟩:=eK (E.row 6 dG)
     rw[bV]at al aE
     have bz:=dF (K4 Wc a9 c9 (s.ops.set k {s.ops[k] with dn:=true}) r W8 al E.blk.lt aE (by simpa using hl) bb)
     clear hG bb al aE
     go_wp2_with(refine wpList_load_mid rfl 76 _ rfl w.1.size 0 rfl [I r.op,I r.bl,I r.v,I r.e,I r.q] _ HG underlying76 rfl kG ?_)
     refine bz.mono ?_
     rintro r9 w9 ⟨rfl,D⟩
     go_wp2_with fail
     refine bodyPost_ret (v:=.tuple #[]) (by simp[results,results83,go_sem]) rfl ?_
     exact⟨rfl,⟨_,E.later D⟩,b6.trans (D.mono E.jf)⟩)
def EE(a:Addr)(w:World):(Op.equalIn 9999 72 (.pointer (some a)) (.pointer none)).run pG w=.ok false w:=by have h:(Tryz.prog.underlying 72).map (λu=>match u with|.pointer _=>true|_=>false)=some true:=kG;obtain⟨u,c,b⟩:=Option.map_eq_some_iff.1 h;cases u<;>simp at b;rw[Op.equalIn];simp[c,go_sem]
def sD(a b:eM):Bool:=eU b.S (b.P - 1).toNat&&((b.E==a.E+1)&&((iF a.S b.S 5==0)||((iF a.S b.S 5==1)&&((iF b.S a.S 5==0)&&(a.P==b.P)))))
def Q8(a b:eM)(w:World)(d:0<=a.S/\a.S<=31)(f:0<=b.S/\b.S<=31)(c:0<=a.E/\a.E<=10000000000000)(e:1<=b.P/\b.P<=5):
  Calls pG 84 #[.agg #[I a.E,I a.P,I a.S],.agg #[I b.E,I b.P,I b.S]] w λr w'=>r=.returned (.bool (sD a b))/\Bw w w':=M8 a.E a.P a.S b.E b.P b.S w d f c e
def QA:∃a c b:Field,(Tryz.prog.fieldsOf 66).toList=[a,c,b]/\¬a.name = "_" /\a.type=3/\a.offset=0/\¬c.name = "_" /\c.type=3/\c.offset=1/\¬b.name = "_" /\b.type=3/\b.offset=2:=by have h:(Tryz.prog.fieldsOf 66).toList.map (λf=>((f.name== "_"),f.type,f.offset))=[(false,3,0),(false,3,1),(false,3,2)]:=kG;obtain⟨a,q,i,g,k⟩:=List.map_eq_cons_iff.1 h;obtain⟨c,r,m,d,o⟩:=List.map_eq_cons_iff.1 k;obtain⟨b,n,p,e,j⟩:=List.map_eq_cons_iff.1 o;have l:n=[]:=List.map_eq_nil_iff.1 j;simp only[Prod.mk.injEq]at g d e;refine⟨a,c,b,by rw[i,m,p,l],by simpa using g.1,g.2.1,g.2.2,by simpa using d.1,d.2.1,d.2.2,by simpa using e.1,e.2.1,e.2.2⟩
def QB:Tryz.prog.underlying 66=Y (.struct (Tryz.prog.fieldsOf 66)):=kG
def QC:Tryz.prog.stoodInHeld 66=false:=kG
def FU(c a1 e d a b:Int)(w:World):(Op.equal 66 (.agg #[I c,I a1,I e]) (.agg #[I d,I a,I b])).run pG w=.ok ((c==d)&&(a1==a)&&(e==b)) w:=by obtain⟨y,A,z,f,u,q,m,o,j,x,t,h,p⟩:=QA;show(Op.equalIn 10000 66 _ _).run _ _=_;rw[run_equalIn_struct w 9999 66 _ _ QB QC,f];have n:(part 3 #[Value.int .i64 c,Value.int .i64 a1,Value.int .i64 e] 0).run pG w=.ok (I c) w:=jL (w:=w) _ 0 _ rfl;have i:(part 3 #[Value.int .i64 d,Value.int .i64 a,Value.int .i64 b] 0).run pG w=.ok (I d) w:=jL (w:=w) _ 0 _ rfl;have g:(part 3 #[Value.int .i64 c,Value.int .i64 a1,Value.int .i64 e] 1).run pG w=.ok (I a1) w:=jL (w:=w) _ 1 _ rfl;have r:(part 3 #[Value.int .i64 d,Value.int .i64 a,Value.int .i64 b] 1).run pG w=.ok (I a) w:=jL (w:=w) _ 1 _ rfl;have p2:(part 3 #[Value.int .i64 c,Value.int .i64 a1,Value.int .i64 e] 2).run pG w=.ok (I e) w:=jL (w:=w) _ 2 _ rfl;have v:(part 3 #[Value.int .i64 d,Value.int .i64 a,Value.int .i64 b] 2).run pG w=.ok (I b) w:=jL (w:=w) _ 2 _ rfl;simp only[Op.eqFields,q,m,n,i,j,x,g,r,h,p,p2,v,Sem.run_bind,Sem.run_ite,Result.andThen_ok,run_equalIn_int w 9998 3 .i64 .i64 _ _ underlying3];by_cases l:c=d<;>by_cases s:a1=a<;>by_cases k:e=b<;>simp[l,u,s,o,k,t]
def E4(a a1 e d c b:Int)(w:World):(binOp .neq 66 (.agg #[I a,I a1,I e]) (.agg #[I d,I c,I b])).run pG w=.ok (.bool (!((a==d)&&(a1==c)&&(e==b)))) w:=by simp only[binOp];simp[FU]
def CS.nd(s:CS)(i:Nat):AG.Nd:=s.ns.getD i (AG.Nd.first 0 0 0)
def CS.tell(s:CS)(i:Nat):CS:=match (s.nd i).res with
 | []=>s
 | r::_=>match s.ops.findIdx? (mQ i (s.3.getD i 0) r.op) with
  |none=>s
  |some p=>{s with ops:=s.ops.set p {s.ops.getD p ⟨0,0,0,0,0,false,false,0,0⟩ with dn:=true},rs:=s.rs++[r],rd:=s.rd++[(s.ops.getD p ⟨0,0,0,0,0,false,false,0,0⟩).rd]}
def CS.look(s:CS)(i:Nat):CS:={s.tell i with ns:=s.ns.set i {s.nd i with res:=[]},kn:=s.kn.set i ((s.nd i).d.recs.length:Int),hi:=s.hi++(s.nd i).d.recs.drop s.hi.length}
structure pX(s:CS)(i:Nat):Prop where
 res:(s.nd i).res=[]∨∃r p,(s.nd i).res=[r]/\s.ops.findIdx? (mQ i (s.3.getD i 0) r.op)=some p/\∃hp:p<s.ops.length,(s.ops[p].dn=false/\(decide (s.ops[p].e<r.e)||((r.e==s.ops[p].e)&&decide (s.ops[p].q<r.q)))=true/\r.bl=s.ops[p].bl/\(s.ops[p].rd=false->r.v=s.ops[p].v))/\(s.ops[p].rd=true->r.v=0∨∃o∈s.ops,p9 r o=true)
 kn:s.kn.getD i 0<=(s.nd i).d.recs.length
 hl:(s.nd i).d.recs.length<=s.hi.length+1
 h0:0<s.hi.length
 eq:∀k (h1:k<(s.nd i).d.recs.length) (h2:k<s.hi.length),(s.nd i).d.recs[k]=s.hi[k]
 be:∀(h1:s.hi.length<(s.nd i).d.recs.length),sD ((s.nd i).d.recs[s.hi.length-1]' oG) (s.nd i).d.recs[s.hi.length]=true
 rg:∀k (h1:k<(s.nd i).d.recs.length),(0<=(s.nd i).d.recs[k].S/\(s.nd i).d.recs[k].S<=31)/\(0<=(s.nd i).d.recs[k].E/\(s.nd i).d.recs[k].E<=10000000000000)/\(1<=k->1<=(s.nd i).d.recs[k].P/\(s.nd i).d.recs[k].P<=5)
 bd:s.ops.length<=2000000000/\s.rs.length<=2000000000/\s.rd.length<=2000000000/\s.hi.length<=2000000000
section
variable {w w':World} {Wc base t:Nat} {v:Nat->Value} {f:Bool} {hs:List Ho} {s:CS}
def dU.ones(h:dU w Wc base t v f hs s){k:Nat}(b:k∈eW)(d:0<rN hs s k):∃g a,v k=J (Y ⟨g,0,Z⟩) (rN hs s k) a/\w.cell? ⟨Wc,k,Z⟩=Y (J (Y ⟨g,0,Z⟩) (rN hs s k) a)/\g<w.1.size/\∀j u,(rX hs s k)[j]?=Y u->w.cell? ⟨g,j,Z⟩=Y u:=by obtain⟨g,a,e,c,i⟩:=(fM.ig (h.row k b)).at d;exact⟨g,a,e,by rw[←e];exact h.cell b,c,i⟩
def CS.jy{s:CS}{i:Nat}(h:i<s.ns.length):s.nd i=s.ns[i]:=by unfold CS.nd;rw[List.getD_eq_getElem?_getD,List.getElem?_eq_getElem h];rfl
def dU.iw{i:Nat}(h:dU w Wc base t v f hs s)(hi:i<hs.length)(a:i<s.ns.length){n':AG.Nd}(d:fN w' hs[i].Kn hs[i].P t hs[i].C hs[i].left n')(g:dR (wK hs[i].C hs[i].Kn) (wK hs[i].C hs[i].Kn) w w')(b:n'.id=s.ns[i].id/\n'.2=s.ns[i].2/\n'.nb=s.ns[i].nb):dU w' Wc base t v f hs {s with ns:=s.ns.set i n'}/\Below base w w':=by have c:=h.call (t':=t) hi a r_ d g b;have e:hs.set i {hs[i] with C:=hs[i].C,left:=hs[i].left}=hs:=List.set_getElem_self hi;rw[e]at c;exact c
end
end Go.Proofs.YtdcainmlcpafbaaGreatDoor
