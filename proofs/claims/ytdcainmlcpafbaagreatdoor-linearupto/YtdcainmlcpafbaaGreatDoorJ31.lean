import Derived.Test.YtdcainmlcpafbaaGreatDoorJ30
set_option linter.all false
set_option maxHeartbeats 8000000
set_option maxRecDepth 20000
namespace Go.Proofs.YtdcainmlcpafbaaGreatDoor
open Go.RowKit
open Value renaming slice->J,pointer->P0
open Tryz
open Tryz renaming prog->pG
open IntKind renaming i64->T
open Option renaming none->Z,some->Y
open Obj renaming cells->G
open Value (bool)
def AY{α:Type}(f:α->List Value)(c:Nat)(b:∀x,(f x).length=c)(x':α)(k:Nat)(u:Value)(d:k<c):∀(l:List α) (i:Nat) (h:i<l.length),(f l[i]).set k u=f x'->(l.flatMap f).set (i*c+k) u=(l.set i x').flatMap f
 | [],i,h,_=>by simp at h
 |a::l,0,h,he=>by simp only[List.getElem_cons_zero]at he;simp only[List.flatMap_cons,List.set_cons_zero,Nat.zero_mul,Nat.zero_add];rw[List.set_append_left _ _ (by rw[b];exact d),he]
 |a::l,i+1,h,he=>by simp only[List.getElem_cons_succ]at he;simp only[List.flatMap_cons,List.set_cons_succ];rw[List.set_append_right _ _ (by rw[b];rw[Nat.succ_mul];omega),←AY f c b x' k u d l i (by simpa using h) he,b];congr 2;rw[Nat.succ_mul];omega
def dR.jw{w:World}{Wc base t:Nat}{v:Nat->Value}{f:Bool}{hs:List Ho}{s s':CS}{k g n c:Nat}(y:k∈eR)(h:dR w Wc base t v f hs s)(l:v k=J (Y ⟨g,0,Z⟩) n c)(j:Nat)(u:Value)(A:s'.ns=s.ns)(i:s'.nb=s.nb)(o:s'.lv.length=s.lv.length/\s'.kn.length=s.kn.length)(m:∀j∈eR,j≠k->rN hs s' j=rN hs s j/\rX hs s' j=rX hs s j)(B:rN hs s' k=rN hs s k)(z:rX hs s' k=(rX hs s k).set j u):dR (w.setCell ⟨g,j,Z⟩ u) Wc base t v f hs s'/\Below base w (w.setCell ⟨g,j,Z⟩ u)/\dI g w (w.setCell ⟨g,j,Z⟩ u):=by
 have r:=dI.setCell w ⟨g,j,Z⟩ u;have b:=h.row k y;have q:n=rN hs s k:=by rw[l]at b;obtain⟨a,E,d⟩:=dZ b;cases d;rfl
 subst q;have e:(v k).ownBlock=some g:=by rw[l];rfl
 have p:g≠Wc:=λd=>h.off y (by rw[e,d]);rw[l]at b;have C:=(b.stored j u).1;have d:=dR.turn (v':=v) (f':=f) (s':=s') y h (dM.of_but r (.inr e)) (λ_ _ _=>rfl) (by rw[i];exact h.blk.same (r.block Wc (λd=>p d.symm))) (by rw[B,z,l];exact C) (λD x=>.inl x) A i o m;exact⟨d.1,d.2,r⟩
def mF(i lv:Int)(op:Int)(o:AG.As):Bool:=(o.nd==i)&&((o.lf==lv)&&(o.op==op))
def N8:(Tryz.prog.info? 4).map (λi=>(i.zero,i.size,i.bytes))=Y (Y (.bool false),1,1):=kG
def N9(Wc base t:Nat)(f:Bool)(hs:List Ho)(s:CS)(i:Nat)(lv:Int)(r:dJ)(p:Nat)(w:World)(h:CA w Wc base t f hs s)(hi:i<s.lv.length)(bW:s.lv[i]=lv)(hp:p<s.ops.length)(hm:mF i lv r.op s.ops[p]=true)(hf:∀j (hj:j<s.ops.length),j<p->mF i lv r.op s.ops[j]=false)(ae:s.ops[p].dn=false/\(decide (s.ops[p].e<r.e)||((r.e==s.ops[p].e)&&decide (s.ops[p].q<r.q)))=true/\r.bl=s.ops[p].bl/\(s.ops[p].rd=false->r.v=s.ops[p].v))(ab:s.ops[p].rd=true->r.v=0∨∃o∈s.ops,pN r o=true)(hl:s.ops.length<=100000000)(bf:s.rs.length<=100000000/\s.rd.length<=100000000):Calls pG 83 #[P0 (Y ⟨Wc,0,Z⟩),I (i:Int),.agg #[I r.op,I r.bl,I r.v,I r.e,I r.q]] w λq w'=>q=.returned (.tuple #[])/\CA w' Wc base t f hs {s with ops:=s.ops.set p {s.ops[p] with dn:=true},rs:=s.rs++[r],rd:=s.rd++[s.ops[p].rd]}/\Below base w w':=by
 obtain⟨v,h⟩:=h;have aq:=a_ w (G #[I r.op,I r.bl,I r.v,I r.e,I r.q] 76);have HX:=dA (dC.new w #[I r.op,I r.bl,I r.v,I r.e,I r.q] 76);have HB:=dA aq;have HC:=dA (h.later aq);have bq:=dA h.jd;have c5:=aq.size;have bI:(v 7).ownBlock≠some w.heap.size:=λc=>by have:=((h.row 7 dG).lt _ c).2;omega
 have bp:w.heap.size≠Wc:=by have:=h.blk.lt;omega
 obtain⟨i0,bj,b6,bn,bg⟩:=info_parts xQ;obtain⟨i1,b4,bi,aV,b8⟩:=info_parts N8;have HM:=dA hm;have bh:=dA hf;have bd:=dA ae;have aU:=dA ab;clear h aq hm hf ae ab;obtain⟨a3,c3,bK⟩:=dZ (HC.row 3 dG);have bb:eL _ _ _ _:=eL.gy (HC.row 3 dG);obtain⟨g3,bY,e3,x,bc⟩:=bb.at (show 0<s.lv.length by omega);have l3:=bc i (I lv) (by show(s.lv.map I)[i]?=_;rw[List.getElem?_map,List.getElem?_eq_getElem hi,bW];rfl);obtain⟨g6,bX,e6,bO,aa⟩:=(eL.gy (HC.row 6 dG)).at (show 0<s.ops.length by omega);have bs:=dA aa;have ah:=dA e6;have bJ:=dA e3;clear bc aa bb bK;go_enter func83,ntmps83;go_upto_region 2 with fail;generalize World.alloc _ _=W0 at*;go_loopw [6] (λs6 wr=>∃k:Nat,k<=p/\s6=I (k:Int)/\Below W0.heap.size W0 wr) (λs6 wr=>s.ops.length - (intOf s6).toNat);case atStart=>exact⟨0,oG,rfl,Below.refl _ _⟩
 case round=>
  obtain⟨k,c4,rfl,C⟩:=hrel;have aw:k<s.ops.length:=oG;have ad:=dA (HC.later C);have aQ:=dA (HX.later C);have ba:=dA C;have aF:=ad.cell (k:=6) dG;rw[ah.out]at aF;have ay:=ad.cell (k:=3) dG;rw[bJ.out]at ay;have aL:rN hs s 6=s.ops.length:=rfl;have bB:rN hs s 3=s.lv.length:=rfl;rw[aL]at aF;rw[bB]at ay;have aY:=(C.cell (p:=⟨g3,i,Z⟩) x).trans l3;have aK:=yJ (w:=wr) (ops:=s.ops) (λj u E=>(C.cell (p:=⟨g6,j,Z⟩) bO).trans (bs.out j u E)) k aw;obtain⟨o,ho⟩:∃y,s.ops[k]=y:=⟨_,rfl⟩;rw[ho]at aK;have bk:Hid (wr.rangeAt g6 (k*9) [I o.nd,I o.lf,I o.op,I o.bl,I o.v,bool o.rd,bool o.dn,I o.e,I o.q]):=aK;have al:=dA ho;have HY:=dA (dC.new wr #[I o.nd,I o.lf,I o.op,I o.bl,I o.v,bool o.rd,bool o.dn,I o.e,I o.q] 178);have a8:=a_ wr (G #[I o.nd,I o.lf,I o.op,I o.bl,I o.v,bool o.rd,bool o.dn,I o.e,I o.q] 178);have aX:=dA (ad.later a8);have aM:=dA (aQ.later a8);have au:Hid (Below W0.heap.size W0 (wr.alloc (G #[I o.nd,I o.lf,I o.op,I o.bl,I o.v,bool o.rd,bool o.dn,I o.e,I o.q] 178))):=C.trans (a8.mono C.size);have br:=(a8.cell (p:=⟨Wc,3,Z⟩) (by have:=ad.blk.lt;exact this)).trans ay;have bt:=(a8.cell (p:=⟨g3,i,Z⟩) (by have:=C.size;show g3<_;omega)).trans aY;have bw:decide ((k:Int)<(s.ops.length:Int))=true:=by simp;omega
  have c6:(0:Int)<=(k:Int)/\(k:Int)<(s.ops.length:Int):=oG;have c0:(0:Int)<=(i:Int)/\(i:Int)<(s.lv.length:Int):=oG;clear aK C a8 ho aY ay;go_upto_region 5 with(refine wpList_load_mid rfl 178 _ rfl g6 (k*9) rfl [I o.nd,I o.lf,I o.op,I o.bl,I o.v,bool o.rd,bool o.dn,I o.e,I o.q] _ bk underlying178 rfl kG ?_);generalize World.alloc _ _=W5 at*;have c1:g6<wr.heap.size:=by have:=ba.size;omega
  have bv:g6≠w.heap.size:=λc=>by have h8:=aQ.blk;have aj:=ad.row 6 dG;rw[ah.out]at aj;obtain⟨c9,h7⟩:=eU aj (g:=g6) rfl;rw[←c,h7]at h8;simp at h8;exact absurd h8.2 dG
  generalize wr.heap.size=B at*;have y0:=HY.cell 0;have y1:=HY.cell 1;have y2:=HY.cell 2;have x0:=aM.cell 0;simp at y0 y1 y2 x0;clear aF bw;obtain⟨b1,e1⟩:∃y,(o.nd != (i:Int))=y:=⟨_,rfl⟩;obtain⟨b2,e2⟩:∃y,(o.lf != lv)=y:=⟨_,rfl⟩;obtain⟨b3,e3⟩:∃y,(o.op != r.op)=y:=⟨_,rfl⟩;have ax:mF i lv r.op o=(!b1&&(!b2&&!b3)):=by unfold mF;rw[←e1,←e2,←e3];simp[bne]
  by_cases bP:k=p;case neg=>
   have c:=bh.out k aw oG;rw[al.out,ax]at c;have bx:k+1<=p:=oG;clear ax;cases b1<;>cases b2<;>cases b3;all_goals first|(exact absurd c dG)|skip
   all_goals
    clear c
    go_quiet (fail)
    go_wp2_with fail
    go_roundw
    case rel=>exact⟨k+1,bx,rfl,below_drewN au _⟩
    case measure=>simp[intOf];omega
  subst bP;have c:=HM.out;rw[al.out,ax]at c;simp only[Bool.and_eq_true,Bool.not_eq_true']at c;obtain⟨rfl,rfl,rfl⟩:=c;have ae:=bd.out;have ab:=aU.out;rw[al.out]at ae ab;clear ax HM bh bd aU;go_quiet (fail);have ag:Below W5.heap.size W5 (W5.drewN nq):=below_drewN b_ _;have ao:=dA (aX.later ag);have ac:=dA (aM.later ag);have H:=dA (HY.later ag);have b5:Hid (Below W0.heap.size W0 (W5.drewN nq)):=au.trans (ag.mono au.size);clear aX aM HY au ag y0 y1 y2 x0 e1 e2 e3 br bt ad aQ ba bk;generalize W5.drewN nq=W6 at*;have y3:=H.cell 3;have y4:=H.cell 4;have y5:=H.cell 5;have y6:=H.cell 6;have y7:=H.cell 7;have y8:=H.cell 8;have x1:=ac.cell 1;have x2:=ac.cell 2;have x3:=ac.cell 3;have x4:=ac.cell 4;simp at y3 y4 y5 y6 y7 y8 x1 x2 x3 x4;obtain⟨aC,bU,aW,aJ⟩:=ae;rw[aC]at y6;have bL:=dA ab;have bA:Hid (s.ops[k].rd=o.rd):=by unfold Hid;rw[al.out]
  obtain⟨rd,av⟩:∃y,o.rd=y:=⟨_,rfl⟩;rw[av]at y5;have az:=dA av;have f1:(r.bl != o.bl)=false:=by simp[aW]
  have f2:rd=false->(r.v != o.v)=false:=by intro c;rw[av]at aJ;simp[aJ c]
  have aa:=ao.cell (k:=6) dG;rw[ah.out]at aa;have aL:rN hs s 6=s.ops.length:=rfl;rw[aL]at aa;have F:=ao.row 6 dG;rw[ah.out]at F;obtain⟨bZ,ai⟩:=eU F (g:=g6) rfl;have bG:W6.frozen? ⟨g6,k*9+6,Z⟩=false:=by simp[World.frozen?,ai]
  have bm:W6.cell? ⟨g6,k*9+6,Z⟩=Y (bool false):=by
   have c:=yJ (w:=W6) (ops:=s.ops) (λj u E=>by obtain⟨g9,c9,e9,_,am⟩:=(eL.gy F).at (show 0<s.ops.length by omega);cases e9;exact am j u E) k aw
   have h8:=c 6 (bool s.ops[k].dn) rfl;rw[al.out,aC]at h8;exact h8
  clear F av aW aJ ab aC;go_wp2_with fail;refine(xD r.e r.q o.e o.q W6).mono ?_;rintro r9 w9 ⟨rfl,bH⟩;obtain rfl:=bH.symm;rw[bU];cases rd;all_goals
   first|(have f3:=f2 rfl)|skip
   clear f2
   go_upto_region 10 with fail
   have aZ:(s.ops.set k {s.ops[k] with dn:=true}).flatMap lN=(s.ops.flatMap lN).set (k*9+6) (bool true):=(AY lN 9 E3 _ 6 _ dG s.ops k aw (by rfl)).symm
   obtain⟨q1,q2,q3⟩:=dR.jw (s':={s with ops:=s.ops.set k {s.ops[k] with dn:=true}}) (k:=6) dG ao ah (k*9+6) (bool true) rfl rfl ⟨rfl,rfl⟩ (by
     intro j hj bu
     unfold rN rX
     split<;>first|exact⟨rfl,rfl⟩|exact absurd rfl bu) (by show(s.ops.set k _).length=_;simp[rN]) aZ
   have a0:=dA q1;have bz:Hid (Below base w (W6.setCell ⟨g6,k*9+6,Z⟩ (bool true))):=(HB.mono bq).trans ((b5.mono (by have:=bq.out;omega)).trans q2)
   have b7:=dA (ac.same (q3.block _ (λc=>bv c.symm)));have ar:=dA (H.same (q3.block B oG))
   clear q1 q2 q3 ao ac H b5 y3 y4 y5 y6 y7 y8 x1 x2 x3 x4 aa ai bG bm aZ
   generalize W6.setCell ⟨g6,k*9+6,Z⟩ (bool true)=W2 at*
   obtain⟨L,ap⟩:∃y,({s with ops:=s.ops.set k {s.ops[k] with dn:=true}}:CS)=y:=⟨_,rfl⟩
   rw[ap]at a0
   have b0:B≠Wc:=λc=>by have h8:=ar.blk;rw[c,a0.blk.blk]at h8;simp at h8
   have bT:(v 7).ownBlock≠some B:=λc=>by obtain⟨c9,h8⟩:=eU (a0.row 7 dG) c;have h7:=ar.blk;rw[h8]at h7;simp at h7;exact absurd h7.2 dG
   have aA:rN hs L 7<=100000000:=by rw[←ap];exact bf.1
   have aE:=a0.cell (k:=7) dG
   have n:Below W2.heap.size W2 (W2.alloc (G #[I r.op,I r.bl,I r.v,I r.e,I r.q] 76)).drew:=(a_ _ _).drew
   have X:base<=(W2.alloc (G #[I r.op,I r.bl,I r.v,I r.e,I r.q] 76)).drew.heap.size:=Nat.le_trans a0.jd n.size
   have D:=dA (a0.later n)
   have aS:(W2.alloc (G #[I r.op,I r.bl,I r.v,I r.e,I r.q] 76)).drew.cell? ⟨Wc,7,Z⟩=Y (v 7):=D.cell (k:=7) dG
   have V:dC W2.drew w.heap.size #[I r.op,I r.bl,I r.v,I r.e,I r.q] 76/\dC W2.drew B #[I o.nd,I o.lf,I o.op,I o.bl,I o.v,bool o.rd,bool o.dn,I o.e,I o.q] 178:=⟨b7.drew,ar.drew⟩
   have d:dC (W2.alloc (G #[I r.op,I r.bl,I r.v,I r.e,I r.q] 76)).drew w.heap.size #[I r.op,I r.bl,I r.v,I r.e,I r.q] 76/\dC (W2.alloc (G #[I r.op,I r.bl,I r.v,I r.e,I r.q] 76)).drew B #[I o.nd,I o.lf,I o.op,I o.bl,I o.v,bool o.rd,bool o.dn,I o.e,I o.q] 178:=⟨b7.later n,ar.later n⟩
   have W:(W2.alloc (G #[I r.op,I r.bl,I r.v,I r.e,I r.q] 76)).drew.ownsRow base 76 5 (v 7) (rN hs L 7) (rX hs L 7):=D.row 7 dG
   have U:∀j u,[I r.op,I r.bl,I r.v,I r.e,I r.q][j]?=Y u->(W2.alloc (G #[I r.op,I r.bl,I r.v,I r.e,I r.q] 76)).drew.cell? ((⟨W2.heap.size,0,Z⟩:Addr).add j)=Y u:=by
    intro j u E;rw[Go.WideShapes.add_plain];refine(World.cell?_alloc_at _ _ _ _ sG).trans ?_;simpa using E
   have HP:Hid (∀v' w3,w3.ownsRow base 76 5 v' (rN hs L 7+1) (rX hs L 7++[I r.op,I r.bl,I r.v,I r.e,I r.q])->(W2.alloc (G #[I r.op,I r.bl,I r.v,I r.e,I r.q] 76)).drew.grownBy w3 (v 7).ownBlock->(∃g',v'.ownBlock=Y g'/\((v 7).ownBlock=Y g'∨(W2.alloc (G #[I r.op,I r.bl,I r.v,I r.e,I r.q] 76)).drew.heap.size<=g'/\(W2.alloc (G #[I r.op,I r.bl,I r.v,I r.e,I r.q] 76)).drew.grownBy w3 none))->(w3.cell? ⟨Wc,7,Z⟩=Y (v 7)/\w3.frozen? ⟨Wc,7,Z⟩=false/\((dC w3 w.heap.size #[I r.op,I r.bl,I r.v,I r.e,I r.q] 76/\dC w3 B #[I o.nd,I o.lf,I o.op,I o.bl,I o.v,bool o.rd,bool o.dn,I o.e,I o.q] 178)/\(dC (w3.setCell ⟨Wc,7,Z⟩ v') w.heap.size #[I r.op,I r.bl,I r.v,I r.e,I r.q] 76/\dC (w3.setCell ⟨Wc,7,Z⟩ v') B #[I o.nd,I o.lf,I o.op,I o.bl,I o.v,bool o.rd,bool o.dn,I o.e,I o.q] 178))/\dR (w3.setCell ⟨Wc,7,Z⟩ v') Wc base t (gI v 7 v') f hs {L with rs:=L.rs++[r]}/\Below base w (w3.setCell ⟨Wc,7,Z⟩ v')/\dC (w3.setCell ⟨Wc,7,Z⟩ v') w.heap.size #[I r.op,I r.bl,I r.v,I r.e,I r.q] 76/\dC (w3.setCell ⟨Wc,7,Z⟩ v') B #[I o.nd,I o.lf,I o.op,I o.bl,I o.v,bool o.rd,bool o.dn,I o.e,I o.q] 178)):=by
    intro v' w3 ho a7 a
    obtain⟨a1,a2,a3,a4,a5⟩:=dR.push (s':={L with rs:=L.rs++[r]}) (k:=7) (m:=1) dG D ho a7 a rfl rfl ⟨rfl,rfl⟩ (by
      intro j hj aI
      unfold rN rX
      split<;>first|exact⟨rfl,rfl⟩|exact absurd rfl aI) (by simp[rN]) (by simp[rX,dJ.cells])
    have o1:dC w3 w.heap.size #[I r.op,I r.bl,I r.v,I r.e,I r.q] 76:=d.1.same (a7.block _ d.1.lt (λc=>bI c.symm))
    have o2:dC w3 B #[I o.nd,I o.lf,I o.op,I o.bl,I o.v,bool o.rd,bool o.dn,I o.e,I o.q] 178:=d.2.same (a7.block _ d.2.lt (λc=>bT c.symm))
    have o3:dC (w3.setCell ⟨Wc,7,Z⟩ v') w.heap.size #[I r.op,I r.bl,I r.v,I r.e,I r.q] 76:=o1.same ((dI.setCell w3 ⟨Wc,7,Z⟩ v').block _ bp)
    have o4:dC (w3.setCell ⟨Wc,7,Z⟩ v') B #[I o.nd,I o.lf,I o.op,I o.bl,I o.v,bool o.rd,bool o.dn,I o.e,I o.q] 178:=o2.same ((dI.setCell w3 ⟨Wc,7,Z⟩ v').block _ b0)
    exact⟨a1,a2,⟨⟨o1,o2⟩,⟨o3,o4⟩⟩,a3,bz.trans ((n.mono a0.jd).trans a4),o3,o4⟩
   go_cut [101] (λsx wx=>∃v',dR wx Wc base t (gI v 7 v') f hs {L with rs:=L.rs++[r]}/\Below base w wx/\dC wx w.heap.size #[I r.op,I r.bl,I r.v,I r.e,I r.q] 76/\dC wx B #[I o.nd,I o.lf,I o.op,I o.bl,I o.v,bool o.rd,bool o.dn,I o.e,I o.q] 178)
   case first=>
    refine eY (S:=λw'=>dC w' w.heap.size #[I r.op,I r.bl,I r.v,I r.e,I r.q] 76/\dC w' B #[I o.nd,I o.lf,I o.op,I o.bl,I o.v,bool o.rd,bool o.dn,I o.e,I o.q] 178) (λ_=>?_) (hS:=V)
    refine dB 0 ?_;refine dB 1 ?_;refine dB 2 ?_;refine dB 3 ?_;refine i8 5 w.heap.size 0 [I r.op,I r.bl,I r.v,I r.e,I r.q] ?_ (λw aD=>aD.1.range rfl)
    refine jC [4,6] ?_
    refine .cons rfl (λK b=>?_) ?_
    ·(try go_simp)
     refine k1 b (λ_=>?_) V;clear b K
     refine dF 6 λK b=>?_
     (try go_simp)
     refine k1 b (λ_=>?_) d;clear b K
     refine dF 7 λK b=>?_
     refine iX rfl (.tmp 96) (.tmp 98) 52 rfl base 76 i0 (.agg #[I 0,I 0,I 0,I 0,I 0]) 5 40 underlying52 bj b6 bn bg rfl dG (v 7) (rN hs L 7) (rX hs L 7) eG W ⟨W2.heap.size,0,Z⟩ 1 1 [I r.op,I r.bl,I r.v,I r.e,I r.q] oG eG rfl U (by intro u E;simp at E;rcases E with rfl|rfl|rfl|rfl|rfl<;>rfl) xG oG X ?_
     intro v' w3 l x a
     obtain⟨aR,aB,rfl⟩:=dZ l
     obtain⟨aG,aO,z,a6⟩:=HP.out _ w3 l x a
     clear l x a
     refine k1 b (λ_=>?_) z.1;clear b K;refine dB 8 ?_;refine dB 9 ?_
     refine dF 10 λK b=>?_
     (try go_simp)
     refine k1 b (λ_=>?_) z.2;clear b K
     refine dn ?_
     go_wp2_with fail
     go_meet
     exact⟨_,a6⟩
    refine .cons rfl (λK b=>?_) .nil
    (try go_simp)
    refine k1 b (λ_=>?_) d;clear b K
    refine dF 4 λK b=>?_
    (try go_simp)
    refine k1 b (λ_=>?_) d;clear b K
    refine dF 7 λK b=>?_
    refine iX rfl (.tmp 96) (.tmp 98) 52 rfl base 76 i0 (.agg #[I 0,I 0,I 0,I 0,I 0]) 5 40 underlying52 bj b6 bn bg rfl dG (v 7) (rN hs L 7) (rX hs L 7) eG W ⟨W2.heap.size,0,Z⟩ 1 1 [I r.op,I r.bl,I r.v,I r.e,I r.q] oG eG rfl U (by intro u E;simp at E;rcases E with rfl|rfl|rfl|rfl|rfl<;>rfl) xG oG X ?_
    intro v' w3 l x a
    obtain⟨aR,aB,rfl⟩:=dZ l
    obtain⟨aG,aO,z,a6⟩:=HP.out _ w3 l x a
    clear l x a
    refine k1 b (λ_=>?_) z.1;clear b K;refine dB 8 ?_;refine dB 9 ?_
    refine dF 10 λK b=>?_
    (try go_simp)
    refine k1 b (λ_=>?_) z.2;clear b K
    refine dn ?_
    go_wp2_with fail
    go_meet
    exact⟨_,a6⟩
   case rest=>
   obtain⟨A,af,M,ak,an⟩:=hcut
   clear HP U W d V aS D X n aE aA
   obtain⟨N,bD⟩:∃y,y=wc:=⟨_,rfl⟩
   subst bD
   have R:=dA af;have bM:=dA M;have aN:=dA ak;have aP:=dA an
   clear af M ak an
   obtain⟨O,aT⟩:∃y,({L with rs:=L.rs++[r]}:CS)=y:=⟨_,rfl⟩
   rw[aT]at R
   have bR:((gI v 7 A) 8).ownBlock≠some w.heap.size:=λc=>by obtain⟨c9,h8⟩:=eU (R.row 8 dG) c;have h7:=aN.blk;rw[h8]at h7;simp at h7;exact absurd h7.2 dG
   have bS:((gI v 7 A) 8).ownBlock≠some B:=λc=>by obtain⟨c9,h8⟩:=eU (R.row 8 dG) c;have h7:=aP.blk;rw[h8]at h7;simp at h7;exact absurd h7.2 dG
   go_upto_region 11 with fail
   have aA:rN hs O 8<=100000000:=by rw[←aT,←ap];exact bf.2
   have aE:=R.cell (k:=8) dG
   have n:Below N.heap.size N (N.alloc (G #[bool o.rd] 4)).drew:=(a_ _ _).drew
   have X:base<=(N.alloc (G #[bool o.rd] 4)).drew.heap.size:=Nat.le_trans R.jd n.size
   have D:=dA (R.later n)
   have aS:(N.alloc (G #[bool o.rd] 4)).drew.cell? ⟨Wc,8,Z⟩=Y ((gI v 7 A) 8):=D.cell (k:=8) dG
   have V:dC N.drew w.heap.size #[I r.op,I r.bl,I r.v,I r.e,I r.q] 76/\dC N.drew B #[I o.nd,I o.lf,I o.op,I o.bl,I o.v,bool o.rd,bool o.dn,I o.e,I o.q] 178:=⟨aN.drew,aP.drew⟩
   have d:dC (N.alloc (G #[bool o.rd] 4)).drew w.heap.size #[I r.op,I r.bl,I r.v,I r.e,I r.q] 76/\dC (N.alloc (G #[bool o.rd] 4)).drew B #[I o.nd,I o.lf,I o.op,I o.bl,I o.v,bool o.rd,bool o.dn,I o.e,I o.q] 178:=⟨aN.later n,aP.later n⟩
   have W:(N.alloc (G #[bool o.rd] 4)).drew.ownsRow base 4 1 ((gI v 7 A) 8) (rN hs O 8) (rX hs O 8):=D.row 8 dG
   have U:∀j u,[bool o.rd][j]?=Y u->(N.alloc (G #[bool o.rd] 4)).drew.cell? ((⟨N.heap.size,0,Z⟩:Addr).add j)=Y u:=by
    intro j u E;rw[Go.WideShapes.add_plain];refine(World.cell?_alloc_at _ _ _ _ sG).trans ?_;simpa using E
   have HP:Hid (∀v' w3,w3.ownsRow base 4 1 v' (rN hs O 8+1) (rX hs O 8++[bool o.rd])->(N.alloc (G #[bool o.rd] 4)).drew.grownBy w3 ((gI v 7 A) 8).ownBlock->(∃g',v'.ownBlock=Y g'/\(((gI v 7 A) 8).ownBlock=Y g'∨(N.alloc (G #[bool o.rd] 4)).drew.heap.size<=g'/\(N.alloc (G #[bool o.rd] 4)).drew.grownBy w3 none))->(w3.cell? ⟨Wc,8,Z⟩=Y ((gI v 7 A) 8)/\w3.frozen? ⟨Wc,8,Z⟩=false/\((dC w3 w.heap.size #[I r.op,I r.bl,I r.v,I r.e,I r.q] 76/\dC w3 B #[I o.nd,I o.lf,I o.op,I o.bl,I o.v,bool o.rd,bool o.dn,I o.e,I o.q] 178)/\(dC (w3.setCell ⟨Wc,8,Z⟩ v') w.heap.size #[I r.op,I r.bl,I r.v,I r.e,I r.q] 76/\dC (w3.setCell ⟨Wc,8,Z⟩ v') B #[I o.nd,I o.lf,I o.op,I o.bl,I o.v,bool o.rd,bool o.dn,I o.e,I o.q] 178))/\dR (w3.setCell ⟨Wc,8,Z⟩ v') Wc base t (gI (gI v 7 A) 8 v') f hs {O with rd:=O.rd++[o.rd]}/\Below base w (w3.setCell ⟨Wc,8,Z⟩ v')/\dC (w3.setCell ⟨Wc,8,Z⟩ v') w.heap.size #[I r.op,I r.bl,I r.v,I r.e,I r.q] 76/\dC (w3.setCell ⟨Wc,8,Z⟩ v') B #[I o.nd,I o.lf,I o.op,I o.bl,I o.v,bool o.rd,bool o.dn,I o.e,I o.q] 178)):=by
    intro v' w3 ho a7 a
    obtain⟨a1,a2,a3,a4,a5⟩:=dR.push (s':={O with rd:=O.rd++[o.rd]}) (k:=8) (m:=1) dG D ho a7 a rfl rfl ⟨rfl,rfl⟩ (by
      intro j hj aI
      unfold rN rX
      split<;>first|exact⟨rfl,rfl⟩|exact absurd rfl aI) (by simp[rN]) (by simp[rX,dJ.cells])
    have o1:dC w3 w.heap.size #[I r.op,I r.bl,I r.v,I r.e,I r.q] 76:=d.1.same (a7.block _ d.1.lt (λc=>bR c.symm))
    have o2:dC w3 B #[I o.nd,I o.lf,I o.op,I o.bl,I o.v,bool o.rd,bool o.dn,I o.e,I o.q] 178:=d.2.same (a7.block _ d.2.lt (λc=>bS c.symm))
    have o3:dC (w3.setCell ⟨Wc,8,Z⟩ v') w.heap.size #[I r.op,I r.bl,I r.v,I r.e,I r.q] 76:=o1.same ((dI.setCell w3 ⟨Wc,8,Z⟩ v').block _ bp)
    have o4:dC (w3.setCell ⟨Wc,8,Z⟩ v') B #[I o.nd,I o.lf,I o.op,I o.bl,I o.v,bool o.rd,bool o.dn,I o.e,I o.q] 178:=o2.same ((dI.setCell w3 ⟨Wc,8,Z⟩ v').block _ b0)
    exact⟨a1,a2,⟨⟨o1,o2⟩,⟨o3,o4⟩⟩,a3,bM.trans ((n.mono R.jd).trans a4),o3,o4⟩
   go_cut [112] (λsx wx=>∃v',dR wx Wc base t (gI (gI v 7 A) 8 v') f hs {O with rd:=O.rd++[o.rd]}/\Below base w wx/\dC wx w.heap.size #[I r.op,I r.bl,I r.v,I r.e,I r.q] 76/\dC wx B #[I o.nd,I o.lf,I o.op,I o.bl,I o.v,bool o.rd,bool o.dn,I o.e,I o.q] 178)
   case first=>
    refine eY (S:=λw'=>dC w' w.heap.size #[I r.op,I r.bl,I r.v,I r.e,I r.q] 76/\dC w' B #[I o.nd,I o.lf,I o.op,I o.bl,I o.v,bool o.rd,bool o.dn,I o.e,I o.q] 178) (λ_=>?_) (hS:=V)
    refine dB 0 ?_;refine dB 1 ?_;refine dB 2 ?_;refine dB 3 ?_;refine dB 5 ?_;refine dB 6 (v:=bool o.rd) ?_ (hy:=λw aD=>by have c:=aD.2.cell 5;simp at c;go_simp)
    refine jC [4,7] ?_
    refine .cons rfl (λK b=>?_) ?_
    ·(try go_simp)
     refine k1 b (λ_=>?_) V;clear b K
     refine dF 7 λK b=>?_
     (try go_simp)
     refine k1 b (λ_=>?_) d;clear b K
     refine dF 8 λK b=>?_
     refine iX rfl (.tmp 106) (.tmp 109) 53 rfl base 4 i1 (.bool false) 1 1 underlying53 b4 bi aV b8 rfl dG ((gI v 7 A) 8) (rN hs O 8) (rX hs O 8) eG W ⟨N.heap.size,0,Z⟩ 1 1 [bool o.rd] oG eG rfl U (by intro u E;simp at E;rcases E with rfl;rfl) xG oG X ?_
     intro v' w3 l x a
     obtain⟨aR,aB,rfl⟩:=dZ l
     obtain⟨aG,aO,z,a6⟩:=HP.out _ w3 l x a
     clear l x a
     refine k1 b (λ_=>?_) z.1;clear b K;refine dB 9 ?_;refine dB 10 ?_
     refine dF 11 λK b=>?_
     (try go_simp)
     refine k1 b (λ_=>?_) z.2;clear b K
     refine dn ?_
     go_wp2_with fail
     go_meet
     exact⟨_,a6⟩
    refine .cons rfl (λK b=>?_) .nil
    (try go_simp)
    refine k1 b (λ_=>?_) d;clear b K
    refine dF 4 λK b=>?_
    (try go_simp)
    refine k1 b (λ_=>?_) d;clear b K
    refine dF 8 λK b=>?_
    refine iX rfl (.tmp 106) (.tmp 109) 53 rfl base 4 i1 (.bool false) 1 1 underlying53 b4 bi aV b8 rfl dG ((gI v 7 A) 8) (rN hs O 8) (rX hs O 8) eG W ⟨N.heap.size,0,Z⟩ 1 1 [bool o.rd] oG eG rfl U (by intro u E;simp at E;rcases E with rfl;rfl) xG oG X ?_
    intro v' w3 l x a
    obtain⟨aR,aB,rfl⟩:=dZ l
    obtain⟨aG,aO,z,a6⟩:=HP.out _ w3 l x a
    clear l x a
    refine k1 b (λ_=>?_) z.1;clear b K;refine dB 9 ?_;refine dB 10 ?_
    refine dF 11 λK b=>?_
    (try go_simp)
    refine k1 b (λ_=>?_) z.2;clear b K
    refine dn ?_
    go_wp2_with fail
    go_meet
    exact⟨_,a6⟩
   case rest=>
   obtain⟨c2,af,M,ak,an⟩:=hcut
   clear HP U W d V aS D X n aE aA
   obtain⟨W8,bQ⟩:∃y,y=wc:=⟨_,rfl⟩
   subst bQ
   have Q:=dA af;have be:=dA M;have bE:=dA ak;have bC:=dA an
   clear af M ak an
   have bN:({O with rd:=O.rd++[o.rd]}:CS)={s with ops:=s.ops.set k {s.ops[k] with dn:=true},rs:=s.rs++[r],rd:=s.rd++[s.ops[k].rd]}:=by rw[←aT,←ap,bA.out]
   rw[bN]at Q
   have y5:=bC.cell 5;simp at y5;rw[az.out]at y5
   first
   |(go_wp2_with fail
     refine bodyPost_ret (v:=.tuple #[]) (by simp[results,results83,go_sem]) rfl ?_
     exact⟨rfl,⟨_,Q⟩,be⟩)
   |(have hG:W8.rangeAt w.heap.size 0 [I r.op,I r.bl,I r.v,I r.e,I r.q]:=bE.range rfl
     have HG:=dA hG
     have bo:r.v=0∨∃o9∈s.ops.set k {s.ops[k] with dn:=true},pN r o9=true:=by
      refine(bL.out az).imp id ?_
      rintro⟨o9,h1,h2⟩
      obtain⟨j,hj,rfl⟩:=List.getElem_of_mem h1
      refine⟨(s.ops.set k {s.ops[k] with dn:=true})[j]'(by simpa using hj),List.getElem_mem _,?_⟩
      by_cases b9:j=k
      ·subst b9;rw[List.getElem_set_self];exact h2
      ·rw[List.getElem_set_ne (λc=>b9 c.symm)];exact h2
     have am:=Q.cell (k:=6) dG
     have aH:=eL.gy (Q.row 6 dG)
     obtain⟨a9,c9,bV⟩:=dZ (Q.row 6 dG)
     rw[bV]at am aH
     have bF:=dA (JY Wc a9 c9 (s.ops.set k {s.ops[k] with dn:=true}) r W8 am Q.blk.lt aH (by simpa using hl) bo)
     clear hG bo am aH
     go_wp2_with(refine wpList_load_mid rfl 76 _ rfl w.heap.size 0 rfl [I r.op,I r.bl,I r.v,I r.e,I r.q] _ HG underlying76 rfl kG ?_)
     refine bF.mono ?_
     rintro r9 w9 ⟨rfl,M⟩
     go_wp2_with fail
     refine bodyPost_ret (v:=.tuple #[]) (by simp[results,results83,go_sem]) rfl ?_
     exact⟨rfl,⟨_,Q.later M⟩,be.trans (M.mono Q.jd)⟩)
def DE(a:Addr)(w:World):(Op.equalIn 9999 72 (.pointer (some a)) (.pointer none)).run pG w=.ok false w:=by have h:(Tryz.prog.underlying 72).map (λu=>match u with|.pointer _=>true|_=>false)=some true:=kG;obtain⟨u,c,b⟩:=Option.map_eq_some_iff.1 h;cases u<;>simp at b;rw[Op.equalIn];simp[c,go_sem]
def rJ(a b:eH):Bool:=fK b.S (b.P - 1).toNat&&((b.E==a.E+1)&&((iB a.S b.S 5==0)||((iB a.S b.S 5==1)&&((iB b.S a.S 5==0)&&(a.P==b.P)))))
def O7(a b:eH)(w:World)(d:0<=a.S/\a.S<=31)(f:0<=b.S/\b.S<=31)(c:0<=a.E/\a.E<=10000000000000)(e:1<=b.P/\b.P<=5):
  Calls pG 84 #[.agg #[I a.E,I a.P,I a.S],.agg #[I b.E,I b.P,I b.S]] w λr w'=>r=.returned (.bool (rJ a b))/\Below w.heap.size w w':=LQ a.E a.P a.S b.E b.P b.S w d f c e
def OA:∃a c b:Field,(Tryz.prog.fieldsOf 66).toList=[a,c,b]/\¬a.name = "_" /\a.type=3/\a.offset=0/\¬c.name = "_" /\c.type=3/\c.offset=1/\¬b.name = "_" /\b.type=3/\b.offset=2:=by have h:(Tryz.prog.fieldsOf 66).toList.map (λf=>((f.name== "_"),f.type,f.offset))=[(false,3,0),(false,3,1),(false,3,2)]:=kG;obtain⟨a,q,i,g,k⟩:=List.map_eq_cons_iff.1 h;obtain⟨c,r,m,d,o⟩:=List.map_eq_cons_iff.1 k;obtain⟨b,n,p,e,j⟩:=List.map_eq_cons_iff.1 o;have l:n=[]:=List.map_eq_nil_iff.1 j;simp only[Prod.mk.injEq]at g d e;refine⟨a,c,b,by rw[i,m,p,l],by simpa using g.1,g.2.1,g.2.2,by simpa using d.1,d.2.1,d.2.2,by simpa using e.1,e.2.1,e.2.2⟩
def OB:Tryz.prog.underlying 66=Y (.struct (Tryz.prog.fieldsOf 66)):=kG
def OC:Tryz.prog.stoodInHeld 66=false:=kG
def EK(c a1 e d a b:Int)(w:World):(Op.equal 66 (.agg #[I c,I a1,I e]) (.agg #[I d,I a,I b])).run pG w=.ok ((c==d)&&(a1==a)&&(e==b)) w:=by obtain⟨y,A,z,f,u,q,m,o,j,x,t,h,p⟩:=OA;show(Op.equalIn 10000 66 _ _).run _ _=_;rw[run_equalIn_struct w 9999 66 _ _ OB OC,f];have n:(part 3 #[Value.int .i64 c,Value.int .i64 a1,Value.int .i64 e] 0).run pG w=.ok (I c) w:=jH (w:=w) _ 0 _ rfl;have i:(part 3 #[Value.int .i64 d,Value.int .i64 a,Value.int .i64 b] 0).run pG w=.ok (I d) w:=jH (w:=w) _ 0 _ rfl;have g:(part 3 #[Value.int .i64 c,Value.int .i64 a1,Value.int .i64 e] 1).run pG w=.ok (I a1) w:=jH (w:=w) _ 1 _ rfl;have r:(part 3 #[Value.int .i64 d,Value.int .i64 a,Value.int .i64 b] 1).run pG w=.ok (I a) w:=jH (w:=w) _ 1 _ rfl;have p2:(part 3 #[Value.int .i64 c,Value.int .i64 a1,Value.int .i64 e] 2).run pG w=.ok (I e) w:=jH (w:=w) _ 2 _ rfl;have v:(part 3 #[Value.int .i64 d,Value.int .i64 a,Value.int .i64 b] 2).run pG w=.ok (I b) w:=jH (w:=w) _ 2 _ rfl;simp only[Op.eqFields,q,m,n,i,j,x,g,r,h,p,p2,v,Sem.run_bind,Sem.run_ite,Result.andThen_ok,run_equalIn_int w 9998 3 .i64 .i64 _ _ underlying3];by_cases l:c=d<;>by_cases s:a1=a<;>by_cases k:e=b<;>simp[l,u,s,o,k,t]
def D7(a a1 e d c b:Int)(w:World):(binOp .neq 66 (.agg #[I a,I a1,I e]) (.agg #[I d,I c,I b])).run pG w=.ok (.bool (!((a==d)&&(a1==c)&&(e==b)))) w:=by simp only[binOp];simp[EK]
def CS.nd(s:CS)(i:Nat):AG.Nd:=s.ns.getD i (AG.Nd.first 0 0 0)
def CS.tell(s:CS)(i:Nat):CS:=match (s.nd i).res with
 | []=>s
 | r::_=>match s.ops.findIdx? (mF i (s.lv.getD i 0) r.op) with
  |none=>s
  |some p=>{s with ops:=s.ops.set p {s.ops.getD p ⟨0,0,0,0,0,false,false,0,0⟩ with dn:=true},rs:=s.rs++[r],rd:=s.rd++[(s.ops.getD p ⟨0,0,0,0,0,false,false,0,0⟩).rd]}
def CS.look(s:CS)(i:Nat):CS:={s.tell i with ns:=s.ns.set i {s.nd i with res:=[]},kn:=s.kn.set i ((s.nd i).d.recs.length:Int),hi:=s.hi++(s.nd i).d.recs.drop s.hi.length}
structure qE(s:CS)(i:Nat):Prop where
 res:(s.nd i).res=[]∨∃r p,(s.nd i).res=[r]/\s.ops.findIdx? (mF i (s.lv.getD i 0) r.op)=some p/\∃hp:p<s.ops.length,(s.ops[p].dn=false/\(decide (s.ops[p].e<r.e)||((r.e==s.ops[p].e)&&decide (s.ops[p].q<r.q)))=true/\r.bl=s.ops[p].bl/\(s.ops[p].rd=false->r.v=s.ops[p].v))/\(s.ops[p].rd=true->r.v=0∨∃o∈s.ops,pN r o=true)
 kn:s.kn.getD i 0<=(s.nd i).d.recs.length
 hl:(s.nd i).d.recs.length<=s.hi.length+1
 h0:0<s.hi.length
 eq:∀k (h1:k<(s.nd i).d.recs.length) (h2:k<s.hi.length),(s.nd i).d.recs[k]=s.hi[k]
 be:∀(h1:s.hi.length<(s.nd i).d.recs.length),rJ ((s.nd i).d.recs[s.hi.length-1]' oG) (s.nd i).d.recs[s.hi.length]=true
 rg:∀k (h1:k<(s.nd i).d.recs.length),(0<=(s.nd i).d.recs[k].S/\(s.nd i).d.recs[k].S<=31)/\(0<=(s.nd i).d.recs[k].E/\(s.nd i).d.recs[k].E<=10000000000000)/\(1<=k->1<=(s.nd i).d.recs[k].P/\(s.nd i).d.recs[k].P<=5)
 bd:s.ops.length<=100000000/\s.rs.length<=100000000/\s.rd.length<=100000000/\s.hi.length<=100000000
section
variable {w w':World} {Wc base t:Nat} {v:Nat->Value} {f:Bool} {hs:List Ho} {s:CS}
def dR.ones(h:dR w Wc base t v f hs s){k:Nat}(b:k∈eR)(d:0<rN hs s k):∃g a,v k=J (Y ⟨g,0,Z⟩) (rN hs s k) a/\w.cell? ⟨Wc,k,Z⟩=Y (J (Y ⟨g,0,Z⟩) (rN hs s k) a)/\g<w.heap.size/\∀j u,(rX hs s k)[j]?=Y u->w.cell? ⟨g,j,Z⟩=Y u:=by obtain⟨g,a,e,c,i⟩:=(eL.gy (h.row k b)).at d;exact⟨g,a,e,by rw[←e];exact h.cell b,c,i⟩
def CS.lg{s:CS}{i:Nat}(h:i<s.ns.length):s.nd i=s.ns[i]:=by unfold CS.nd;rw[List.getD_eq_getElem?_getD,List.getElem?_eq_getElem h];rfl
def dR.iw{i:Nat}(h:dR w Wc base t v f hs s)(hi:i<hs.length)(a:i<s.ns.length){n':AG.Nd}(d:fO w' hs[i].Kn hs[i].P t hs[i].C hs[i].left n')(g:dP (wK hs[i].C hs[i].Kn) (wK hs[i].C hs[i].Kn) w w')(b:n'.id=s.ns[i].id/\n'.nodes=s.ns[i].nodes/\n'.nb=s.ns[i].nb):dR w' Wc base t v f hs {s with ns:=s.ns.set i n'}/\Below base w w':=by have c:=h.call (t':=t) hi a r_ d g b;have e:hs.set i {hs[i] with C:=hs[i].C,left:=hs[i].left}=hs:=List.set_getElem_self hi;rw[e]at c;exact c
end
end Go.Proofs.YtdcainmlcpafbaaGreatDoor
