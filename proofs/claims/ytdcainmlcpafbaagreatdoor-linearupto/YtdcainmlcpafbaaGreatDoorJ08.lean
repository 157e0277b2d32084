import Derived.Test.YtdcainmlcpafbaaGreatDoorJ07
import Derived.Maps.AppendAt
import Derived.Lib.AppendStr
import Derived.Lib.Builder
set_option linter.all false
set_option maxHeartbeats 8000000
set_option maxRecDepth 20000
namespace Go.Proofs.YtdcainmlcpafbaaGreatDoor
open Go.RowKit
open Value renaming slice->J,pointer->P0
open Tryz
open Tryz renaming prog->pG
open IntKind renaming i64->T
open Option renaming none->Z,some->Y
open Obj renaming cells->G
open Value (bool)
def kH(r:eH):dK:=⟨6,0,r.E - 1,0,0,r.P,r.S,0,0,0,none,0,[]⟩
def EQ(x:dK):(dK.cells x).length=11:=rfl
def wS:(Tryz.prog.info? 136).map (λi=>(i.zero,i.size,i.bytes))=Y (Y (.agg mz),11,104):=kG
def GK(b:Nat)(w:World):Calls pG 261 #[.map (Y b)] w λe w'=>e=.returned (Value.func (Fn.func 268) #[] #[P0 (Y ⟨w.heap.size,0,Z⟩)])/\w'=w.alloc (G #[Value.map (Y b)] 193):=by go_enter func261,ntmps261;go_wp2;go_ret;exact⟨rfl,rfl⟩
def kW(e:Int)(x:PV):dK:=⟨3,0,e,x.ac,0,x.pm,x.st,0,0,0,none,0,[]⟩
def kX(e:Int)(x:PV):dK:=⟨1,0,e,x.pr,0,0,0,0,0,0,none,0,[]⟩
def VM.lookF{w:World}{B:Nat}{l:List (Int×PV)}(h:VM w B l)(e:Int):∀w',w'.heap[B]?=w.heap[B]?->(Instr.lookup 193 (.map (Y B)) (.agg #[I e]) false).run pG w'=.ok (.agg #[I (dH l e).pr,I (dH l e).ac,I (dH l e).pm,I (dH l e).st]) w':=λw' a=>(h.same a).look e
def SD.msgs(d:SD)(ks:List Int)(za:Option Addr)(zc:Nat):List dK:=d.recs.tail.map kH++ks.flatMap (λe=>[kW e (dH d.dw e),kX e (dH d.dw e)])++[⟨9,0,d.seen,0,0,0,0,d.last,0,0,za,zc,[d.b0,d.b1,d.b2,d.b3]⟩]
def CK{α β:Type}(f g:α->β):∀l:List α,(l.flatMap (λe=>[f e,g e])).length=2*l.length
 | []=>rfl
 |x::l=>by have:=CK f g l;simp only[List.flatMap_cons,List.length_append,List.length_cons,List.length_nil,this];omega
def tX(d:SD)(a:List Int)(c:Option Addr)(b:Nat):(d.msgs a c b).length=(d.recs.length - 1)+2*a.length+1:=by unfold SD.msgs;rw[List.length_append,List.length_append,CK];simp
def ID(d:SD)(b:List Int)(c:Option Addr)(a:Nat):(d.msgs b c a).flatMap dK.cells=d.recs.tail.flatMap (λr=>(kH r).cells)++b.flatMap (λe=>(kW e (dH d.dw e)).cells++(kX e (dH d.dw e)).cells)++dK.cells ⟨9,0,d.seen,0,0,0,0,d.last,0,0,c,a,[d.b0,d.b1,d.b2,d.b3]⟩:=by
 unfold SD.msgs;rw[List.flatMap_append,List.flatMap_append];congr 1
 ·congr 1;·rw[List.flatMap_map]
  ·rw[List.flatMap_assoc];simp
def tY{w:World}{base:Nat}{e:Option Addr}{rc:Nat}{b:List Int}(h:fI w base (J e b.length rc) b):fB w e b/\∀c,e=Y c->base<=c.block:=by
 by_cases k:b=[]
 ·subst k;refine⟨.inl rfl,?_⟩;rcases h.2 with⟨n,_⟩|⟨g,i,l,f,d,_⟩;·cases n;intro c a;cases a
  ·cases f;intro c a;cases a;exact d
 ·have m:0<b.length:=List.length_pos_iff.2 k;obtain⟨g,i,f,d,o⟩:=(eL.gy h).at m;cases f;refine⟨.inr ⟨g,0,rfl,d,λj p=>?_⟩,λc a=>by cases a;exact(h.lt g (by simp[Value.ownBlock])).1⟩;rw[Nat.zero_add];exact o j _ (by simp[p])
def I7{d:SD}{i:List Int}{f:Option Addr}{g base:Nat}{w:World}(h:fI w base (J f 4 g) [d.b0,d.b1,d.b2,d.b3]):∀m∈d.msgs i f g,fB w m.a m.zs:=by
 intro m b;unfold SD.msgs at b;rcases List.mem_append.1 b with b|b
 ·rcases List.mem_append.1 b with b|b;·obtain⟨r,_,rfl⟩:=List.mem_map.1 b;exact .inl rfl
  ·obtain⟨e,_,c⟩:=List.mem_flatMap.1 b;simp at c;rcases c with rfl|rfl<;>exact .inl rfl
 ·simp at b;subst b;exact(tY h).1
def KW{d:SD}{o:List Int}{i:Option Addr}{k base:Nat}{w:World}(h:fI w base (J i 4 k) [d.b0,d.b1,d.b2,d.b3]):∀m∈d.msgs o i k,∀g,m.a=Y g->∃c,w.heap[g.block]?=Y (.cells c 3 (0,0)):=by
 intro m b g f;unfold SD.msgs at b;rcases List.mem_append.1 b with b|b
 ·rcases List.mem_append.1 b with b|b;·obtain⟨r,_,rfl⟩:=List.mem_map.1 b;cases f
  ·obtain⟨e,_,j⟩:=List.mem_flatMap.1 b;simp at j;rcases j with rfl|rfl<;>cases f
 ·simp at b;subst b;rcases h.2 with⟨l,_⟩|⟨g',q,c,p,_,n,_⟩;·cases l
  ·cases p;cases f;exact⟨c,n⟩
def oT{w w':World}{g:Nat}(h:w'.heap[g]?=w.heap[g]?)(j:Nat):w'.cell? ⟨g,j,Z⟩=w.cell? ⟨g,j,Z⟩:=by simp only[World.cell?,h]
def sO(m:dK):∀u∈m.cells,u.oneCell'=true:=by intro u a;simp[dK.cells]at a;rcases a with rfl|rfl|rfl|rfl|rfl|rfl|rfl|rfl|rfl|rfl|rfl<;>rfl
def rY(w:World)(B:Nat)(c:B=w.heap.size)(cs:List Value)(t:TypeId):∀j u,cs[j]?=Y u->(w.alloc (G cs.toArray t)).cell? ((⟨B,0,Z⟩:Addr).add j)=Y u:=by
 subst c;intro j u d;have b:=(dC.new w cs.toArray t).cell j;rw[List.getElem?_toArray,d]at b;rw[←b];unfold Addr.add;by_cases a:j=0;·subst a;rfl
 ·rw[if_neg a];simp
def AN(hSO:fA)(low St:Nat)(d:SD)(vr:Value)(Mp D:Nat)(w:World)(h:eE w low St d vr Mp D)(aX:0<d.recs.length)(bo:d.recs.length<=10000000)(bu:d.dw.length<=10000000)(aU:∀r∈d.recs,0<=r.E/\r.E<=10000000000000):Calls pG 257 #[P0 (Y ⟨St,0,Z⟩)] w λr w'=>∃a c f za U,r=.returned (J a (d.msgs f za U).length c)/\f.Perm (d.dw.map (·.1))/\w'.ownsRow w.heap.size 136 11 (J a (d.msgs f za U).length c) (d.msgs f za U).length ((d.msgs f za U).flatMap dK.cells)/\(∀m∈d.msgs f za U,fB w' m.a m.zs)/\(∀m∈d.msgs f za U,∀ad,m.a=Y ad->∃ai,w'.heap[ad.block]?=Y (.cells ai 3 (0,0)))/\Below w.heap.size w w':=by
 obtain⟨i0,aw,al,ay,au⟩:=info_parts wS;obtain⟨g,aN,hv,H,hc⟩:=(eL.gy h.rcs).at aX;subst hv;have c1:=h.blk.cell 1;have c2:=h.blk.cell 2;simp at c1 c2;have a1:=h.blk.lt;have HS:=dA h;have HC:=dA hc;have aR:=dA aU;have aC:d.recs.length<=aN:=by
  rcases h.rcs.2 with⟨h0,_⟩|⟨g',aJ,ai,h1,h2,h3,h4,_⟩;·cases h0
  ·cases h1;exact h4
 have a2:aN<=maxLen:=by
  rcases h.rcs.2 with⟨h0,_⟩|⟨g',aJ,ai,h1,h2,h3,h4,h5,_⟩;·cases h0
  ·cases h1;exact h5
 unfold maxLen at a2;clear h hc aU;go_enter func257,ntmps257;go_upto_region 2 with fail;go_cut [13,14,15] (λs13 s14 s15 wx=>∃o c',s13=J (Y ⟨g,o,Z⟩) (d.recs.length - 1) c'/\s14=I ((d.recs.length - 1:Nat):Int)/\s15=I 0/\(d.recs.length=1∨o=3)/\wx=w);case first=>
  go_wp2;·go_meet;case rel=>exact⟨_,_,rfl,rfl,rfl,.inl oG,rfl⟩
  ·go_meet;case rel=>exact⟨_,_,rfl,rfl,rfl,.inr rfl,rfl⟩
 case rest=>
  obtain⟨o,c',rfl,rfl,rfl,ho,rfl⟩:=hcut;clear aC a2;have HO:=dA ho;clear ho;go_wp2;go_loopw [3,15] (λs3 s15 wr=>∃t:Nat,t<=d.recs.length - 1/\s15=I (t:Int)/\wr.ownsRow wc.heap.size 136 11 s3 t ((d.recs.tail.take t).flatMap (λr=>(kH r).cells))/\Below wc.heap.size wc wr) (λs3 s15 wr=>d.recs.length - 1 - (intOf s15).toNat);case atStart=>exact⟨0,Nat.zero_le _,rfl,World.ownsRow_nil _ _ _ _,Below.refl _ _⟩
  case round=>
   obtain⟨t,ht,rfl,l,x⟩:=hrel;by_cases br:t<d.recs.length - 1
   ·have a0:o=3:=by rcases HO.out with q|q<;>omega
    subst a0;have hi:t+1<d.recs.length:=oG;have v:∀k,k<3->wr.cell? ⟨g,3+t*3+k,Z⟩=Y ((eH.cells d.recs[t+1]).getD k undef):=by intro k hk;have q:=HC.out _ _ (kE eH.cells 3 tF d.recs (t+1) hi k hk);rw[←q,show(t+1)*3+k=3+t*3+k by omega];exact x.cell (p:=⟨g,3+t*3+k,Z⟩) H
    have j0:=v 0 oG;have j1:=v 1 oG;have j2:=v 2 oG;simp[eH.cells]at j0 j1 j2;have hE:=aR.out d.recs[t+1] (List.getElem_mem hi);have X:(d.recs.tail.take (t+1)).flatMap (λr=>(kH r).cells)=(d.recs.tail.take t).flatMap (λr=>(kH r).cells)++(kH d.recs[t+1]).cells:=by rw[List.take_succ_eq_append_getElem (by simp;omega),List.flatMap_append];simp
    have ag:=dA X;clear v X;obtain⟨va,vc,rfl⟩:=dZ l;have HR:=dA l;have az:=dA x;have a3:=x.size;have bf:(t:Int)<((d.recs.length - 1:Nat):Int):=oG;clear l x c1 c2;generalize d.recs[t+1]=R at*;have HW:Hid (Below wc.heap.size wc ((wr.alloc (G #[I R.E,I R.P,I R.S] 66)).alloc (G (mA 6 0 (R.E - 1) 0 0 R.P R.S 0 0 0 (J Z 0 0)) 136))):=(az.alloc a3 _).alloc (by simp;omega) _;go_wp2_with(at_builtin;go_loud (refine wpList_append_own _ rfl _ _ 22 rfl wc.heap.size 136 i0 (.agg mz) 11 104 underlying22 aw al ay au rfl dG _ t _ rfl (World.ownsRow.alloc (World.ownsRow.alloc HR _) _) ⟨wr.heap.size+1,0,Z⟩ 1 1 (kH R).cells rfl rfl ?c1 ?c2 ?c3 ?c4 ?c5 ?_));case c1=>exact λj u hu=>hu
    case c2=>exact sO (kH R)
    case c3=>unfold maxLen;omega
    case c4=>omega
    case c5=>first|omega|(simp;omega)
    intro v' w2 W B aD;have aj:Below wc.heap.size wc w2:=HW.grown B HW.size (λk e=>(HR.lt k e).1);rw[←ag.out]at W;go_wp2_with fail;go_roundw;case rel=>exact⟨t+1,oG,by go_num,W,aj⟩
    case measure=>simp[intOf];omega
   ·have aZ:t=d.recs.length - 1:=oG;have Q:d.recs.tail.take t=d.recs.tail:=List.take_of_length_le (by simp;omega);rw[Q]at l;have bf:¬(t:Int)<((d.recs.length - 1:Nat):Int):=oG;obtain⟨va,vc,rfl⟩:=dZ l;have HR:=dA l;have az:=dA x;have a3:=x.size;have aK:wr.cell? ⟨St,2,Z⟩=Y (.map (Y Mp)):=(x.cell (p:=⟨St,2,Z⟩) a1).trans c2;have HV:=dA (HS.jb.later x);clear l x c1 c2 Q aZ;go_upto_region 8 with(first|(go_at_call 261;refine(GK Mp wr).mono ?_;rintro r w1 ⟨rfl,rfl⟩)|(go_at_call 260;refine(hSO wr.heap.size Mp d.dw (wr.alloc (G #[Value.map (Y Mp)] 193)) oG sG sG (HV.later (a_ _ _))).mono ?_;rintro r w1 ⟨v2,f,rfl,aE,af,aF,aT⟩;obtain⟨ka,kc,rfl⟩:=af.shape));have bg:=dA af;have M:Below wr.heap.size wr w1:=(a_ wr (G #[Value.map (Y Mp)] 193)).trans (aT.mono sG);have bc:=dA M;have bb:Hid (w1.ownsRow wc.heap.size 136 11 (J va t vc) t (d.recs.tail.flatMap (λr=>(kH r).cells))):=dQ HR (λg H=>M.block g (HR.lt g H).2);have ax:=dA (HV.later M);have aQ:Hid (Below wc.heap.size wc w1):=az.trans (M.mono a3);have bq:f.length<=10000000:=by have:=aE.length_eq;simp at this;omega
    have an:w1.cell? ⟨St,2,Z⟩=Y (.map (Y Mp)):=(M.cell (p:=⟨St,2,Z⟩) (Nat.lt_of_lt_of_le a1 a3)).trans aK;have ab:St<w1.heap.size:=Nat.lt_of_lt_of_le a1 aQ.size;have b5:∀g,(J va t vc).ownBlock=Y g->g<wr.heap.size:=λg H=>(HR.lt g H).2;have bt:=bc.size;have aS:∀ad,ka=Y ad->wr.heap.size<=ad.block:=λad hh=>by subst hh;have:=aF _ _ _ rfl;simp at this;omega
    generalize wr.heap.size=N0 at*;have aA:∀A,dM (λg=>wc.heap.size<=g/\g<N0) w1 A->∀j (hj:j<f.length),∃kg,ka=Y ⟨kg,0,Z⟩/\A.cell? ⟨kg,j,Z⟩=Y (I f[j]):=by intro A b4 j hj;obtain⟨kg,bs,h1,h2,h3⟩:=bg.at oG;cases h1;have aW:=aS _ rfl;refine⟨kg,rfl,Eq.trans ?_ (h3 j _ (by simp[hj]))⟩;exact oT (b4.block kg h2 (λq=>by simp at aW;omega)) j
    have av:=dA aA;clear af aT M aA aK HR HV HC HO aR aS aF;have bl:Mp<wc.heap.size:=HS.jb.lt;have be:=dA HS.blk;clear HS;go_loopw [3,38] (λs3 s38 A=>∃i:Nat,i<=f.length/\s38=I (i:Int)/\A.ownsRow wc.heap.size 136 11 s3 (t+2*i) (d.recs.tail.flatMap (λr=>(kH r).cells)++(f.take i).flatMap (λe=>(kW e (dH d.dw e)).cells++(kX e (dH d.dw e)).cells))/\Below wc.heap.size wc A/\dM (λg=>wc.heap.size<=g/\g<N0) w1 A/\(∀g,s3.ownBlock=Y g->g<N0∨w1.heap.size<=g)) (λs3 s38 A=>f.length - (intOf s38).toNat);case atStart=>exact⟨0,Nat.zero_le _,rfl,by simpa using bb.out,aQ,dM.refl _ _,λg H=>.inl (b5 g H)⟩
    case round=>
     obtain⟨i,bp,rfl,b,z,y,ar⟩:=hrel;by_cases ae:i<f.length
     ·obtain⟨kg,rfl,b9⟩:=av.out _ y i ae;have X:(f.take (i+1)).flatMap (λe=>(kW e (dH d.dw e)).cells++(kX e (dH d.dw e)).cells)=(f.take i).flatMap (λe=>(kW e (dH d.dw e)).cells++(kX e (dH d.dw e)).cells)++((kW f[i] (dH d.dw f[i])).cells++(kX f[i] (dH d.dw f[i])).cells):=by rw[List.take_succ_eq_append_getElem ae,List.flatMap_append];simp
      have ag:=dA X;have a4:=(ax.same (y.block Mp ax.lt (λq=>oG))).lookF f[i];clear X;obtain⟨aq,ak,rfl⟩:=dZ b;have L:=dA b;have a5:=dA z;have s:=dA y;have aG:=dA ar;have b7:wr.cell? ⟨St,2,Z⟩=Y (.map (Y Mp)):=(oT (y.block St ab (λq=>oG)) 2).trans an;have C:St<wr.heap.size:=Nat.lt_of_lt_of_le ab y.size;have V:Mp<wr.heap.size:=Nat.lt_of_lt_of_le ax.lt y.size;have bm:=y.size;have bk:(i:Int)<(f.length:Int):=oG;have aH:=z.size;clear b z y an av ar;generalize f[i]=ke at*;have aI:=a4 (wr.alloc (G #[I ke] 321)) (heap_alloc_old _ _ V);have aB:=a4 (wr.alloc (G #[I ke] 321)).drew (heap_alloc_old _ _ V);have aM:=a4 ((wr.alloc (G #[I ke] 321)).alloc (G #[I 0,I 0,I 0,I 0] 284)).drew ((heap_alloc_old _ _ (by simp;omega)).trans (heap_alloc_old _ _ V));clear a4;generalize dH d.dw ke=O at*;go_upto_region 10 with fail;go_cut [8] from 42 to 47 (λs8 wx=>s8=P0 (Y ⟨wr.heap.size+1,0,Z⟩)/\wx=((wr.alloc (G #[I ke] 321)).alloc (G #[I O.pr,I O.ac,I O.pm,I O.st] 284)).drew);case first=>go_region;all_goals(go_wp2_with fail;go_meet;exact⟨rfl,rfl⟩)
      case rest=>
       obtain⟨rfl,rfl⟩:=hcut;clear aI aB aM b9 b7;go_wp2_with(at_builtin;go_loud (refine wpList_append_own_at _ rfl _ _ 22 rfl wc.heap.size 136 i0 (.agg mz) 11 104 underlying22 aw al ay au rfl dG _ (t+2*i) _ rfl (World.ownsRow.alloc (World.ownsRow.alloc (World.ownsRow.alloc L _) _).drew _) ⟨wr.heap.size+1+1,0,Z⟩ 2 2 ((kW ke O).cells++(kX ke O).cells) rfl rfl ?c1 ?c2 ?c3 ?c4 ?c5 ?_));case c1=>exact rY ((wr.alloc (G #[I ke] 321)).alloc (G #[I O.pr,I O.ac,I O.pm,I O.st] 284)) (wr.heap.size+1+1) sG ((kW ke O).cells++(kX ke O).cells) 136
       case c2=>intro u hu;rcases List.mem_append.1 hu with q|q<;>exact sO _ u q
       case c3=>unfold maxLen;omega
       case c4=>omega
       case c5=>first|omega|(simp;omega)
       intro v' w2 W B aD bj;have aj:Below wc.heap.size wc w2:=Below.grown (Below.alloc (Below.drew (Below.alloc (Below.alloc a5 a5.size _) (by simp;omega) _)) (by simp;omega) _) B (by simp;omega) (λk e=>(L.lt k e).1);have bd:dM (λg=>wc.heap.size<=g/\g<N0) w1 w2:=by
        refine⟨B.os.trans s.os,B.tape.trans s.tape,B.output.trans s.output,Nat.le_trans s.size (Nat.le_trans (by simp;omega) B.size),λk hk hA=>?_⟩;have b8:k<wr.heap.size:=Nat.lt_of_lt_of_le hk s.size;refine(B.block k (by simp;omega) (λq=>?_)).trans (((heap_alloc_old _ _ (by simp;omega)).trans ((heap_alloc_old _ _ (by simp;omega)).trans (heap_alloc_old _ _ b8))).trans (s.block k hk hA));have ba:=(L.lt k q.symm).1;rcases aG.out k q.symm with aP|aP;·exact hA ⟨ba,aP⟩
        ·omega
       have bi:∀g,v'.ownBlock=Y g->g<N0∨w1.heap.size<=g:=by
        intro g a8;rcases bj with q|q;·rw[q]at a8;exact aG.out g a8
        ·rw[q]at a8;simp at a8;omega
       have ap:t+2*i+2=t+2*(i+1):=oG;rw[ap,←ag.out]at W;go_wp2_with fail;go_roundw;case rel=>exact⟨i+1,oG,by go_num,W,aj,bd,bi⟩
       case measure=>simp[intOf];omega
     ·have aa:f.take i=f:=List.take_of_length_le oG;rw[aa]at b;obtain⟨aq,ak,rfl⟩:=dZ b;have L:=dA b;have a5:=dA z;have C:St<wr.heap.size:=Nat.lt_of_lt_of_le a1 z.size;have n:=dA (be.low z a1);have bk:¬(i:Int)<(f.length:Int):=oG;have aH:=z.size;clear b z y an av ar aa;go_upto_region 13 with fail;have e3:=n.cell 3;have e4:=n.cell 4;have e5:=n.cell 5;have e6:=n.cell 6;have e7:=n.cell 7;have e8:=n.cell 8;simp at e3 e4 e5 e6 e7 e8;refine eY (S:=(λw'=>w'.cell? ⟨St,7,Z⟩=Y (I d.seen)/\w'.cell? ⟨St,8,Z⟩=Y (I d.last))) λ_=>?_;refine tk 0 ?_;refine tk 1 ?_;refine tk 2 ?_;refine tk 3 ?_;refine tk 4 ?_;refine tk 5 ?_;refine tk 6 ?_;refine tk 7 ?_;refine tk 8 ?_;refine tk 9 ?_;refine tk 10 ?_;refine tk 11 ?_;refine tk 12 ?_;refine tk 13 ?_;refine tk 14 ?_;refine dF 15 λK F=>?_;(try go_simp);go_at_call 263;refine(IB St d.b0 d.b1 d.b2 d.b3 wr.drew e3 e4 e5 e6 (by exact C)).mono ?_;rintro r w3 ⟨v3,rfl,a0,N⟩;obtain⟨za,U,rfl⟩:=dZ a0;have z7:w3.cell? ⟨St,7,Z⟩=Y (I d.seen):=(N.cell (p:=⟨St,7,Z⟩) C).trans e7;have z8:w3.cell? ⟨St,8,Z⟩=Y (I d.last):=(N.cell (p:=⟨St,8,Z⟩) C).trans e8;have a6:Hid (w3.ownsRow wc.heap.size 136 11 (J aq (t+2*i) ak) (t+2*i) _):=dQ L.drew (λg H=>N.block g (L.lt g H).2);have a7:=dA a0;have aL:Hid (Below wc.heap.size wc w3):=a5.drew.trans (N.mono aH);have bn:wr.heap.size<=w3.heap.size:=N.size;clear a0 N;refine k1 F λ_=>?_;clear F K;refine dF 16 λK F=>?_;(try go_simp);refine k1 F λ_=>?_;clear F K;refine dF 17 λK F=>?_;(try go_simp);refine k1 F λ_=>?_;clear F K;refine dF 18 λK F=>?_;refine iX rfl (.tmp 66) (.tmp 83) 22 rfl wc.heap.size 136 i0 (.agg mz) 11 104 underlying22 aw al ay au rfl dG (J aq (t+2*i) ak) (t+2*i) _ eG (World.ownsRow.alloc a6 _) ⟨w3.heap.size,0,Z⟩ 1 1 (dK.cells ⟨9,0,d.seen,0,0,0,0,d.last,0,0,za,U,[d.b0,d.b1,d.b2,d.b3]⟩) oG eG rfl (rY w3 w3.heap.size rfl _ 136) (sO _) xG oG (by simp;omega) ?_;intro v5 w5 ah a9 ao;have am:w5.heap[St]?=w3.heap[St]?:=(a9.block St (by simp;omega) (λq=>by have:=(a6.lt St q.symm).1;omega)).trans (heap_alloc_old _ _ oG);have y7:w5.cell? ⟨St,7,Z⟩=Y (I d.seen):=(oT am 7).trans z7;have y8:w5.cell? ⟨St,8,Z⟩=Y (I d.last):=(oT am 8).trans z8;obtain⟨wa,aY,rfl⟩:=dZ ah;have b6:=dA ah;have bh:Hid (Below wc.heap.size wc w5):=Below.grown (aL.alloc aL.size _) a9 (by simp;omega) (λk e=>(a6.lt k e).1);have aO:Hid (fI w5 wr.heap.size (J za 4 U) [d.b0,d.b1,d.b2,d.b3]):=dQ a7 (λg H=>(a9.block g (by have:=(a7.lt g H).2;simp;omega) (λq=>vV a7 a6 dG g H q.symm)).trans (heap_alloc_old _ _ (a7.lt g H).2));clear ah a9 ao am;refine k1 F λ_=>?_;clear F K;refine dF 19 λK F=>?_;(try go_simp);refine k1 F λ_=>?_;clear F K;refine dn ?_;go_wp2;go_ret;have aV:(d.msgs f za U).length=t+2*i+1:=by rw[tX];omega
      refine⟨wa,aY,f,za,U,?_,aE,?_,?_,KW aO,bh⟩;·rw[aV];rfl
      ·rw[aV,ID];exact b6
      ·exact I7 aO
def fC:Prop:=∀(B b:Nat) (l:List UInt8) (s:ByteArray) (w:World),Lib.IsBuilder 352 5 B b (iA l) w->l.length+s.size<=140737488355328->B<=w.heap.size->
  Calls pG 264 #[P0 (Y ⟨b,0,Z⟩),.string s] w λe w'=>e=.returned (.tuple #[I s.size,.nilIface])/\Lib.IsBuilder 352 5 B b (iA (l++s.data.toList)) w'/\Below B w w'
def I8:Prop:=∀(B b:Nat) (l:List UInt8) (w:World),Lib.IsBuilder 352 5 B b (iA l) w->B<=w.heap.size->
  Calls pG 265 #[P0 (Y ⟨b,0,Z⟩)] w λe w'=>e=.returned (.string (dE l))/\Below B w w'
def dT:List UInt8:=[106,111,117,114,110,97,108,46,110,101,119]
def IsB.later{B b:Nat}{a:List Value}{w w':World}(h:Lib.IsBuilder 352 5 B b a w)(e:Below w.heap.size w w'):Lib.IsBuilder 352 5 B b a w':=by
 have one:∀p,Lib.BuilderAt 352 5 B b p a w->Lib.BuilderAt 352 5 B b p a w':=by rintro p ⟨i,v,c,d,f⟩;exact⟨i,v,(e.block b (Array.getElem?_eq_some_iff.1 c).1).trans c,dQ d (λg j=>e.block g (d.lt g j).2),f⟩
 exact h.imp (one _) (one _)
def zW(l:List UInt8):(dE l).data.toList=l:=by simp[dE]
def Fz{fs:List FD}{a:List UInt8}(h:dX fs a=none):gU fs a=none/\eB fs a=fs:=by
 unfold dX at h;rw[List.find?_eq_none]at h;refine⟨?_,?_⟩;·unfold gU;rw[List.findIdx?_eq_none_iff];intro x b;simpa using h x b
 ·unfold eB;rw[List.filter_eq_self];intro x b;simpa using h x b
def ME:∃a c b d:Field,(Tryz.prog.fieldsOf 284).toList=[a,c,b,d]/\¬a.name = "_" /\a.type=3/\a.offset=0/\¬c.name = "_" /\c.type=3/\c.offset=1/\¬b.name = "_" /\b.type=3/\b.offset=2/\¬d.name = "_" /\d.type=3/\d.offset=3:=by have h:(Tryz.prog.fieldsOf 284).toList.map (λf=>((f.name== "_"),f.type,f.offset))=[(false,3,0),(false,3,1),(false,3,2),(false,3,3)]:=kG;obtain⟨a,u,k,i,m⟩:=List.map_eq_cons_iff.1 h;obtain⟨c,v,p,e,r⟩:=List.map_eq_cons_iff.1 m;obtain⟨b,w,s,g,l⟩:=List.map_eq_cons_iff.1 r;obtain⟨d,t,q,j,n⟩:=List.map_eq_cons_iff.1 l;have o:t=[]:=List.map_eq_nil_iff.1 n;simp only[Prod.mk.injEq]at i e g j;refine⟨a,c,b,d,by rw[k,p,s,q,o],by simpa using i.1,i.2.1,i.2.2,by simpa using e.1,e.2.1,e.2.2,by simpa using g.1,g.2.1,g.2.2,by simpa using j.1,j.2.1,j.2.2⟩
def MF:Tryz.prog.underlying 284=Y (.struct (Tryz.prog.fieldsOf 284)):=kG
def MG:Tryz.prog.stoodInHeld 284=false:=kG
def NG(f a1 g d c a e b:Int)(w:World):(Op.equal 284 (.agg #[I f,I a1,I g,I d]) (.agg #[I c,I a,I e,I b])).run pG w=.ok ((f==c)&&(a1==a)&&(g==e)&&(d==b)) w:=by obtain⟨H,K,L,M,v,r,u,B,D,y,t,E,i,s,n,j,z⟩:=ME;show(Op.equalIn 10000 284 _ _).run _ _=_;rw[run_equalIn_struct w 9999 284 _ _ MF MG,v];have C:(part 3 #[Value.int .i64 f,Value.int .i64 a1,Value.int .i64 g,Value.int .i64 d] 0).run pG w=.ok (I f) w:=jH (w:=w) _ 0 _ rfl;have k:(part 3 #[Value.int .i64 c,Value.int .i64 a,Value.int .i64 e,Value.int .i64 b] 0).run pG w=.ok (I c) w:=jH (w:=w) _ 0 _ rfl;have x:(part 3 #[Value.int .i64 f,Value.int .i64 a1,Value.int .i64 g,Value.int .i64 d] 1).run pG w=.ok (I a1) w:=jH (w:=w) _ 1 _ rfl;have o:(part 3 #[Value.int .i64 c,Value.int .i64 a,Value.int .i64 e,Value.int .i64 b] 1).run pG w=.ok (I a) w:=jH (w:=w) _ 1 _ rfl;have p2:(part 3 #[Value.int .i64 f,Value.int .i64 a1,Value.int .i64 g,Value.int .i64 d] 2).run pG w=.ok (I g) w:=jH (w:=w) _ 2 _ rfl;have F:(part 3 #[Value.int .i64 c,Value.int .i64 a,Value.int .i64 e,Value.int .i64 b] 2).run pG w=.ok (I e) w:=jH (w:=w) _ 2 _ rfl;have h:(part 3 #[Value.int .i64 f,Value.int .i64 a1,Value.int .i64 g,Value.int .i64 d] 3).run pG w=.ok (I d) w:=jH (w:=w) _ 3 _ rfl;have q:(part 3 #[Value.int .i64 c,Value.int .i64 a,Value.int .i64 e,Value.int .i64 b] 3).run pG w=.ok (I b) w:=jH (w:=w) _ 3 _ rfl;simp only[Op.eqFields,u,B,C,k,y,t,x,o,i,s,p2,F,j,z,h,q,Sem.run_bind,Sem.run_ite,Result.andThen_ok,run_equalIn_int w 9998 3 .i64 .i64 _ _ underlying3];by_cases m:f=c<;>by_cases p:a1=a<;>by_cases l:g=e<;>by_cases A:d=b<;>simp[m,r,p,D,l,E,A,n]
def CL(a a1 d f c b e g:Int)(w:World):(binOp .neq 284 (.agg #[I a,I a1,I d,I f]) (.agg #[I c,I b,I e,I g])).run pG w=.ok (.bool (!((a==c)&&(a1==b)&&(d==e)&&(f==g)))) w:=by simp only[binOp];simp[NG]
def NH:∃b a:Field,(Tryz.prog.fieldsOf 196).toList=[b,a]/\¬b.name = "_" /\b.type=3/\b.offset=0/\¬a.name = "_" /\a.type=3/\a.offset=1:=by have h:(Tryz.prog.fieldsOf 196).toList.map (λf=>((f.name== "_"),f.type,f.offset))=[(false,3,0),(false,3,1)]:=kG;obtain⟨b,m,e,d,k⟩:=List.map_eq_cons_iff.1 h;obtain⟨a,i,g,c,j⟩:=List.map_eq_cons_iff.1 k;have l:i=[]:=List.map_eq_nil_iff.1 j;simp only[Prod.mk.injEq]at d c;refine⟨b,a,by rw[e,g,l],by simpa using d.1,d.2.1,d.2.2,by simpa using c.1,c.2.1,c.2.2⟩
def NI:Tryz.prog.underlying 196=Y (.struct (Tryz.prog.fieldsOf 196)):=kG
def NJ:Tryz.prog.stoodInHeld 196=false:=kG
def OY(c a1 b a:Int)(w:World):(Op.equal 196 (.agg #[I c,I a1]) (.agg #[I b,I a])).run pG w=.ok ((c==b)&&(a1==a)) w:=by obtain⟨q,r,k,h,i,n,p,m,j⟩:=NH;show(Op.equalIn 10000 196 _ _).run _ _=_;rw[run_equalIn_struct w 9999 196 _ _ NI NJ,k];have o:(part 3 #[Value.int .i64 c,Value.int .i64 a1] 0).run pG w=.ok (I c) w:=jH (w:=w) _ 0 _ rfl;have d:(part 3 #[Value.int .i64 b,Value.int .i64 a] 0).run pG w=.ok (I b) w:=jH (w:=w) _ 0 _ rfl;have l:(part 3 #[Value.int .i64 c,Value.int .i64 a1] 1).run pG w=.ok (I a1) w:=jH (w:=w) _ 1 _ rfl;have f:(part 3 #[Value.int .i64 b,Value.int .i64 a] 1).run pG w=.ok (I a) w:=jH (w:=w) _ 1 _ rfl;simp only[Op.eqFields,i,n,o,d,m,j,l,f,Sem.run_bind,Sem.run_ite,Result.andThen_ok,run_equalIn_int w 9998 3 .i64 .i64 _ _ underlying3];by_cases e:c=b<;>by_cases g:a1=a<;>simp[e,h,g,p]
def xM(a a1 c b:Int)(w:World):(binOp .neq 196 (.agg #[I a,I a1]) (.agg #[I c,I b])).run pG w=.ok (.bool (!((a==c)&&(a1==b)))) w:=by simp only[binOp];simp[OY]
end Go.Proofs.YtdcainmlcpafbaaGreatDoor
