import Derived.Test.YtdcainmlcpafbaaGreatDoorJ07
import Derived.Maps.AppendAt
import Derived.Lib.AppendStr
import Derived.Lib.Builder
set_option linter.all false
set_option maxHeartbeats 8000000
set_option maxRecDepth 20000
namespace Go.Proofs.YtdcainmlcpafbaaGreatDoor
open Go.RowKit
open Value renaming slice->J,pointer->P0
open Tryz
open Tryz renaming prog->pG
open IntKind renaming i64->T
open Option renaming none->Z,some->Y
open Obj renaming cells->G
open Value (bool)
def kM(r:eM):dN:=⟨6,0,r.E - 1,0,0,r.P,r.S,0,0,0,none,0,[]⟩
def F3(x:dN):(dN.cells x).length=11:=rfl
def xQ:(Tryz.prog.info? 136).map (λi=>(i.zero,i.size,i.bytes))=Y (Y (.agg mz),11,104):=kG
def IN(b:Nat)(w:World):Calls pG 261 #[.map (Y b)] w λe w'=>e=.returned (Value.func (Fn.func 268) #[] #[P0 (Y ⟨w.1.size,0,Z⟩)])/\w'=w.alloc (G #[Value.map (Y b)] 193):=by go_enter func261,ntmps261;go_wp2;go_ret;exact⟨rfl,rfl⟩
def lC(e:Int)(x:PV):dN:=⟨3,0,e,x.ac,0,x.pm,x.st,0,0,0,none,0,[]⟩
def lD(e:Int)(x:PV):dN:=⟨1,0,e,x.pr,0,0,0,0,0,0,none,0,[]⟩
def VM.lookF{w:World}{B:Nat}{l:List (Int×PV)}(h:VM w B l)(e:Int):∀w',w'.1[B]?=w.1[B]?->(Instr.lookup 193 (.map (Y B)) (.agg #[I e]) false).run pG w'=.ok (.agg #[I (dJ l e).pr,I (dJ l e).ac,I (dJ l e).pm,I (dJ l e).st]) w':=λw' a=>(h.same a).look e
def SD.jb(d:SD)(ks:List Int)(za:Option Addr)(zc:Nat):List dN:=d.recs.tail.map kM++ks.flatMap (λe=>[lC e (dJ d.3 e),lD e (dJ d.3 e)])++[⟨9,0,d.seen,0,0,0,0,d.last,0,0,za,zc,[d.b0,d.b1,d.b2,d.b3]⟩]
def DP{α β:Type}(f g:α->β):∀l:List α,(l.flatMap (λe=>[f e,g e])).length=2*l.length
 | []=>rfl
 |x::l=>by have:=DP f g l;simp only[List.flatMap_cons,List.length_append,List.length_cons,List.length_nil,this];omega
def xD(d:SD)(a:List Int)(c:Option Addr)(b:Nat):(d.jb a c b).length=(d.recs.length - 1)+2*a.length+1:=by unfold SD.jb;rw[List.length_append,List.length_append,DP];simp
def JK(d:SD)(b:List Int)(c:Option Addr)(a:Nat):(d.jb b c a).flatMap dN.cells=d.recs.tail.flatMap (λr=>(kM r).cells)++b.flatMap (λe=>(lC e (dJ d.3 e)).cells++(lD e (dJ d.3 e)).cells)++dN.cells ⟨9,0,d.seen,0,0,0,0,d.last,0,0,c,a,[d.b0,d.b1,d.b2,d.b3]⟩:=by
 unfold SD.jb;rw[List.flatMap_append,List.flatMap_append];congr 1
 ·congr 1;·rw[List.flatMap_map]
  ·rw[List.flatMap_assoc];simp
def uK{w:World}{base:Nat}{e:Option Addr}{rc:Nat}{b:List Int}(h:fU w base (J e b.length rc) b):fK w e b/\∀c,e=Y c->base<=c.block:=by
 by_cases k:b=[]
 ·subst k;refine⟨.inl rfl,?_⟩;rcases h.2 with⟨n,_⟩|⟨g,i,l,f,d,_⟩;·cases n;intro c a;cases a
  ·cases f;intro c a;cases a;exact d
 ·have m:0<b.length:=List.length_pos_iff.2 k;obtain⟨g,i,f,d,o⟩:=(fM.ig h).at m;cases f;refine⟨.inr ⟨g,0,rfl,d,λj p=>?_⟩,λc a=>by cases a;exact(h.lt g (by simp[Value.ownBlock])).1⟩;rw[Nat.zero_add];exact o j _ (by simp[p])
def KD{d:SD}{i:List Int}{f:Option Addr}{g base:Nat}{w:World}(h:fU w base (J f 4 g) [d.b0,d.b1,d.b2,d.b3]):∀m∈d.jb i f g,fK w m.a m.zs:=by
 intro m b;unfold SD.jb at b;rcases List.mem_append.1 b with b|b
 ·rcases List.mem_append.1 b with b|b;·obtain⟨r,_,rfl⟩:=List.mem_map.1 b;exact .inl rfl
  ·obtain⟨e,_,c⟩:=List.mem_flatMap.1 b;simp at c;rcases c with rfl|rfl<;>exact .inl rfl
 ·simp at b;subst b;exact(uK h).1
def MF{d:SD}{o:List Int}{i:Option Addr}{k base:Nat}{w:World}(h:fU w base (J i 4 k) [d.b0,d.b1,d.b2,d.b3]):∀m∈d.jb o i k,∀g,m.a=Y g->∃c,w.1[g.block]?=Y (.cells c 3 (0,0)):=by
 intro m b g f;unfold SD.jb at b;rcases List.mem_append.1 b with b|b
 ·rcases List.mem_append.1 b with b|b;·obtain⟨r,_,rfl⟩:=List.mem_map.1 b;cases f
  ·obtain⟨e,_,j⟩:=List.mem_flatMap.1 b;simp at j;rcases j with rfl|rfl<;>cases f
 ·simp at b;subst b;rcases h.2 with⟨l,_⟩|⟨s,q,c,p,_,n,_⟩;·cases l
  ·cases p;cases f;exact⟨c,n⟩
def qC{w w':World}{g:Nat}(h:w'.1[g]?=w.1[g]?)(j:Nat):w'.cell? ⟨g,j,Z⟩=w.cell? ⟨g,j,Z⟩:=by simp only[World.cell?,h]
def tG(m:dN):∀u∈m.cells,u.oneCell'=true:=by intro u a;simp[dN.cells]at a;rcases a with rfl|rfl|rfl|rfl|rfl|rfl|rfl|rfl|rfl|rfl|rfl<;>rfl
def sS(w:World)(B:Nat)(c:B=w.1.size)(cs:List Value)(t:TypeId):∀j u,cs[j]?=Y u->(w.alloc (G cs.toArray t)).cell? ((⟨B,0,Z⟩:Addr).add j)=Y u:=by
 subst c;intro j u d;have b:=(dI.new w cs.toArray t).cell j;rw[List.getElem?_toArray,d]at b;rw[←b];unfold Addr.add;by_cases a:j=0;·subst a;rfl
 ·rw[if_neg a];simp
def BT(hSO:fB)(low St:Nat)(d:SD)(vr:Value)(Mp D:Nat)(w:World)(h:eI w low St d vr Mp D)(aW:0<d.recs.length)(bn:d.recs.length<=30000000)(bt:d.3.length<=30000000)(aT:∀r∈d.recs,0<=r.E/\r.E<=10000000000000):Calls pG 257 #[P0 (Y ⟨St,0,Z⟩)] w λr w'=>∃a c f za Q,r=.returned (J a (d.jb f za Q).length c)/\f.Perm (d.3.map (·.1))/\w'.ownsRow w.1.size 136 11 (J a (d.jb f za Q).length c) (d.jb f za Q).length ((d.jb f za Q).flatMap dN.cells)/\(∀m∈d.jb f za Q,fK w' m.a m.zs)/\(∀m∈d.jb f za Q,∀ad,m.a=Y ad->∃ah,w'.1[ad.block]?=Y (.cells ah 3 (0,0)))/\Bw w w':=by
 obtain⟨i0,av,ak,ax,ar⟩:=info_parts xQ;obtain⟨g,aM,hv,F,hc⟩:=(fM.ig h.ji).at aW;subst hv;have c1:=h.blk.cell 1;have c2:=h.blk.cell 2;simp at c1 c2;have a0:=h.blk.lt;have HS:=dF h;have HC:=dF hc;have aQ:=dF aT;have aB:d.recs.length<=aM:=by
  rcases h.ji.2 with⟨h0,_⟩|⟨g',aI,ah,h1,h2,h3,h4,_⟩;·cases h0
  ·cases h1;exact h4
 have a1:aM<=maxLen:=by
  rcases h.ji.2 with⟨h0,_⟩|⟨g',aI,ah,h1,h2,h3,h4,h5,_⟩;·cases h0
  ·cases h1;exact h5
 unfold maxLen at a1;clear h hc aT;go_enter func257,ntmps257;go_upto_region 2 with fail;go_cut [13,14,15] (λs13 s14 s15 wx=>∃o c',s13=J (Y ⟨g,o,Z⟩) (d.recs.length - 1) c'/\s14=I ((d.recs.length - 1:Nat):Int)/\s15=I 0/\(d.recs.length=1∨o=3)/\wx=w);case first=>
  go_wp2;·go_meet;case rel=>exact⟨_,_,rfl,rfl,rfl,.inl oG,rfl⟩
  ·go_meet;case rel=>exact⟨_,_,rfl,rfl,rfl,.inr rfl,rfl⟩
 case rest=>
  obtain⟨o,c',rfl,rfl,rfl,ho,rfl⟩:=hcut;clear aB a1;have HO:=dF ho;clear ho;go_wp2;go_loopw [3,15] (λs3 s15 wr=>∃t:Nat,t<=d.recs.length - 1/\s15=I (t:Int)/\wr.ownsRow wc.1.size 136 11 s3 t ((d.recs.tail.take t).flatMap (λr=>(kM r).cells))/\Bw wc wr) (λs3 s15 wr=>d.recs.length - 1 - (intOf s15).toNat);case atStart=>exact⟨0,Nat.zero_le _,rfl,World.ownsRow_nil _ _ _ _,Below.refl _ _⟩
  case round=>
   obtain⟨t,ht,rfl,l,x⟩:=hrel;by_cases bq:t<d.recs.length - 1
   ·have X:o=3:=by rcases HO.out with q|q<;>omega
    subst X;have hi:t+1<d.recs.length:=oG;have v:∀k,k<3->wr.cell? ⟨g,3+t*3+k,Z⟩=Y ((eM.cells d.recs[t+1]).getD k undef):=by intro k hk;have q:=HC.out _ _ (lY eM.cells 3 tT d.recs (t+1) hi k hk);rw[←q,show(t+1)*3+k=3+t*3+k by omega];exact x.cell (p:=⟨g,3+t*3+k,Z⟩) F
    have j0:=v 0 oG;have j1:=v 1 oG;have j2:=v 2 oG;simp[eM.cells]at j0 j1 j2;have hE:=aQ.out d.recs[t+1] (List.getElem_mem hi);have W:(d.recs.tail.take (t+1)).flatMap (λr=>(kM r).cells)=(d.recs.tail.take t).flatMap (λr=>(kM r).cells)++(kM d.recs[t+1]).cells:=by rw[List.take_succ_eq_append_getElem nG,List.flatMap_append];simp
    have af:=dF W;clear v W;obtain⟨va,vc,rfl⟩:=eK l;have HR:=dF l;have ay:=dF x;have a2:=x.size;have be:(t:Int)<((d.recs.length - 1:Nat):Int):=oG;clear l x c1 c2;generalize d.recs[t+1]=R at*;have HW:Hid (Bw wc ((wr.alloc (G #[I R.E,I R.P,I R.S] 66)).alloc (G (mA 6 0 (R.E - 1) 0 0 R.P R.S 0 0 0 (J Z 0 0)) 136))):=(ay.alloc a2 _).alloc nG _;go_wp2_with(at_builtin;go_loud (refine wpList_append_own _ rfl _ _ 22 rfl wc.1.size 136 i0 (.agg mz) 11 104 underlying22 av ak ax ar rfl dG _ t _ rfl (World.ownsRow.alloc (World.ownsRow.alloc HR _) _) ⟨wr.1.size+1,0,Z⟩ 1 1 (kM R).cells rfl rfl ?c1 ?c2 ?c3 ?c4 ?c5 ?_));case c1=>exact λj u hu=>hu
    case c2=>exact tG (kM R)
    case c3=>unfold maxLen;omega
    case c4=>omega
    case c5=>first|omega|(simp;omega)
    intro v' w2 V B aC;have ai:Bw wc w2:=HW.grown B HW.size (λk e=>(HR.lt k e).1);rw[←af.out]at V;go_wp2_with fail;go_roundw;case rel=>exact⟨t+1,oG,by go_num,V,ai⟩
    case measure=>simp[intOf];omega
   ·have aY:t=d.recs.length - 1:=oG;have O:d.recs.tail.take t=d.recs.tail:=List.take_of_length_le nG;rw[O]at l;have be:¬(t:Int)<((d.recs.length - 1:Nat):Int):=oG;obtain⟨va,vc,rfl⟩:=eK l;have HR:=dF l;have ay:=dF x;have a2:=x.size;have aJ:wr.cell? ⟨St,2,Z⟩=Y (.map (Y Mp)):=(x.cell (p:=⟨St,2,Z⟩) a0).trans c2;have HV:=dF (HS.jg.later x);clear l x c1 c2 O aY;go_upto_region 8 with(first|(go_at_call 261;refine(IN Mp wr).mono ?_;rintro r w1 ⟨rfl,rfl⟩)|(go_at_call 260;refine(hSO wr.1.size Mp d.3 (wr.alloc (G #[Value.map (Y Mp)] 193)) oG sG sG (HV.later (a_ _ _))).mono ?_;rintro r w1 ⟨v2,f,rfl,aD,ae,aE,aS⟩;obtain⟨ka,kc,rfl⟩:=ae.shape));have bf:=dF ae;have L:Bw wr w1:=((Below.refl wr.1.size wr).alloc r_ (G #[Value.map (Y Mp)] 193)).trans (aS.mono sG);have bb:=dF L;have ba:Hid (w1.ownsRow wc.1.size 136 11 (J va t vc) t (d.recs.tail.flatMap (λr=>(kM r).cells))):=dW HR (λg F=>L.block g (HR.lt g F).2);have aw:=dF (HV.later L);have aP:Hid (Bw wc w1):=ay.trans (L.mono a2);have bp:f.length<=30000000:=by have:=aD.length_eq;simp at this;omega
    have am:w1.cell? ⟨St,2,Z⟩=Y (.map (Y Mp)):=(L.cell (p:=⟨St,2,Z⟩) (Nat.lt_of_lt_of_le a0 a2)).trans aJ;have aa:St<w1.1.size:=Nat.lt_of_lt_of_le a0 aP.size;have b4:∀g,(J va t vc).ownBlock=Y g->g<wr.1.size:=λg F=>(HR.lt g F).2;have bs:=bb.size;have aR:∀ad,ka=Y ad->wr.1.size<=ad.block:=λad hh=>by subst hh;have:=aE _ _ _ rfl;simp at this;omega
    generalize wr.1.size=N0 at*;have az:∀A,dQ (λg=>wc.1.size<=g/\g<N0) w1 A->∀j (hj:j<f.length),∃kg,ka=Y ⟨kg,0,Z⟩/\A.cell? ⟨kg,j,Z⟩=Y (I f[j]):=by intro A aZ j hj;obtain⟨kg,br,h1,h2,h3⟩:=bf.at oG;cases h1;have aV:=aR _ rfl;refine⟨kg,rfl,Eq.trans ?_ (h3 j _ (by simp[hj]))⟩;exact qC (aZ.block kg h2 (λq=>by simp at aV;omega)) j
    have au:=dF az;clear ae aS L az aJ HR HV HC HO aQ aR aE;have bk:Mp<wc.1.size:=HS.jg.lt;have bd:=dF HS.blk;clear HS;go_loopw [3,38] (λs3 s38 A=>∃i:Nat,i<=f.length/\s38=I (i:Int)/\A.ownsRow wc.1.size 136 11 s3 (t+2*i) (d.recs.tail.flatMap (λr=>(kM r).cells)++(f.take i).flatMap (λe=>(lC e (dJ d.3 e)).cells++(lD e (dJ d.3 e)).cells))/\Bw wc A/\dQ (λg=>wc.1.size<=g/\g<N0) w1 A/\(∀g,s3.ownBlock=Y g->g<N0∨w1.1.size<=g)) (λs3 s38 A=>f.length - (intOf s38).toNat);case atStart=>exact⟨0,Nat.zero_le _,rfl,by simpa using ba.out,aP,dQ.refl _ _,λg F=>.inl (b4 g F)⟩
    case round=>
     obtain⟨i,bo,rfl,b,z,y,aq⟩:=hrel;by_cases ab:i<f.length
     ·obtain⟨kg,rfl,b8⟩:=au.out _ y i ab;have W:(f.take (i+1)).flatMap (λe=>(lC e (dJ d.3 e)).cells++(lD e (dJ d.3 e)).cells)=(f.take i).flatMap (λe=>(lC e (dJ d.3 e)).cells++(lD e (dJ d.3 e)).cells)++((lC f[i] (dJ d.3 f[i])).cells++(lD f[i] (dJ d.3 f[i])).cells):=by rw[List.take_succ_eq_append_getElem ab,List.flatMap_append];simp
      have af:=dF W;have a3:=(aw.same (y.block Mp aw.lt (λq=>oG))).lookF f[i];clear W;obtain⟨ap,aj,rfl⟩:=eK b;have H:=dF b;have a4:=dF z;have s:=dF y;have aF:=dF aq;have b6:wr.cell? ⟨St,2,Z⟩=Y (.map (Y Mp)):=(qC (y.block St aa (λq=>oG)) 2).trans am;have C:St<wr.1.size:=Nat.lt_of_lt_of_le aa y.size;have U:Mp<wr.1.size:=Nat.lt_of_lt_of_le aw.lt y.size;have bl:=y.size;have bj:(i:Int)<(f.length:Int):=oG;have aG:=z.size;clear b z y am au aq;generalize f[i]=ke at*;have aH:=a3 (wr.alloc (G #[I ke] 321)) (heap_alloc_old _ _ U);have aA:=a3 (wr.alloc (G #[I ke] 321)).drew (heap_alloc_old _ _ U);have aL:=a3 ((wr.alloc (G #[I ke] 321)).alloc (G #[I 0,I 0,I 0,I 0] 284)).drew ((heap_alloc_old _ _ nG).trans (heap_alloc_old _ _ U));clear a3;generalize dJ d.3 ke=N at*;go_upto_region 10 with fail;go_cut [8] from 42 to 47 (λs8 wx=>s8=P0 (Y ⟨wr.1.size+1,0,Z⟩)/\wx=((wr.alloc (G #[I ke] 321)).alloc (G #[I N.pr,I N.ac,I N.pm,I N.st] 284)).drew);case first=>go_region;all_goals(go_wp2_with fail;go_meet;exact⟨rfl,rfl⟩)
      case rest=>
       obtain⟨rfl,rfl⟩:=hcut;clear aH aA aL b8 b6;go_wp2_with(at_builtin;go_loud (refine wpList_append_own_at _ rfl _ _ 22 rfl wc.1.size 136 i0 (.agg mz) 11 104 underlying22 av ak ax ar rfl dG _ (t+2*i) _ rfl (World.ownsRow.alloc (World.ownsRow.alloc (World.ownsRow.alloc H _) _).drew _) ⟨wr.1.size+1+1,0,Z⟩ 2 2 ((lC ke N).cells++(lD ke N).cells) rfl rfl ?c1 ?c2 ?c3 ?c4 ?c5 ?_));case c1=>exact sS ((wr.alloc (G #[I ke] 321)).alloc (G #[I N.pr,I N.ac,I N.pm,I N.st] 284)) (wr.1.size+1+1) sG ((lC ke N).cells++(lD ke N).cells) 136
       case c2=>intro u hu;rcases List.mem_append.1 hu with q|q<;>exact tG _ u q
       case c3=>unfold maxLen;omega
       case c4=>omega
       case c5=>first|omega|(simp;omega)
       intro v' w2 V B aC bi;have ai:Bw wc w2:=Below.grown (Below.alloc (Below.drew (Below.alloc (Below.alloc a4 a4.size _) nG _)) nG _) B nG (λk e=>(H.lt k e).1);have bc:dQ (λg=>wc.1.size<=g/\g<N0) w1 w2:=by
        refine⟨B.os.trans s.os,B.tape.trans s.tape,B.output.trans s.output,Nat.le_trans s.size (Nat.le_trans nG B.size),λk hk hA=>?_⟩;have b7:k<wr.1.size:=Nat.lt_of_lt_of_le hk s.size;refine(B.block k nG (λq=>?_)).trans (((heap_alloc_old _ _ nG).trans ((heap_alloc_old _ _ nG).trans (heap_alloc_old _ _ b7))).trans (s.block k hk hA));have b9:=(H.lt k q.symm).1;rcases aF.out k q.symm with aO|aO;·exact hA ⟨b9,aO⟩
        ·omega
       have bh:∀g,v'.ownBlock=Y g->g<N0∨w1.1.size<=g:=by
        intro g a7;rcases bi with q|q;·rw[q]at a7;exact aF.out g a7
        ·rw[q]at a7;simp at a7;omega
       have ao:t+2*i+2=t+2*(i+1):=oG;rw[ao,←af.out]at V;go_wp2_with fail;go_roundw;case rel=>exact⟨i+1,oG,by go_num,V,ai,bc,bh⟩
       case measure=>simp[intOf];omega
     ·have a9:f.take i=f:=List.take_of_length_le oG;rw[a9]at b;obtain⟨ap,aj,rfl⟩:=eK b;have H:=dF b;have a4:=dF z;have C:St<wr.1.size:=Nat.lt_of_lt_of_le a0 z.size;have n:=dF (bd.low z a0);have bj:¬(i:Int)<(f.length:Int):=oG;have aG:=z.size;clear b z y am au aq a9;go_upto_region 13 with fail;have e3:=n.cell 3;have e4:=n.cell 4;have e5:=n.cell 5;have e6:=n.cell 6;have e7:=n.cell 7;have e8:=n.cell 8;simp at e3 e4 e5 e6 e7 e8;refine eZ (S:=(λw'=>w'.cell? ⟨St,7,Z⟩=Y (I d.seen)/\w'.cell? ⟨St,8,Z⟩=Y (I d.last))) λ_=>?_;refine tk 0 ?_;refine tk 1 ?_;refine tk 2 ?_;refine tk 3 ?_;refine tk 4 ?_;refine tk 5 ?_;refine tk 6 ?_;refine tk 7 ?_;refine tk 8 ?_;refine tk 9 ?_;refine tk 10 ?_;refine tk 11 ?_;refine tk 12 ?_;refine tk 13 ?_;refine tk 14 ?_;refine dT 15 λK hK=>?_;(try go_simp);go_at_call 263;refine(JI St d.b0 d.b1 d.b2 d.b3 wr.drew e3 e4 e5 e6 (by exact C)).mono ?_;rintro r w3 ⟨v3,rfl,X,M⟩;obtain⟨za,Q,rfl⟩:=eK X;have z7:w3.cell? ⟨St,7,Z⟩=Y (I d.seen):=(M.cell (p:=⟨St,7,Z⟩) C).trans e7;have z8:w3.cell? ⟨St,8,Z⟩=Y (I d.last):=(M.cell (p:=⟨St,8,Z⟩) C).trans e8;have a5:Hid (w3.ownsRow wc.1.size 136 11 (J ap (t+2*i) aj) (t+2*i) _):=dW H.drew (λg F=>M.block g (H.lt g F).2);have a6:=dF X;have aK:Hid (Bw wc w3):=a4.drew.trans (M.mono aG);have bm:wr.1.size<=w3.1.size:=M.size;clear X M;refine kr hK 16 λK hK=>?_;(try go_simp);refine kr hK 17 λK hK=>?_;(try go_simp);refine kr hK 18 λK hK=>?_;refine lG rfl (.tmp 66) (.tmp 83) 22 rfl wc.1.size 136 i0 (.agg mz) 11 104 underlying22 av ak ax ar rfl dG (J ap (t+2*i) aj) (t+2*i) _ eG (World.ownsRow.alloc a5 _) ⟨w3.1.size,0,Z⟩ 1 1 (dN.cells ⟨9,0,d.seen,0,0,0,0,d.last,0,0,za,Q,[d.b0,d.b1,d.b2,d.b3]⟩) oG eG rfl (sS w3 w3.1.size rfl _ 136) (tG _) xG oG nG ?_;intro v5 w5 ag a8 an;have al:w5.1[St]?=w3.1[St]?:=(a8.block St nG (λq=>by have:=(a5.lt St q.symm).1;omega)).trans (heap_alloc_old _ _ oG);have y7:w5.cell? ⟨St,7,Z⟩=Y (I d.seen):=(qC al 7).trans z7;have y8:w5.cell? ⟨St,8,Z⟩=Y (I d.last):=(qC al 8).trans z8;obtain⟨wa,aX,rfl⟩:=eK ag;have b5:=dF ag;have bg:Hid (Bw wc w5):=Below.grown (aK.alloc aK.size _) a8 nG (λk e=>(a5.lt k e).1);have aN:Hid (fU w5 wr.1.size (J za 4 Q) [d.b0,d.b1,d.b2,d.b3]):=dW a6 (λg F=>(a8.block g (by have:=(a6.lt g F).2;simp;omega) (λq=>wP a6 a5 dG g F q.symm)).trans (heap_alloc_old _ _ (a6.lt g F).2));clear ag a8 an al;refine kr hK 19 λK hK=>?_;(try go_simp);refine kd hK ?_;go_wp2;go_ret;have aU:(d.jb f za Q).length=t+2*i+1:=by rw[xD];omega
      refine⟨wa,aX,f,za,Q,?_,aD,?_,?_,MF aN,bg⟩;·rw[aU];rfl
      ·rw[aU,JK];exact b5
      ·exact KD aN
def fH:Prop:=∀(B b:Nat) (l:List UInt8) (s:ByteArray) (w:World),Lib.IsBuilder 352 5 B b (iD l) w->l.length+s.size<=140737488355328->B<=w.1.size->
  Calls pG 264 #[P0 (Y ⟨b,0,Z⟩),.string s] w λe w'=>e=.returned (.tuple #[I s.size,.nilIface])/\Lib.IsBuilder 352 5 B b (iD (l++s.data.toList)) w'/\Below B w w'
def KE:Prop:=∀(B b:Nat) (l:List UInt8) (w:World),Lib.IsBuilder 352 5 B b (iD l) w->B<=w.1.size->
  Calls pG 265 #[P0 (Y ⟨b,0,Z⟩)] w λe w'=>e=.returned (.string (dL l))/\Below B w w'
def eJ:List UInt8:=[106,111,117,114,110,97,108,46,110,101,119]
def IsB.later{B b:Nat}{a:List Value}{w w':World}(h:Lib.IsBuilder 352 5 B b a w)(e:Bw w w'):Lib.IsBuilder 352 5 B b a w':=by
 have one:∀p,Lib.BuilderAt 352 5 B b p a w->Lib.BuilderAt 352 5 B b p a w':=by rintro p ⟨i,v,c,d,f⟩;exact⟨i,v,(e.block b (Array.getElem?_eq_some_iff.1 c).1).trans c,dW d (λg j=>e.block g (d.lt g j).2),f⟩
 exact h.imp (one _) (one _)
def AX(l:List UInt8):(dL l).data.toList=l:=by simp[dL]
def G7{fs:List FD}{a:List UInt8}(h:dX fs a=none):gX fs a=none/\eC fs a=fs:=by
 unfold dX at h;rw[List.find?_eq_none]at h;refine⟨?_,?_⟩;·unfold gX;rw[List.findIdx?_eq_none_iff];intro x b;simpa using h x b
 ·unfold eC;rw[List.filter_eq_self];intro x b;simpa using h x b
def N6:∃a c b d:Field,(Tryz.prog.fieldsOf 284).toList=[a,c,b,d]/\¬a.name = "_" /\a.type=3/\a.offset=0/\¬c.name = "_" /\c.type=3/\c.offset=1/\¬b.name = "_" /\b.type=3/\b.offset=2/\¬d.name = "_" /\d.type=3/\d.offset=3:=by have h:(Tryz.prog.fieldsOf 284).toList.map (λf=>((f.name== "_"),f.type,f.offset))=[(false,3,0),(false,3,1),(false,3,2),(false,3,3)]:=kG;obtain⟨a,u,k,i,m⟩:=List.map_eq_cons_iff.1 h;obtain⟨c,v,p,e,r⟩:=List.map_eq_cons_iff.1 m;obtain⟨b,w,s,g,l⟩:=List.map_eq_cons_iff.1 r;obtain⟨d,t,q,j,n⟩:=List.map_eq_cons_iff.1 l;have o:t=[]:=List.map_eq_nil_iff.1 n;simp only[Prod.mk.injEq]at i e g j;refine⟨a,c,b,d,by rw[k,p,s,q,o],by simpa using i.1,i.2.1,i.2.2,by simpa using e.1,e.2.1,e.2.2,by simpa using g.1,g.2.1,g.2.2,by simpa using j.1,j.2.1,j.2.2⟩
def N7:Tryz.prog.underlying 284=Y (.struct (Tryz.prog.fieldsOf 284)):=kG
def N9:Tryz.prog.stoodInHeld 284=false:=kG
def PF(f a1 g d c a e b:Int)(w:World):(Op.equal 284 (.agg #[I f,I a1,I g,I d]) (.agg #[I c,I a,I e,I b])).run pG w=.ok ((f==c)&&(a1==a)&&(g==e)&&(d==b)) w:=by obtain⟨H,K,L,M,v,r,u,B,D,y,t,E,i,s,n,j,z⟩:=N6;show(Op.equalIn 10000 284 _ _).run _ _=_;rw[run_equalIn_struct w 9999 284 _ _ N7 N9,v];have C:(part 3 #[Value.int .i64 f,Value.int .i64 a1,Value.int .i64 g,Value.int .i64 d] 0).run pG w=.ok (I f) w:=jL (w:=w) _ 0 _ rfl;have k:(part 3 #[Value.int .i64 c,Value.int .i64 a,Value.int .i64 e,Value.int .i64 b] 0).run pG w=.ok (I c) w:=jL (w:=w) _ 0 _ rfl;have x:(part 3 #[Value.int .i64 f,Value.int .i64 a1,Value.int .i64 g,Value.int .i64 d] 1).run pG w=.ok (I a1) w:=jL (w:=w) _ 1 _ rfl;have o:(part 3 #[Value.int .i64 c,Value.int .i64 a,Value.int .i64 e,Value.int .i64 b] 1).run pG w=.ok (I a) w:=jL (w:=w) _ 1 _ rfl;have p2:(part 3 #[Value.int .i64 f,Value.int .i64 a1,Value.int .i64 g,Value.int .i64 d] 2).run pG w=.ok (I g) w:=jL (w:=w) _ 2 _ rfl;have F:(part 3 #[Value.int .i64 c,Value.int .i64 a,Value.int .i64 e,Value.int .i64 b] 2).run pG w=.ok (I e) w:=jL (w:=w) _ 2 _ rfl;have h:(part 3 #[Value.int .i64 f,Value.int .i64 a1,Value.int .i64 g,Value.int .i64 d] 3).run pG w=.ok (I d) w:=jL (w:=w) _ 3 _ rfl;have q:(part 3 #[Value.int .i64 c,Value.int .i64 a,Value.int .i64 e,Value.int .i64 b] 3).run pG w=.ok (I b) w:=jL (w:=w) _ 3 _ rfl;simp only[Op.eqFields,u,B,C,k,y,t,x,o,i,s,p2,F,j,z,h,q,Sem.run_bind,Sem.run_ite,Result.andThen_ok,run_equalIn_int w 9998 3 .i64 .i64 _ _ underlying3];by_cases m:f=c<;>by_cases p:a1=a<;>by_cases l:g=e<;>by_cases A:d=b<;>simp[m,r,p,D,l,E,A,n]
def DQ(a a1 d f c b e g:Int)(w:World):(binOp .neq 284 (.agg #[I a,I a1,I d,I f]) (.agg #[I c,I b,I e,I g])).run pG w=.ok (.bool (!((a==c)&&(a1==b)&&(d==e)&&(f==g)))) w:=by simp only[binOp];simp[PF]
def PG:∃b a:Field,(Tryz.prog.fieldsOf 196).toList=[b,a]/\¬b.name = "_" /\b.type=3/\b.offset=0/\¬a.name = "_" /\a.type=3/\a.offset=1:=by have h:(Tryz.prog.fieldsOf 196).toList.map (λf=>((f.name== "_"),f.type,f.offset))=[(false,3,0),(false,3,1)]:=kG;obtain⟨b,m,e,d,k⟩:=List.map_eq_cons_iff.1 h;obtain⟨a,i,g,c,j⟩:=List.map_eq_cons_iff.1 k;have l:i=[]:=List.map_eq_nil_iff.1 j;simp only[Prod.mk.injEq]at d c;refine⟨b,a,by rw[e,g,l],by simpa using d.1,d.2.1,d.2.2,by simpa using c.1,c.2.1,c.2.2⟩
def PH:Tryz.prog.underlying 196=Y (.struct (Tryz.prog.fieldsOf 196)):=kG
def PI:Tryz.prog.stoodInHeld 196=false:=kG
def QZ(c a1 b a:Int)(w:World):(Op.equal 196 (.agg #[I c,I a1]) (.agg #[I b,I a])).run pG w=.ok ((c==b)&&(a1==a)) w:=by obtain⟨q,r,k,h,i,n,p,m,j⟩:=PG;show(Op.equalIn 10000 196 _ _).run _ _=_;rw[run_equalIn_struct w 9999 196 _ _ PH PI,k];have o:(part 3 #[Value.int .i64 c,Value.int .i64 a1] 0).run pG w=.ok (I c) w:=jL (w:=w) _ 0 _ rfl;have d:(part 3 #[Value.int .i64 b,Value.int .i64 a] 0).run pG w=.ok (I b) w:=jL (w:=w) _ 0 _ rfl;have l:(part 3 #[Value.int .i64 c,Value.int .i64 a1] 1).run pG w=.ok (I a1) w:=jL (w:=w) _ 1 _ rfl;have f:(part 3 #[Value.int .i64 b,Value.int .i64 a] 1).run pG w=.ok (I a) w:=jL (w:=w) _ 1 _ rfl;simp only[Op.eqFields,i,n,o,d,m,j,l,f,Sem.run_bind,Sem.run_ite,Result.andThen_ok,run_equalIn_int w 9998 3 .i64 .i64 _ _ underlying3];by_cases e:c=b<;>by_cases g:a1=a<;>simp[e,h,g,p]
def yL(a a1 c b:Int)(w:World):(binOp .neq 196 (.agg #[I a,I a1]) (.agg #[I c,I b])).run pG w=.ok (.bool (!((a==c)&&(a1==b)))) w:=by simp only[binOp];simp[QZ]
end Go.Proofs.YtdcainmlcpafbaaGreatDoor
