import Derived.Maps.AppendAt
import Derived.Lib.Builder
import Derived.Lib.AppendStr
import Derived.Test.YtdcainmlcpafbaaGreatDoorJ14
import Derived.Shelf.SlIter.Collect
set_option linter.all false
set_option maxHeartbeats 8000000
namespace Go.Proofs.YtdcainmlcpafbaaGreatDoor
open Value renaming int->I,slice->J,pointer->P0
open Tryz renaming prog->pG
open IntKind renaming i64->T
open Option renaming none->Z,some->Y
open Obj renaming cells->G
section
open Go.RowKit
open Value (bool)
set_option maxRecDepth 20000
theorem IG:(Tryz.prog.info? 3).map (fun i=>(i.zero,i.size,i.bytes))=Y (Y (I T 0),1,8):=by kernel_rfl
theorem tG{t e:TypeId}(h:Tryz.prog.underlying t=Y (.slice e))(a:Option Addr)(n c:Nat)(w:World):(binOp .eql t (J a n c) (J Z 0 0)).run pG w=.ok (.bool a.isNone) w:=by
 simp only[binOp];simp[run_equal_slice_nil w t e a n c h]
theorem zW(S:Nat)(b0 b1 b2 b3:Int)(w:World)(h0:w.cell? ⟨S,3,Z⟩=Y (I T b0))(h1:w.cell? ⟨S,4,Z⟩=Y (I T b1))(h2:w.cell? ⟨S,5,Z⟩=Y (I T b2))(h3:w.cell? ⟨S,6,Z⟩=Y (I T b3))(hS:S<w.heap.size):
  Calls pG 263 #[J (Y ⟨S,3,Z⟩) 4 4] w fun r w'=>∃v,r=.returned v/\bH w' w.heap.size v [b0,b1,b2,b3]/\Below w.heap.size w w':=by
 obtain⟨i0,hi0,hz0,hz1,hz2⟩:=info_parts IG;have heq:=tG Tryz.underlying59 (Y ⟨S,3,Z⟩) 4 4 w;simp only[Option.isNone_some]at heq;go_enter Tryz.func263,Tryz.ntmps263
 go_wp2_with(at_builtin;go_loud (refine wpList_append_own _ rfl _ _ 59 rfl w.heap.size 3 i0 (I T 0) 1 8 Tryz.underlying59 hi0 hz0 hz1 hz2 rfl (by decide) _ 0 [] rfl ?c0 ⟨S,3,Z⟩ 4 4 [I T b0,I T b1,I T b2,I T b3] rfl rfl ?c1 ?c2 ?c3 ?c4 ?c5 ?_))
 case c0=>exact World.ownsRow_lit w #[] 0 (Nat.le_refl _) (by unfold maxLen;omega) rfl
 case c1=>
  intro j u hu;have hj:j<4:=by have:=(List.getElem?_eq_some_iff.1 hu).1;simpa using this
  have hlt:(⟨S,3,Z⟩:Addr).block<w.heap.size:=hS;have hcl:∀o,(w.alloc (G #[] 3)).cell? ⟨S,o,Z⟩=w.cell? ⟨S,o,Z⟩:=fun o=>((Below.refl w.heap.size w).alloc (Nat.le_refl _) _).cell (p:=⟨S,o,Z⟩) hS;rcases j with _|_|_|_|j
  ·simp at hu;subst hu;exact(hcl _).trans h0
  ·simp at hu;subst hu;exact(hcl _).trans h1
  ·simp at hu;subst hu;exact(hcl _).trans h2
  ·simp at hu;subst hu;exact(hcl _).trans h3
  ·omega
 case c2=>intro u hu;simp at hu;rcases hu with rfl|rfl|rfl|rfl<;>rfl
 case c3=>unfold maxLen;omega
 case c4=>omega
 case c5=>simp
 intro v' w2 ho2 hg2 hnil;have HB2:=((Below.refl w.heap.size w).alloc (Nat.le_refl _) (G #[] 3)).grown hg2 (by simp) (fun g hg=>by simp[Value.ownBlock]at hg;omega);obtain⟨va,vc,rfl⟩:=aO ho2;go_wp2;go_ret;exact⟨_,rfl,ho2,HB2⟩
theorem zX(rs:List aM)(vr:Value)(w:World)(hr:aP w vr rs.length (rs.flatMap aM.cells))(hne:0<rs.length)(hlt:rs.length<=100000000):
  Calls pG 152 #[vr] w fun r w'=>∃v,r=.returned v/\w'.ownsRow w.heap.size 66 3 v rs.length (rs.flatMap aM.cells)/\Below w.heap.size w w':=by
 obtain⟨i0,hi0,hz0,hz1,hz2⟩:=info_parts l6;obtain⟨g,cap,rfl,hg,hc⟩:=hr.at hne;have heq:=tG Tryz.underlying23 (Y ⟨g,0,Z⟩) rs.length cap w;simp only[Option.isNone_some]at heq;go_enter Tryz.func152,Tryz.ntmps152
 go_wp2_with(at_builtin;go_loud (refine iY rfl _ _ 23 rfl w.heap.size 66 i0 (.agg #[I T 0,I T 0,I T 0]) 3 24 Tryz.underlying23 hi0 hz0 hz1 hz2 rfl (by decide) _ 0 [] rfl ?c0 (J (Y ⟨g,0,Z⟩) rs.length cap) rs.length (rs.flatMap aM.cells) rfl (hr.later ((Below.refl w.heap.size w).alloc (Nat.le_refl _) _)) (oF aM.cells 3 eK rs) tB ?c3 ?c4 ?c5 ?_))
 case c0=>exact World.ownsRow_lit w #[] 0 (Nat.le_refl _) (by unfold maxLen;omega) rfl
 case c3=>unfold maxLen;omega
 case c4=>omega
 case c5=>simp
 intro v' w2 ho2 hg2;have HB2:=((Below.refl w.heap.size w).alloc (Nat.le_refl _) (G #[] 66)).grown hg2 (by simp) (fun g hg=>by simp[Value.ownBlock]at hg;omega);obtain⟨va,vc,rfl⟩:=aO ho2;go_wp2;go_ret;exact⟨_,rfl,ho2,HB2⟩
def cU:Prop:=∀(Bm b:Nat) (vs:List (Int×PV)) (w:World),vs.length<=100000000->Bm<w.heap.size->w.cell? ⟨Bm,0,Z⟩=Y (.map (Y b))->VM w b vs->
  Calls pG 260 #[Value.func (Fn.func 268) #[] #[P0 (Y ⟨Bm,0,Z⟩)],Value.func (Fn.func 262) #[] #[]] w fun e w'=>∃(v:Value) (ks:List Int),e=.returned v/\ks.Perm (vs.map (·.1))/\aP w' v ks.length (ks.map (Value.int .i64))/\(∀ad n c,v=J (Y ad) n c->w.heap.size<=ad.block)/\Below w.heap.size w w'
def iV(r:aM):aU:=⟨6,0,r.E - 1,0,0,r.P,r.S,0,0,0,none,0,[]⟩
theorem KF(x:aU):(aU.cells x).length=11:=rfl
theorem tH:(Tryz.prog.info? 136).map (fun i=>(i.zero,i.size,i.bytes))=Y (Y (.agg #[I T 0,I T 0,I T 0,I T 0,I T 0,I T 0,I T 0,I T 0,I T 0,I T 0,J Z 0 0]),11,104):=by kernel_rfl
theorem xS(b:Nat)(w:World):Calls pG 261 #[.map (Y b)] w fun e w'=>e=.returned (Value.func (Fn.func 268) #[] #[P0 (Y ⟨w.heap.size,0,Z⟩)])/\w'=w.alloc (G #[Value.map (Y b)] 193):=by
 go_enter Tryz.func261,Tryz.ntmps261;go_wp2;go_ret;exact⟨rfl,rfl⟩
def jO(e:Int)(x:PV):aU:=⟨3,0,e,x.ac,0,x.pm,x.st,0,0,0,none,0,[]⟩
def jP(e:Int)(x:PV):aU:=⟨1,0,e,x.pr,0,0,0,0,0,0,none,0,[]⟩
theorem VM.lookF{w:World}{B:Nat}{l:List (Int×PV)}(h:VM w B l)(e:Int):∀w',w'.heap[B]?=w.heap[B]?->(Instr.lookup 193 (.map (Y B)) (.agg #[I T e]) false).run pG w'=.ok (.agg #[I T (aE l e).pr,I T (aE l e).ac,I T (aE l e).pm,I T (aE l e).st]) w':=fun w' hw=>(h.same hw).look e
def SD.msgs(d:SD)(ks:List Int)(za:Option Addr)(zc:Nat):List aU:=d.recs.tail.map iV++ks.flatMap (fun e=>[jO e (aE d.vts e),jP e (aE d.vts e)])++[⟨9,0,d.seen,0,0,0,0,d.last,0,0,za,zc,[d.b0,d.b1,d.b2,d.b3]⟩]
theorem tI{α β:Type}(f g:α->β):∀l:List α,(l.flatMap (fun e=>[f e,g e])).length=2*l.length
 | []=>rfl
 |x::l=>by
  have:=tI f g l;simp only[List.flatMap_cons,List.length_append,List.length_cons,List.length_nil,this];omega
theorem oO(d:SD)(ks:List Int)(za:Option Addr)(zc:Nat):(d.msgs ks za zc).length=(d.recs.length - 1)+2*ks.length+1:=by
 unfold SD.msgs;rw[List.length_append,List.length_append,tI];simp
theorem zY(d:SD)(ks:List Int)(za:Option Addr)(zc:Nat):(d.msgs ks za zc).flatMap aU.cells=d.recs.tail.flatMap (fun r=>(iV r).cells)++ks.flatMap (fun e=>(jO e (aE d.vts e)).cells++(jP e (aE d.vts e)).cells)++aU.cells ⟨9,0,d.seen,0,0,0,0,d.last,0,0,za,zc,[d.b0,d.b1,d.b2,d.b3]⟩:=by
 unfold SD.msgs;rw[List.flatMap_append,List.flatMap_append]
 congr 1
 ·congr 1
  ·rw[List.flatMap_map]
  ·rw[List.flatMap_assoc];simp
theorem jF{w:World}{base:Nat}{ra:Option Addr}{rc:Nat}{zs:List Int}(h:bH w base (J ra zs.length rc) zs):bG w ra zs/\∀ad,ra=Y ad->base<=ad.block:=by
 by_cases hz:zs=[]
 ·subst hz;refine⟨.inl rfl,?_⟩;rcases h.2 with⟨h0,_⟩|⟨g,cap,cur,h1,h2,_⟩
  ·cases h0;intro ad hh;cases hh
  ·cases h1;intro ad hh;cases hh;exact h2
 ·have hl:0<zs.length:=List.length_pos_iff.2 hz;obtain⟨g,cap,h1,h2,h3⟩:=(aP.of_owns h).at hl;cases h1;refine⟨.inr ⟨g,0,rfl,h2,fun j hj=>?_⟩,fun ad hh=>by cases hh;exact(h.lt g (by simp[Value.ownBlock])).1⟩;rw[Nat.zero_add];exact h3 j _ (by simp[hj])
theorem BZ{d:SD}{ks:List Int}{za:Option Addr}{zc base:Nat}{w:World}(h:bH w base (J za 4 zc) [d.b0,d.b1,d.b2,d.b3]):∀m∈d.msgs ks za zc,bG w m.a m.zs:=by
 intro m hm;unfold SD.msgs at hm;rcases List.mem_append.1 hm with hm|hm
 ·rcases List.mem_append.1 hm with hm|hm
  ·obtain⟨r,_,rfl⟩:=List.mem_map.1 hm;exact .inl rfl
  ·obtain⟨e,_,he⟩:=List.mem_flatMap.1 hm;simp at he;rcases he with rfl|rfl<;>exact .inl rfl
 ·simp at hm;subst hm;exact(jF h).1
theorem D4{d:SD}{ks:List Int}{za:Option Addr}{zc base:Nat}{w:World}(h:bH w base (J za 4 zc) [d.b0,d.b1,d.b2,d.b3]):∀m∈d.msgs ks za zc,∀ad,m.a=Y ad->∃cur,w.heap[ad.block]?=Y (.cells cur 3 (0,0)):=by
 intro m hm ad had;unfold SD.msgs at hm;rcases List.mem_append.1 hm with hm|hm
 ·rcases List.mem_append.1 hm with hm|hm
  ·obtain⟨r,_,rfl⟩:=List.mem_map.1 hm;cases had
  ·obtain⟨e,_,he⟩:=List.mem_flatMap.1 hm;simp at he;rcases he with rfl|rfl<;>cases had
 ·simp at hm;subst hm;rcases h.2 with⟨h0,_⟩|⟨g',cap,cur,h1,_,h3,_⟩
  ·cases h0
  ·cases h1;cases had;exact⟨cur,h3⟩
theorem jE{w w':World}{g:Nat}(h:w'.heap[g]?=w.heap[g]?)(j:Nat):w'.cell? ⟨g,j,Z⟩=w.cell? ⟨g,j,Z⟩:=by simp only[World.cell?,h]
theorem lZ(m:aU):∀u∈m.cells,u.oneCell'=true:=by
 intro u hu;simp[aU.cells]at hu;rcases hu with rfl|rfl|rfl|rfl|rfl|rfl|rfl|rfl|rfl|rfl|rfl<;>rfl
theorem jG(w:World)(B:Nat)(hB:B=w.heap.size)(cs:List Value)(t:TypeId):∀j u,cs[j]?=Y u->(w.alloc (G cs.toArray t)).cell? ((⟨B,0,Z⟩:Addr).add j)=Y u:=by
 subst hB;intro j u hu;have hq:=(aB.new w cs.toArray t).cell j;rw[List.getElem?_toArray,hu]at hq;rw[←hq];unfold Addr.add
 by_cases hj0:j=0
 ·subst hj0;rfl
 ·rw[if_neg hj0];simp
theorem rY(hSO:cU)(low St:Nat)(d:SD)(vr:Value)(Mp D:Nat)(w:World)(h:aF w low St d vr Mp D)(hne:0<d.recs.length)(hlt:d.recs.length<=10000000)(hlv:d.vts.length<=10000000)(hre:∀r∈d.recs,0<=r.E/\r.E<=10000000000000):
  Calls pG 257 #[P0 (Y ⟨St,0,Z⟩)] w fun r w'=>∃a c ks za zc,r=.returned (J a (d.msgs ks za zc).length c)/\ks.Perm (d.vts.map (·.1))/\w'.ownsRow w.heap.size 136 11 (J a (d.msgs ks za zc).length c) (d.msgs ks za zc).length ((d.msgs ks za zc).flatMap aU.cells)/\(∀m∈d.msgs ks za zc,bG w' m.a m.zs)/\(∀m∈d.msgs ks za zc,∀ad,m.a=Y ad->∃cur,w'.heap[ad.block]?=Y (.cells cur 3 (0,0)))/\Below w.heap.size w w':=by
 obtain⟨i0,hi0,hz0,hz1,hz2⟩:=info_parts tH;obtain⟨g,cap,hv,hg,hc⟩:=(aP.of_owns h.rcs).at hne;subst hv;have c1:=h.blk.cell 1;have c2:=h.blk.cell 2;simp at c1 c2;have hSt:=h.blk.lt;have HS:=aA h;have HC:=aA hc;have HRE:=aA hre
 have hcap:d.recs.length<=cap:=by
  rcases h.rcs.2 with⟨h0,_⟩|⟨g',cap',cur,h1,h2,h3,h4,_⟩
  ·cases h0
  ·cases h1;exact h4
 have hcap2:cap<=maxLen:=by
  rcases h.rcs.2 with⟨h0,_⟩|⟨g',cap',cur,h1,h2,h3,h4,h5,_⟩
  ·cases h0
  ·cases h1;exact h5
 unfold maxLen at hcap2;clear h hc hre;go_enter Tryz.func257,Tryz.ntmps257
 go_upto_region 2 with fail
 go_cut [13,14,15] (fun s13 s14 s15 wx=>∃o c',s13=J (Y ⟨g,o,Z⟩) (d.recs.length - 1) c'/\s14=I T ((d.recs.length - 1:Nat):Int)/\s15=I T 0/\(d.recs.length=1∨o=3)/\wx=w)
 case first=>
  go_wp2
  ·go_meet
   case rel=>exact⟨_,_,rfl,rfl,rfl,.inl (by omega),rfl⟩
  ·go_meet
   case rel=>exact⟨_,_,rfl,rfl,rfl,.inr rfl,rfl⟩
 case rest=>
  obtain⟨o,c',rfl,rfl,rfl,ho,rfl⟩:=hcut;clear hcap hcap2;have HO:=aA ho;clear ho;go_wp2
  go_loopw [3,15] (fun s3 s15 wr=>∃t:Nat,t<=d.recs.length - 1/\s15=I T (t:Int)/\wr.ownsRow wc.heap.size 136 11 s3 t ((d.recs.tail.take t).flatMap (fun r=>(iV r).cells))/\Below wc.heap.size wc wr) (fun s3 s15 wr=>d.recs.length - 1 - (intOf s15).toNat)
  case atStart=>exact⟨0,Nat.zero_le _,rfl,World.ownsRow_nil _ _ _ _,Below.refl _ _⟩
  case round=>
   obtain⟨t,ht,rfl,hrow,hbr⟩:=hrel
   by_cases htl:t<d.recs.length - 1
   ·have ho3:o=3:=by rcases HO.out with h9|h9<;>omega
    subst ho3;have hi:t+1<d.recs.length:=by omega
    have hcell:∀k,k<3->wr.cell? ⟨g,3+t*3+k,Z⟩=Y ((aM.cells d.recs[t+1]).getD k undef):=by
     intro k hk;have h9:=HC.out _ _ (cO aM.cells 3 eK d.recs (t+1) hi k hk);rw[←h9,show(t+1)*3+k=3+t*3+k by omega];exact hbr.cell (p:=⟨g,3+t*3+k,Z⟩) hg
    have j0:=hcell 0 (by omega);have j1:=hcell 1 (by omega);have j2:=hcell 2 (by omega);simp[aM.cells]at j0 j1 j2;have hE:=HRE.out d.recs[t+1] (List.getElem_mem hi)
    have htk:(d.recs.tail.take (t+1)).flatMap (fun r=>(iV r).cells)=(d.recs.tail.take t).flatMap (fun r=>(iV r).cells)++(iV d.recs[t+1]).cells:=by
     rw[List.take_succ_eq_append_getElem (by simp;omega),List.flatMap_append];simp
    have HTK:=aA htk;clear hcell htk;obtain⟨va,vc,rfl⟩:=aO hrow;have HR:=aA hrow;have HBR:=aA hbr;have hsz:=hbr.size;have ht7:(t:Int)<((d.recs.length - 1:Nat):Int):=by omega
    clear hrow hbr c1 c2;generalize d.recs[t+1]=R at*;have HW:Hid (Below wc.heap.size wc ((wr.alloc (G #[I T R.E,I T R.P,I T R.S] 66)).alloc (G #[I T 6,I T 0,I T (R.E - 1),I T 0,I T 0,I T R.P,I T R.S,I T 0,I T 0,I T 0,J Z 0 0] 136))):=(HBR.out.alloc hsz _).alloc (by simp;omega) _
    go_wp2_with(at_builtin;go_loud (refine wpList_append_own _ rfl _ _ 22 rfl wc.heap.size 136 i0 (.agg #[I T 0,I T 0,I T 0,I T 0,I T 0,I T 0,I T 0,I T 0,I T 0,I T 0,J Z 0 0]) 11 104 Tryz.underlying22 hi0 hz0 hz1 hz2 rfl (by decide) _ t _ rfl (World.ownsRow.alloc (World.ownsRow.alloc HR.out _) _) ⟨wr.heap.size+1,0,Z⟩ 1 1 (iV R).cells rfl rfl ?c1 ?c2 ?c3 ?c4 ?c5 ?_))
    case c1=>exact fun j u hu=>hu
    case c2=>exact lZ (iV R)
    case c3=>unfold maxLen;omega
    case c4=>omega
    case c5=>first|omega|(simp;omega)
    intro v' w2 ho2 hg2 hnil;have HW2:Below wc.heap.size wc w2:=HW.out.grown hg2 HW.out.size (fun k e=>(HR.out.lt k e).1);rw[←HTK.out]at ho2
    go_wp2_with fail
    go_roundw
    case rel=>exact⟨t+1,by omega,by go_num,ho2,HW2⟩
    case measure=>simp[intOf];omega
   ·have ht':t=d.recs.length - 1:=by omega
    have htake:d.recs.tail.take t=d.recs.tail:=List.take_of_length_le (by simp;omega);rw[htake]at hrow;have ht7:¬(t:Int)<((d.recs.length - 1:Nat):Int):=by omega
    obtain⟨va,vc,rfl⟩:=aO hrow;have HR:=aA hrow;have HBR:=aA hbr;have hsz:=hbr.size;have c2':wr.cell? ⟨St,2,Z⟩=Y (.map (Y Mp)):=(hbr.cell (p:=⟨St,2,Z⟩) hSt).trans c2;have HV:=aA (HS.out.vot.later hbr);clear hrow hbr c1 c2 htake ht'
    go_upto_region 8 with(first|(go_at_call 261;refine(xS Mp wr).mono ?_;rintro r w1 ⟨rfl,rfl⟩)|(go_at_call 260;refine(hSO wr.heap.size Mp d.vts (wr.alloc (G #[Value.map (Y Mp)] 193)) (by omega) (by simp) (by simp) (HV.out.later ((Below.refl _ _).alloc (Nat.le_refl _) _))).mono ?_;rintro r w1 ⟨v2,ks,rfl,hpm,hkr,hkb,hb1⟩;obtain⟨ka,kc,rfl⟩:=hkr.shape))
    have HKR:=aA hkr;have hb2:Below wr.heap.size wr w1:=((Below.refl wr.heap.size wr).alloc (Nat.le_refl _) (G #[Value.map (Y Mp)] 193)).trans (hb1.mono (by simp));have HB2:=aA hb2;have HR1:Hid (w1.ownsRow wc.heap.size 136 11 (J va t vc) t (d.recs.tail.flatMap (fun r=>(iV r).cells))):=aH HR.out (fun g hg=>hb2.block g (HR.out.lt g hg).2);have HV1:=aA (HV.out.later hb2);have HBW:Hid (Below wc.heap.size wc w1):=HBR.out.trans (hb2.mono hsz);have hkl:ks.length<=10000000:=by have:=hpm.length_eq;simp at this;omega
    have c21:w1.cell? ⟨St,2,Z⟩=Y (.map (Y Mp)):=(hb2.cell (p:=⟨St,2,Z⟩) (Nat.lt_of_lt_of_le hSt hsz)).trans c2';have hSt1:St<w1.heap.size:=Nat.lt_of_lt_of_le hSt HBW.out.size;have hN0:∀g,(J va t vc).ownBlock=Y g->g<wr.heap.size:=fun g hg=>(HR.out.lt g hg).2;have hN1:=HB2.out.size;have hNk:∀ad,ka=Y ad->wr.heap.size<=ad.block:=fun ad hh=>by subst hh;have:=hkb _ _ _ rfl;simp at this;omega
    generalize wr.heap.size=N0 at*
    have hkg:∀wr2,aK (fun g=>wc.heap.size<=g/\g<N0) w1 wr2->∀j (hj:j<ks.length),∃kg,ka=Y ⟨kg,0,Z⟩/\wr2.cell? ⟨kg,j,Z⟩=Y (I T ks[j]):=by
     intro wr2 hbb j hj;obtain⟨kg,kc',h1,h2,h3⟩:=HKR.out.at (by omega);cases h1;have hkn:=hNk _ rfl;refine⟨kg,rfl,Eq.trans ?_ (h3 j _ (by simp[hj]))⟩;exact jE (hbb.block kg h2 (fun h9=>by simp at hkn;omega)) j
    have HKG:=aA hkg;clear hkr hb1 hb2 hkg c2' HR HV HC HO HRE hNk hkb;have hMp1:Mp<wc.heap.size:=HS.out.vot.lt;have HBK:=aA HS.out.blk;clear HS
    go_loopw [3,38] (fun s3 s38 wr2=>∃t2:Nat,t2<=ks.length/\s38=I T (t2:Int)/\wr2.ownsRow wc.heap.size 136 11 s3 (t+2*t2) (d.recs.tail.flatMap (fun r=>(iV r).cells)++(ks.take t2).flatMap (fun e=>(jO e (aE d.vts e)).cells++(jP e (aE d.vts e)).cells))/\Below wc.heap.size wc wr2/\aK (fun g=>wc.heap.size<=g/\g<N0) w1 wr2/\(∀g,s3.ownBlock=Y g->g<N0∨w1.heap.size<=g)) (fun s3 s38 wr2=>ks.length - (intOf s38).toNat)
    case atStart=>exact⟨0,Nat.zero_le _,rfl,by simpa using HR1.out,HBW.out,aK.refl _ _,fun g hg=>.inl (hN0 g hg)⟩
    case round=>
     obtain⟨t2,ht2,rfl,hrow2,hbc,hbw,hvo⟩:=hrel
     by_cases htl2:t2<ks.length
     ·obtain⟨kg,rfl,hkc⟩:=HKG.out _ hbw t2 htl2
      have htk:(ks.take (t2+1)).flatMap (fun e=>(jO e (aE d.vts e)).cells++(jP e (aE d.vts e)).cells)=(ks.take t2).flatMap (fun e=>(jO e (aE d.vts e)).cells++(jP e (aE d.vts e)).cells)++((jO ks[t2] (aE d.vts ks[t2])).cells++(jP ks[t2] (aE d.vts ks[t2])).cells):=by
       rw[List.take_succ_eq_append_getElem htl2,List.flatMap_append];simp
      have HTK:=aA htk;have hlk:=(HV1.out.same (hbw.block Mp HV1.out.lt (fun h9=>by omega))).lookF ks[t2];clear htk;obtain⟨va2,vc2,rfl⟩:=aO hrow2;have HR2:=aA hrow2;have HBC:=aA hbc;have HBW2:=aA hbw;have HVO:=aA hvo;have pQ:wr.cell? ⟨St,2,Z⟩=Y (.map (Y Mp)):=(jE (hbw.block St hSt1 (fun h9=>by omega)) 2).trans c21;have hSt2:St<wr.heap.size:=Nat.lt_of_lt_of_le hSt1 hbw.size;have hMp2:Mp<wr.heap.size:=Nat.lt_of_lt_of_le HV1.out.lt hbw.size;have hbz:=hbw.size;have ht9:(t2:Int)<(ks.length:Int):=by omega
      have hcz:=hbc.size;clear hrow2 hbc hbw c21 HKG hvo;generalize ks[t2]=ke at*;have hlk1:=hlk (wr.alloc (G #[I T ke] 321)) (heap_alloc_old _ _ hMp2);have hlk2:=hlk (wr.alloc (G #[I T ke] 321)).drew (heap_alloc_old _ _ hMp2);have hlk3:=hlk ((wr.alloc (G #[I T ke] 321)).alloc (G #[I T 0,I T 0,I T 0,I T 0] 284)).drew ((heap_alloc_old _ _ (by simp;omega)).trans (heap_alloc_old _ _ hMp2));clear hlk;generalize aE d.vts ke=xv at*
      go_upto_region 10 with fail
      go_cut [8] from 42 to 47 (fun s8 wx=>s8=P0 (Y ⟨wr.heap.size+1,0,Z⟩)/\wx=((wr.alloc (G #[I T ke] 321)).alloc (G #[I T xv.pr,I T xv.ac,I T xv.pm,I T xv.st] 284)).drew)
      case first=>
       go_region
       all_goals(go_wp2_with fail;go_meet;exact⟨rfl,rfl⟩)
      case rest=>
       obtain⟨rfl,rfl⟩:=hcut;clear hlk1 hlk2 hlk3 hkc pQ
       go_wp2_with(at_builtin;go_loud (refine wpList_append_own_at _ rfl _ _ 22 rfl wc.heap.size 136 i0 (.agg #[I T 0,I T 0,I T 0,I T 0,I T 0,I T 0,I T 0,I T 0,I T 0,I T 0,J Z 0 0]) 11 104 Tryz.underlying22 hi0 hz0 hz1 hz2 rfl (by decide) _ (t+2*t2) _ rfl (World.ownsRow.alloc (World.ownsRow.alloc (World.ownsRow.alloc HR2.out _) _).drew _) ⟨wr.heap.size+1+1,0,Z⟩ 2 2 ((jO ke xv).cells++(jP ke xv).cells) rfl rfl ?c1 ?c2 ?c3 ?c4 ?c5 ?_))
       case c1=>exact jG ((wr.alloc (G #[I T ke] 321)).alloc (G #[I T xv.pr,I T xv.ac,I T xv.pm,I T xv.st] 284)) (wr.heap.size+1+1) (by simp) ((jO ke xv).cells++(jP ke xv).cells) 136
       case c2=>intro u hu;rcases List.mem_append.1 hu with h9|h9<;>exact lZ _ u h9
       case c3=>unfold maxLen;omega
       case c4=>omega
       case c5=>first|omega|(simp;omega)
       intro v' w2 ho2 hg2 hnil hvv;have HW2:Below wc.heap.size wc w2:=Below.grown (Below.alloc (Below.drew (Below.alloc (Below.alloc HBC.out HBC.out.size _) (by simp;omega) _)) (by simp;omega) _) hg2 (by simp;omega) (fun k e=>(HR2.out.lt k e).1)
       have HW3:aK (fun g=>wc.heap.size<=g/\g<N0) w1 w2:=by
        refine⟨hg2.os.trans HBW2.out.os,hg2.tape.trans HBW2.out.tape,hg2.output.trans HBW2.out.output,Nat.le_trans HBW2.out.size (Nat.le_trans (by simp;omega) hg2.size),fun k hk hA=>?_⟩;have hk2:k<wr.heap.size:=Nat.lt_of_lt_of_le hk HBW2.out.size;refine(hg2.block k (by simp;omega) (fun h9=>?_)).trans (((heap_alloc_old _ _ (by simp;omega)).trans ((heap_alloc_old _ _ (by simp;omega)).trans (heap_alloc_old _ _ hk2))).trans (HBW2.out.block k hk hA));have h10:=(HR2.out.lt k h9.symm).1;rcases HVO.out k h9.symm with h11|h11
        ·exact hA ⟨h10,h11⟩
        ·omega
       have hvn:∀g,v'.ownBlock=Y g->g<N0∨w1.heap.size<=g:=by
        intro g hg9;rcases hvv with h9|h9
        ·rw[h9]at hg9;exact HVO.out g hg9
        ·rw[h9]at hg9;simp at hg9;omega
       have hlen2:t+2*t2+2=t+2*(t2+1):=by omega
       rw[hlen2,←HTK.out]at ho2
       go_wp2_with fail
       go_roundw
       case rel=>exact⟨t2+1,by omega,by go_num,ho2,HW2,HW3,hvn⟩
       case measure=>simp[intOf];omega
     ·have htk2:ks.take t2=ks:=List.take_of_length_le (by omega);rw[htk2]at hrow2;obtain⟨va2,vc2,rfl⟩:=aO hrow2;have HR2:=aA hrow2;have HBC:=aA hbc;have hSt2:St<wr.heap.size:=Nat.lt_of_lt_of_le hSt hbc.size;have HBK2:=aA (HBK.out.low hbc hSt);have ht9:¬(t2:Int)<(ks.length:Int):=by omega
      have hcz:=hbc.size;clear hrow2 hbc hbw c21 HKG hvo htk2
      go_upto_region 13 with fail
      have e3:=HBK2.out.cell 3;have e4:=HBK2.out.cell 4;have e5:=HBK2.out.cell 5;have e6:=HBK2.out.cell 6;have e7:=HBK2.out.cell 7;have e8:=HBK2.out.cell 8;simp at e3 e4 e5 e6 e7 e8;refine eN (S:=(fun w'=>w'.cell? ⟨St,7,Z⟩=Y (I T d.seen)/\w'.cell? ⟨St,8,Z⟩=Y (I T d.last))) fun _=>?_;refine tk 0 ?_;refine tk 1 ?_;refine tk 2 ?_;refine tk 3 ?_;refine tk 4 ?_;refine tk 5 ?_;refine tk 6 ?_;refine tk 7 ?_;refine tk 8 ?_;refine tk 9 ?_;refine tk 10 ?_;refine tk 11 ?_;refine tk 12 ?_;refine tk 13 ?_;refine tk 14 ?_;refine aG 15 fun K hK=>?_
      (try go_simp)
      go_at_call 263
      refine(zW St d.b0 d.b1 d.b2 d.b3 wr.drew e3 e4 e5 e6 (by exact hSt2)).mono ?_;rintro r w3 ⟨v3,rfl,ho3,hb3⟩;obtain⟨za,zc,rfl⟩:=aO ho3;have z7:w3.cell? ⟨St,7,Z⟩=Y (I T d.seen):=(hb3.cell (p:=⟨St,7,Z⟩) hSt2).trans e7;have z8:w3.cell? ⟨St,8,Z⟩=Y (I T d.last):=(hb3.cell (p:=⟨St,8,Z⟩) hSt2).trans e8;have HR3:Hid (w3.ownsRow wc.heap.size 136 11 (J va2 (t+2*t2) vc2) (t+2*t2) _):=aH HR2.out.drew (fun g hg=>hb3.block g (HR2.out.lt g hg).2);have HO3:=aA ho3;have HB3:Hid (Below wc.heap.size wc w3):=HBC.out.drew.trans (hb3.mono hcz);have hz3:wr.heap.size<=w3.heap.size:=hb3.size;clear ho3 hb3;refine k1 hK fun _=>?_;clear hK K;refine aG 16 fun K hK=>?_
      (try go_simp)
      refine k1 hK fun _=>?_;clear hK K;refine aG 17 fun K hK=>?_
      (try go_simp)
      refine k1 hK fun _=>?_;clear hK K;refine aG 18 fun K hK=>?_;refine gC rfl (.tmp 66) (.tmp 83) 22 rfl wc.heap.size 136 i0 (.agg #[I T 0,I T 0,I T 0,I T 0,I T 0,I T 0,I T 0,I T 0,I T 0,I T 0,J Z 0 0]) 11 104 Tryz.underlying22 hi0 hz0 hz1 hz2 rfl (by decide) (J va2 (t+2*t2) vc2) (t+2*t2) _ (by simp[Act.eval]) (World.ownsRow.alloc HR3.out _) ⟨w3.heap.size,0,Z⟩ 1 1 (aU.cells ⟨9,0,d.seen,0,0,0,0,d.last,0,0,za,zc,[d.b0,d.b1,d.b2,d.b3]⟩) (by omega) (by simp[Act.eval]) rfl (jG w3 w3.heap.size rfl _ 136) (lZ _) (by unfold maxLen;omega) (by omega) (by simp;omega) ?_;intro v5 w5 ho5 hg5 hloc5;have hXS:w5.heap[St]?=w3.heap[St]?:=(hg5.block St (by simp;omega) (fun h9=>by have:=(HR3.out.lt St h9.symm).1;omega)).trans (heap_alloc_old _ _ (by omega));have y7:w5.cell? ⟨St,7,Z⟩=Y (I T d.seen):=(jE hXS 7).trans z7;have y8:w5.cell? ⟨St,8,Z⟩=Y (I T d.last):=(jE hXS 8).trans z8;obtain⟨wa,wc5,rfl⟩:=aO ho5;have HO5:=aA ho5;have HB5:Hid (Below wc.heap.size wc w5):=Below.grown (HB3.out.alloc HB3.out.size _) hg5 (by simp;omega) (fun k e=>(HR3.out.lt k e).1);have HI5:Hid (bH w5 wr.heap.size (J za 4 zc) [d.b0,d.b1,d.b2,d.b3]):=aH HO3.out (fun g hg=>(hg5.block g (by have:=(HO3.out.lt g hg).2;simp;omega) (fun h9=>lR HO3.out HR3.out (by decide) g hg h9.symm)).trans (heap_alloc_old _ _ (HO3.out.lt g hg).2));clear ho5 hg5 hloc5 hXS;refine k1 hK fun _=>?_;clear hK K;refine aG 19 fun K hK=>?_
      (try go_simp)
      refine k1 hK fun _=>?_;clear hK K;refine dn ?_;go_wp2;go_ret;have hn9:(d.msgs ks za zc).length=t+2*t2+1:=by rw[oO];omega
      refine⟨wa,wc5,ks,za,zc,?_,hpm,?_,?_,D4 HI5.out,HB5.out⟩
      ·rw[hn9];rfl
      ·rw[hn9,zY];exact HO5.out
      ·exact BZ HI5.out
end
section
open Go.RowKit
open Value (bool)
def cV:Prop:=∀(B b:Nat) (l:List UInt8) (s:ByteArray) (w:World),Lib.IsBuilder 352 5 B b (dL l) w->l.length+s.size<=140737488355328->B<=w.heap.size->
  Calls pG 264 #[P0 (Y ⟨b,0,Z⟩),.string s] w fun e w'=>e=.returned (.tuple #[I T s.size,.nilIface])/\Lib.IsBuilder 352 5 B b (dL (l++s.data.toList)) w'/\Below B w w'
def cS:Prop:=∀(B b:Nat) (l:List UInt8) (w:World),Lib.IsBuilder 352 5 B b (dL l) w->B<=w.heap.size->
  Calls pG 265 #[P0 (Y ⟨b,0,Z⟩)] w fun e w'=>e=.returned (.string (aC l))/\Below B w w'
end
section
open Go.RowKit
open Value (bool)
set_option maxRecDepth 20000
def dY:List UInt8:=[106,111,117,114,110,97,108,46,110,101,119]
theorem IsB.later{B b:Nat}{bs:List Value}{w w':World}(h:Lib.IsBuilder 352 5 B b bs w)(hb:Below w.heap.size w w'):Lib.IsBuilder 352 5 B b bs w':=by
 have one:∀p,Lib.BuilderAt 352 5 B b p bs w->Lib.BuilderAt 352 5 B b p bs w':=by
  rintro p ⟨h1,v,h2,h3,h4⟩;exact⟨h1,v,(hb.block b (Array.getElem?_eq_some_iff.1 h2).1).trans h2,aH h3 (fun g hg=>hb.block g (h3.lt g hg).2),h4⟩
 exact h.imp (one _) (one _)
theorem zZ(l:List UInt8):(aC l).data.toList=l:=by simp[aC]
theorem kY{w:World}{low D H S:Nat}{va:Value}{fs:List FD}{left:Int}(hH:eB w D H S)(hd:DS 98 107 low w S va fs left):some D≠va.ownBlock/\some H≠va.ownBlock:=by
 refine⟨fun hh=>?_,fun hh=>?_⟩
 ·obtain⟨cur,h3⟩:=hd.rowAt hh.symm;rw[hH.d]at h3;simp at h3
 ·obtain⟨cur,h3⟩:=hd.rowAt hh.symm;rw[hH.h]at h3;simp at h3
theorem cA.first{ty e:TypeId}{low S:Nat}{w w1 w2:World}{v:Value}{fs:List FD}{l:Int}(h:cA ty e low w1 S v fs l w2)(hb:Below w.heap.size w w1):cA ty e low w S v fs l w2:=by
 obtain⟨v9,h1,h2,h3⟩:=h;exact⟨v9,h1,⟨h2.os.trans hb.os,h2.tape.trans hb.tape,h2.output.trans hb.output,Nat.le_trans hb.size h2.size,fun k hk hA=>(h2.block k (Nat.lt_of_lt_of_le hk hb.size) hA).trans (hb.block k hk)⟩,fun g hg=>(h3 g hg).imp id (fun h9=>Nat.le_trans hb.size h9)⟩
theorem wC{fs:List FD}{nm:List UInt8}(h:fH fs nm=none):eQ fs nm=none/\aX fs nm=fs:=by
 unfold fH at h;rw[List.find?_eq_none]at h;refine⟨?_,?_⟩
 ·unfold eQ;rw[List.findIdx?_eq_none_iff];intro x hx
  simpa using h x hx
 ·unfold aX;rw[List.filter_eq_self];intro x hx
  simpa using h x hx
theorem AA{fs:List FD}(h:fH fs dY=none)(l:List UInt8):gQ (fD (eR fs dY l) dY) dY dQ=aX fs dQ++[⟨dQ,l,l.length⟩]:=by
 obtain⟨h1,h2⟩:=wC h;have e1:eR fs dY l=fs++[⟨dY,l,0⟩]:=by unfold eR;rw[h1]
 have hix:∀y:FD,y.n=dY->eQ (fs++[y]) dY=Y fs.length:=by
  intro y hy;unfold eQ at h1⊢;rw[List.findIdx?_append,h1];simp[hy]
 have e2:fD (fs++[⟨dY,l,0⟩]) dY=fs++[⟨dY,l,l.length⟩]:=by
  unfold fD;rw[hix _ rfl];simp
 rw[e1,e2];unfold gQ;rw[hix _ rfl];have hne:¬dY=dQ:=by decide
 simp only[if_neg hne]
 have e3:aX (fs++[⟨dY,l,l.length⟩]) dY=fs:=by
  unfold aX at h2⊢;rw[List.filter_append,h2];simp
 rw[e3];simp
theorem xT(hBW:cV)(hBS:cS)(low D H S:Nat)(va:Value)(fs:List FD)(L:Nat)(ms:List aU)(ao:Option Addr)(c:Nat)(w:World)(ht:aJ w)(hw2:2<=w.heap.size)(hrow:aP w (J ao ms.length c) ms.length (ms.flatMap aU.cells))(hin:∀m∈ms,bG w m.a m.zs)(hml:ms.length<=4000000)(hH:eB w D H S)(hDS:D≠S)(hHS:H≠S)(hd:DS 98 107 low w S va fs (-1))(hlow:low<=w.heap.size)(hfl:fs.length<=1000000)(hfd:∀f∈fs,f.d.length<=L)(hL:L<=1200000000)(hno:fH fs dY=none):
  Calls pG 258 #[P0 (Y ⟨D,0,Z⟩),J ao ms.length c] w fun r w'=>r=.returned (.bool true)/\∃l:List UInt8,l.length<=301*ms.length/\cA 98 107 low w S va (aX fs dQ++[⟨dQ,l,l.length⟩]) (-1) w':=by
 have HT:=aA ht;have HIN:=aA hin;have HROW:=aA hrow;have HH:=aA hH;have HD:=aA hd;have HFD:=aA hfd;have HNO:=aA hno;clear hno;have HIB:=aA (Lib.fresh_isBuilder 352 5 w);have HB0:Hid (Below w.heap.size w (w.alloc (G #[P0 none,J Z 0 0] 352))):=(Below.refl w.heap.size w).alloc (Nat.le_refl _) _;clear ht hin hrow hH hd hfd;go_enter Tryz.func258,Tryz.ntmps258;go_wp2;generalize (w.alloc (G #[P0 none,J Z 0 0] 352))=W1 at*
 go_loopw [10] (fun s10 wr=>∃(t:Nat) (l:List UInt8),t<=ms.length/\s10=I T (t:Int)/\l.length<=301*t/\Lib.IsBuilder 352 5 w.heap.size w.heap.size (dL l) wr/\Below w.heap.size w wr) (fun s10 wr=>ms.length - (intOf s10).toNat)
 case atStart=>exact⟨0,[],Nat.zero_le _,rfl,Nat.le_refl _,HIB.out,HB0.out⟩
 case round=>
  obtain⟨t,l,htn,rfl,hll,hib,hbr⟩:=hrel
  by_cases htl:t<ms.length
  ·obtain⟨g,cap,h1,hg,hc⟩:=HROW.out.at (by omega);cases h1
   have hcell:∀k,k<11->wr.cell? ⟨g,t*11+k,Z⟩=Y ((aU.cells ms[t]).getD k undef):=by
    intro k hk;exact(hbr.cell (p:=⟨g,t*11+k,Z⟩) hg).trans (hc _ _ (cO aU.cells 11 KF ms t htl k hk))
   have j0:=hcell 0 (by omega);have j1:=hcell 1 (by omega);have j2:=hcell 2 (by omega);have j3:=hcell 3 (by omega);have j4:=hcell 4 (by omega);have j5:=hcell 5 (by omega);have j6:=hcell 6 (by omega);have j7:=hcell 7 (by omega);have j8:=hcell 8 (by omega);have j9:=hcell 9 (by omega);have j10:=hcell 10 (by omega);simp[aU.cells]at j0 j1 j2 j3 j4 j5 j6 j7 j8 j9 j10;have HZ0:=HIN.out ms[t] (List.getElem_mem htl);generalize ms[t]=M at*;have ht9:(t:Int)<(ms.length:Int):=by omega
   have hz:=hbr.size;have HBW:Hid (Below w.heap.size w (wr.alloc (G #[I T M.k,I T M.f,I T M.e,I T M.b,I T M.wa,I T M.p,I T M.s,I T M.q,I T M.bl,I T M.v,J M.a M.zs.length M.c] 136))):=hbr.alloc hz _;have HTW:=aA (HT.out.below HBW.out hw2);have HZW:=aA (HZ0.later HBW.out);have HIW:Hid (Lib.IsBuilder 352 5 w.heap.size w.heap.size (dL l) (wr.alloc (G #[I T M.k,I T M.f,I T M.e,I T M.b,I T M.wa,I T M.p,I T M.s,I T M.q,I T M.bl,I T M.v,J M.a M.zs.length M.c] 136))):=IsB.later hib ((Below.refl _ _).alloc (Nat.le_refl _) _);have HMB:=aA (aB.new wr #[I T M.k,I T M.f,I T M.e,I T M.b,I T M.wa,I T M.p,I T M.s,I T M.q,I T M.bl,I T M.v,J M.a M.zs.length M.c] 136);have hW0z:=HBW.out.size;clear hcell HZ0 hib hbr
   go_upto_region 5 with fail
   generalize (wr.alloc (G #[I T M.k,I T M.f,I T M.e,I T M.b,I T M.wa,I T M.p,I T M.s,I T M.q,I T M.bl,I T M.v,J M.a M.zs.length M.c] 136))=W2 at*;obtain⟨m0,m1,m2,m3,m4,m5,m6,m7,m8,m9,m10⟩:=HMB.out.c11
   go_wp2_with fail
   refine(sN M.k M.f M.e M.b M.wa M.p M.s M.q M.bl M.v M.a M.zs M.c W2 HTW.out (by omega) HZW.out).mono ?_;rintro r w3 ⟨bs,rfl,hbl,hb3⟩;have HIW3:=aA (IsB.later HIW.out hb3);have HBW3:=aA (HBW.out.trans (hb3.mono hW0z));have hz3:=HBW3.out.size;clear hb3
   go_wp2_with fail
   refine(hBW w.heap.size w.heap.size l (aC bs) w3 HIW3.out (by rw[fT];omega) hz3).mono ?_;rintro r w4 ⟨rfl,hi4,hb4⟩;rw[zZ]at hi4;have HBW4:=aA (HBW3.out.trans hb4)
   go_wp2_with fail
   go_roundw
   case rel=>exact⟨t+1,l++bs,by omega,by go_num,by simp;omega,hi4,HBW4.out⟩
   case measure=>simp[intOf];omega
  ·have ht9:¬(t:Int)<(ms.length:Int):=by omega
   have hl9:l.length<=1204000000:=by omega
   have hz:=hbr.size;have hDl:D<w.heap.size:=(Array.getElem?_eq_some_iff.1 HH.out.d).1;have hHl:H<w.heap.size:=(Array.getElem?_eq_some_iff.1 HH.out.h).1;have HH1:=aA (HH.out.later (hbr.block D hDl) (hbr.block H hHl));have HD1:=aA (HD.out.later hbr);have HI1:=aA hib;have HBR:=aA hbr;have hlow1:low<=wr.heap.size:=Nat.le_trans hlow hz;clear hib hbr;have hno1:decide ((fH fs dY).isSome=true)=false:=by rw[HNO.out];rfl
   go_wp2_with fail
   refine(DT low D H S va fs (-1) dY wr HH1.out HD1.out (by omega)).mono ?_;rintro r w3 ⟨rfl,rfl⟩;rw[HNO.out]
   go_wp2_with fail
   refine(hBS w.heap.size w.heap.size l w3 HI1.out hz).mono ?_;rintro r wa ⟨rfl,hba⟩;have HBA:=aA (HBR.out.trans hba);have hza:=HBA.out.size;have HHa:=aA (HH.out.later (HBA.out.block D hDl) (HBA.out.block H hHl));have HDa:=aA (HD.out.later HBA.out);have hlowa:low<=wa.heap.size:=Nat.le_trans hlow hza;clear hba HH1 HD1 HI1 HBR
   go_wp2_with fail
   refine(qI low D H S va fs (-1) dY l wa HHa.out hDS HDa.out (by omega) (by omega) hlowa (fun f hf=>by have:=HFD.out f hf;omega) (by omega)).mono ?_;rintro r w4 ⟨rfl,va4,hd4,hk4,ho4⟩;rw[if_neg (by decide)]at hd4;have e1:cZ (-1) = -1:=rfl;rw[e1]at hd4;have hne4:=kY HHa.out HDa.out;have HH4:=aA (HHa.out.later (hk4.block D (by omega) (fun hh=>hh.elim hDS hne4.1)) (hk4.block H (by omega) (fun hh=>hh.elim hHS hne4.2)));have HD4:=aA hd4;have HK4:=aA hk4;have HO4:=aA ho4;have HA4:=aA (oY HFD.out dY l);have hl4:=HA4.out.2;have hz4:=hk4.size;clear hd4 hk4 ho4 hne4 e1
   go_wp2_with fail
   refine(rP low D H S va4 (eR fs dY l) (-1) dY w4 HH4.out hDS HD4.out (by omega) (by omega) (by omega) (fun f hf=>by have:=HA4.out.1 f hf;omega)).mono ?_;rintro r w5 ⟨rfl,va5,hd5,hk5,ho5⟩;rw[if_neg (by decide)]at hd5;have e1:cZ (-1) = -1:=rfl;rw[e1]at hd5;have hne5:=kY HH4.out HD4.out;have HH5:=aA (HH4.out.later (hk5.block D (by omega) (fun hh=>hh.elim hDS hne5.1)) (hk5.block H (by omega) (fun hh=>hh.elim hHS hne5.2)));have HD5:=aA hd5;have HK5:=aA hk5;have HO5:=aA ho5;have HA5:=aA ((oZ HA4.out.1 dY).2);have hz5:=hk5.size;clear hd5 hk5 ho5 hne5 e1
   go_wp2_with fail
   refine(xO low D H S va5 (fD (eR fs dY l) dY) (-1) dY dQ w5 HH5.out hDS HD5.out (by omega) (by rw[HA5.out];omega) (by omega)).mono ?_;rintro r w6 ⟨rfl,hd6⟩;rw[if_neg (by decide)]at hd6;have e1:cZ (-1) = -1:=rfl;rw[e1,AA HNO.out l]at hd6;have HD6:=aA (cA.then HK4.out HO4.out (cA.then HK5.out HO5.out hd6));clear hd6;go_wp2;go_ret;exact⟨rfl,l,by omega,HD6.out.first HBA.out⟩
end
section
open Go.RowKit Go.Maps Go.Sort Go.Shelf
def kH(v:Value):Int:=
 match v with
 |.agg a=>intOf (a.getD 0 undef)
 |_=>0
def kJ(es:List MapEntry)(b:Nat):Int:=kH (((es.find? (·.born==b)).map (·.key)).getD undef)
theorem rZ{es:List MapEntry}(hn:(es.map (·.born)).Nodup){x:MapEntry}(hx:x∈es):kJ es x.born=kH x.key:=by
 unfold kJ;rw[find_born x es hn hx];rfl
theorem tJ{es:List MapEntry}{l:List (Int×PV)}(h:es.map (fun e=>(e.key,e.val))=l.map (fun x=>(cW x.1,dC x.2))):es.map (fun x=>kH x.key)=l.map (·.1)/\∀x∈es,x.key=cW (kH x.key):=by
 have h1:es.map (fun e=>e.key)=l.map (fun x=>cW x.1):=by
  have:=congrArg (List.map Prod.fst) h
  simpa[List.map_map,Function.comp_def] using this
 refine⟨?_,fun x hx=>?_⟩
 ·have:=congrArg (List.map kH) h1
  simpa[List.map_map,Function.comp_def,kH,cW,intOf] using this
 ·have h2:x.key∈es.map (fun e=>e.key):=List.mem_map.2 ⟨x,hx,rfl⟩;rw[h1]at h2;obtain⟨y,_,hy⟩:=List.mem_map.1 h2;rw[←hy];rfl
theorem B1{es:List MapEntry}{l:List (Int×PV)}(h:es.map (fun e=>(e.key,e.val))=l.map (fun x=>(cW x.1,dC x.2)))(hn:(es.map (·.born)).Nodup){seen:List Nat}(h1:seen.Nodup)(h2:∀b∈seen,b∈es.map (·.born))(h3:∀x∈es,x.born∈seen):(seen.map (kJ es)).Perm (l.map (·.1)):=by
 have hp:seen.Perm (es.map (·.born)):=(List.perm_ext_iff_of_nodup h1 hn).2 (fun a=>⟨h2 a,fun ha=>by obtain⟨x,hx,rfl⟩:=List.mem_map.1 ha;exact h3 x hx⟩)
 have e1:(es.map (·.born)).map (kJ es)=l.map (·.1):=by
  rw[←(tJ h).1,List.map_map];refine List.map_congr_left (fun x hx=>?_);exact rZ hn hx
 rw[←e1];exact hp.map _
structure jQ(w:World)(B r:Nat)(es:Array MapEntry)(clk:Nat)(seen:Array Nat):Prop where
 mp:w.heap[B]?=Y (.map es clk)
 it:w.heap[r]?=Y (.mapIter (Y B) clk seen clk)
 nd:seen.toList.Nodup
 inn:∀b∈seen.toList,b∈es.toList.map (·.born)
theorem jQ.of_walks{w w':World}{B r:Nat}{es:Array MapEntry}{clk:Nat}{seen:Array Nat}(h:jQ w B r es clk seen)(hk:KeepsWalks w w'):jQ w' B r es clk seen:=⟨hk.same B _ h.mp rfl,hk.same r _ h.it rfl,h.nd,h.inn⟩
theorem sB:∀(l m:List Nat),l.Nodup->(∀x∈l,x∈m)->l.length<=m.length
 | [],m,_,_=>Nat.zero_le _
 |a::l,m,h,hs=>by
  have ha:=hs a (by simp);have h1:=List.nodup_cons.1 h;have h2:=sB l (m.erase a) h1.2 (fun x hx=>(List.mem_erase_of_ne (by intro e;subst e;exact h1.1 hx)).2 (hs x (by simp[hx])));have h3:=List.length_erase_of_mem ha;have h4:0<m.length:=List.length_pos_of_mem ha;simp;omega
theorem FU{es:Array MapEntry}{seen:Array Nat}(h1:seen.toList.Nodup)(h2:∀b∈seen.toList,b∈es.toList.map (·.born)):seen.size<=es.size:=by
 have:=sB _ _ h1 h2
 simpa using this
theorem jQ.next{w:World}{B r:Nat}{es:Array MapEntry}{clk:Nat}{seen:Array Nat}(h:jQ w B r es clk seen)(hs:jN (es.toList.map (·.born)) clk):
  ((leftOf es seen).size=0/\(∀x∈es.toList,x.born∈seen.toList)/\∀ty,(Instr.next (P0 (Y ⟨r,0,Z⟩)) false ty).run pG w=.ok (.tuple #[.bool false]) w)∨
  ∃e∈es.toList,∃w':World,jQ w' B r es clk (seen.push e.born)/\(leftOf es (seen.push e.born)).size<(leftOf es seen).size/\w.grownBy w' (Y r)/\w'.heap.size=w.heap.size/\seen.size<es.size/\
   (∀ty,(Instr.next (P0 (Y ⟨r,0,Z⟩)) false ty).run pG w=.ok (.tuple #[.bool true,e.key,e.val]) w')/\(Instr.entry (P0 (Y ⟨r,0,Z⟩))).run pG w'=.ok (.tuple #[e.key,e.val]) w':=by
 have hne:r≠B:=by
  intro e;have:=h.it;rw[e,h.mp]at this;cases this
 have hold:∀x∈es.toList,x.born<clk:=fun x hx=>hs.1 _ (List.mem_map.2 ⟨x,hx,rfl⟩);rcases run_next_at (P:=pG) w 0 r B clk clk seen es clk h.it h.mp hold (Nat.le_refl _) with⟨h0,hrun⟩|⟨e,he,w1,hal,hrun⟩
 ·exact .inl ⟨h0,fun x hx=>by have:=all_seen es seen h0 x hx;simpa using this,fun ty=>hrun⟩
 ·obtain⟨hem,hes⟩:=mem_left he;have hr1:w1.heap[r]?=Y (.mapIter (Y B) clk seen clk):=by rcases hal with rfl|rfl<;>exact h.it
  have hb1:w1.heap[B]?=Y (.map es clk):=by rcases hal with rfl|rfl<;>exact h.mp
  have hset:=MapKept.heap_set (o':=.mapIter (Y B) clk (seen.push e.born) clk) hr1;have hnot:e.born∉seen.toList:=by simpa using hes
  have hnd:(seen.push e.born).toList.Nodup:=by
   rw[Array.toList_push,List.nodup_append];refine⟨h.nd,by simp,fun a ha b hb=>?_⟩;simp at hb;intro hab;subst hab;subst hb;exact hnot ha
  have hin:∀b∈(seen.push e.born).toList,b∈es.toList.map (·.born):=by
   intro b hb;rw[Array.toList_push]at hb;rcases List.mem_append.1 hb with h9|h9
   ·exact h.inn b h9
   ·simp at h9;subst h9;exact List.mem_map.2 ⟨e,hem,rfl⟩
  have hb':=(hset.2 B (fun e1=>hne e1.symm)).trans hb1;have hlen:=FU hnd hin;refine .inr ⟨e,hem,_,⟨hb',hset.1,hnd,hin⟩,left_shrinks es seen e he,?_,?_,by simp at hlen;omega,fun ty=>hrun,run_entry_at _ r B clk seen es clk e hset.1 hb' hem hs.2⟩
  ·rcases hal with rfl|rfl<;>exact⟨rfl,rfl,rfl,by simp[ChangeMaps.setBlock],fun i _ hi=>hset.2 i (fun e1=>hi (by rw[e1]))⟩
  ·rcases hal with rfl|rfl<;>simp[ChangeMaps.setBlock]
set_option maxRecDepth 100000 in
theorem D5(F:Fence)(n:Nat)(h10:F.fn 268)(hro:F.round=none)(hn:1<=n)(l Bm b:Nat)(vs:List (Int×PV))(J1:List Int->World->Prop)(hY:∀pre x W,J1 pre W->pre.length<vs.length->YieldAt F (n - 1) pG l #[.agg #[I T x]] W fun e W'=>e=.returned (.bool true)/\J1 (pre++[x]) W'/\KeepsWalks W W')(W:World)(hJ:AbidesFrom W.heap.size J1)(hm:W.cell? ⟨Bm,0,Z⟩=Y (.map (Y b)))(hown:VM W b vs)(h0:J1 [] W):
  CallsIn F n pG 268 #[.func (.yield l) #[] #[],P0 (Y ⟨Bm,0,Z⟩)] W fun e W'=>(∃v,e=.returned v)/\∃ks:List Int,ks.Perm (vs.map (·.1))/\J1 ks W':=by
 obtain⟨es,clk,hmp,hkv,hst⟩:=hown.obj;have HKV:=tJ hkv;have hel:es.size=vs.length:=by have:=congrArg List.length hkv;simpa using this
 have hbl:b<W.heap.size:=(Array.getElem?_eq_some_iff.1 hmp).1;have hrr:=run_range_map W 193 321 284 b es clk Tryz.underlying193 hmp;have HR0:jQ (W.alloc (.mapIter (Y b) clk #[] clk)) b W.heap.size es clk #[]:=⟨(heap_alloc_old W _ hbl).trans hmp,heap_alloc_new _ _,by simp,by simp⟩;have HJ0:J1 [] (W.alloc (.mapIter (Y b) clk #[] clk)):=hJ [] W _ none h0 (World.grownBy_alloc W _ none) (fun r e=>by cases e);refine callsIn_of_wp Tryz.func268 rfl h10 ?_ hro;simp only[Tryz.ntmps268,List.size_toArray,List.length_cons,List.length_nil,Nat.reduceAdd,Nat.reduceSub,Array.replicate_succ,Array.replicate_zero,List.push_toArray,List.append_toArray,List.nil_append,List.cons_append]
 gi_wp2
 generalize hW0:W.alloc (.mapIter (Y b) clk #[] clk)=W0 at*;have hs0:W0.heap.size=W.heap.size+1:=by rw[←hW0];simp
 clear hW0 hrr
 gi_loopw [3] (fun _ wr=>∃seen,jQ wr b W.heap.size es clk seen/\W.heap.size<wr.heap.size/\J1 (seen.toList.map (kJ es.toList)) wr)
  (fun _ wr=>wr.rangeLeft b W.heap.size)
 case atStart=>
  exact⟨#[],HR0,by omega,HJ0⟩
 case round=>
  obtain⟨seen,hrg,hlt,hJs⟩:=hrel;rcases hrg.next hst with⟨hz,hall,hnx⟩|⟨en,hen,w2,hrg2,hsh,hg2,hs2,hsz,hnx,hent⟩
  ·gi_wp2
   go_end0
   exact⟨⟨_,rfl⟩,_,B1 hkv hst.2 hrg.nd hrg.inn hall,hJs⟩
  ·have hk:=HKV.2 en hen;have hka:=rZ hst.2 hen;have HKA:=aA hka;rw[hk]at hnx hent;generalize kH en.key=x at*;have hit:∃o:Obj,wr.heap[W.heap.size]?=Y o/\o.isWalk=true:=⟨_,hrg.it,rfl⟩;have hJ2:J1 (seen.toList.map (kJ es.toList)) w2:=hJ _ wr w2 (Y W.heap.size) hJs hg2 (fun r e=>by cases e;exact⟨Nat.le_refl _,hit⟩);unfold cW at hnx hent;have hW3:w2.grownBy (w2.alloc (G #[Value.int IntKind.i64 x] 321)) none:=World.grownBy_alloc w2 _ none;have hJ3:J1 (seen.toList.map (kJ es.toList)) (w2.alloc (G #[Value.int IntKind.i64 x] 321)):=hJ _ w2 _ none hJ2 hW3 (fun r e=>by cases e);have hk3:KeepsWalks w2 (w2.alloc (G #[Value.int IntKind.i64 x] 321)):=KeepsWalks.alloc _ _;obtain⟨fn,tmps,assign,body,hy,hR⟩:=hY _ x _ hJ3 (by simp;omega);have hb2:W.heap.size<w2.heap.size:=by omega
   have hml:(leftOf es (seen.push en.born)).size<wr.rangeLeft b W.heap.size:=by simp only[World.rangeLeft,hrg.mp,hrg.it];exact hsh
   clear hs2 hs0 hel hsz hka
   gi_wp2
   refine hR.mono ?_;rintro e W4 ⟨rfl,hJ4,hk4⟩
   gi_wp2
   have hrg4:=(hrg2.of_walks hk3).of_walks hk4
   go_roundw
   case rel=>exact⟨seen.push en.born,hrg4,Nat.lt_of_lt_of_le hb2 (Nat.le_trans hk3.size hk4.size),by rw[Array.toList_push,List.map_append];simp only[List.map_cons,List.map_nil];rw[HKA.out];exact hJ4⟩
   case measure=>simp only[World.rangeLeft,hrg4.mp,hrg4.it];exact hml
def oG:Code:=(Code.region 2 #[{dst:=Y 5,op:=Op.alloc 321,type:=0,pos:= "iter.go:51",after:=#[],guard:=none},{dst:=none,op:=Op.store 321 (Operand.tmp 5) (Operand.tmp 7),type:=0,pos:= "iter.go:51",after:=#[{on:=0,ground:=Ground.data},{on:=0,ground:=Ground.phase}],guard:=none}] false)
def oX:Code:=(Code.block 1 (Code.region 3 #[{dst:=Y 8,op:=Op.load 344 (Operand.tmp 2),type:=344,pos:= "iter.go:52",after:=#[],guard:=none},{dst:=Y 9,op:=Op.load 321 (Operand.tmp 5),type:=321,pos:= "iter.go:52",after:=#[],guard:=none},{dst:=Y 10,op:=Op.buildSlice 344 1 #[(0,Operand.tmp 9)],type:=344,pos:= "iter.go:52",after:=#[{on:=1,ground:=Ground.data}],guard:=none},{dst:=Y 11,op:=Op.call {callee:=Callee.builtin Builtin.append,args:=#[Operand.tmp 8,Operand.tmp 10],argTypes:=#[344,344]},type:=344,pos:= "iter.go:52",after:=#[{on:=0,ground:=Ground.data},{on:=2,ground:=Ground.data}],guard:=none},{dst:=none,op:=Op.store 344 (Operand.tmp 2) (Operand.tmp 11),type:=0,pos:= "iter.go:52",after:=#[{on:=3,ground:=Ground.data},{on:=3,ground:=Ground.chain},{on:=0,ground:=Ground.phase},{on:=1,ground:=Ground.phase},{on:=2,ground:=Ground.phase},{on:=3,ground:=Ground.phase}],guard:=none}] false))
def iR(fn:FuncId)(sv:Value)(Bs D:Nat)(st:LoopState)(pend:Option Code):Loop:=
  {state:=st,pending:=pend,fn,tmps:=#[J Z 0 0,sv,P0 (Y ⟨Bs,0,Z⟩),undef,J Z 0 0,undef,sv,undef,undef,undef,undef,undef,undef],params:=#[7],assign:=oG,body:=oX,defers:=D}
def gB(e:Int):Value:=I T e
structure mB(w0:World)(fn:FuncId)(sv:Value)(Bs l D:Nat)(ss:List Int)(W:World):Prop where
  box:∃v,W.heap[Bs]?=Y (.cells #[v] 344 (0,0))/\W.ownsRow w0.heap.size 321 1 v ss.length (ss.map gB)
  L:W.heap[l]?=Y (.loop (iR fn sv Bs D .ready none))
  K:W.heap[D]?=Y (.deferred (some []))
  below:Below w0.heap.size w0 W
theorem AB(w0:World)(fn:FuncId)(sv:Value)(Bs l D B:Nat)(hB:w0.heap.size<=B):AbidesFrom B (mB w0 fn sv Bs l D):=fun s W W' row h hg hrow=>by
  have hrow':∀r,row=Y r->∃o:Obj,W.heap[r]?=Y o/\o.isWalk=true:=fun r e=>(hrow r e).2;obtain⟨v,hv,hr⟩:=h.box
  exact⟨⟨v,(grownBy_keeps hg hrow' hv rfl).trans hv,ownsRow_abides_a hr hg hrow'⟩,(grownBy_keeps hg hrow' h.L rfl).trans h.L,(grownBy_keeps hg hrow' h.K rfl).trans h.K,
    h.below.grown hg h.below.size (fun k e=>Nat.le_trans hB (hrow k e).1)⟩
theorem FV:(Tryz.prog.info? 321).map (fun i=>(i.zero,i.size,i.bytes))=Y (Y (.agg #[I T 0]),1,8):=by kernel_rfl
set_option maxRecDepth 100000 in
theorem D6(F:Fence)(m:Nat)(w0:World)(fn:FuncId)(hfn:F.fn fn)(sv:Value)(Bs l D:Nat)(hBl:Bs≠l)(hDl:D≠l)(hDB:D≠Bs)(h0B:w0.heap.size<=Bs)(h0l:w0.heap.size<=l)(N:Nat)(hN:N<=maxLen)(hNb:N*8<=140737488355328)(ss:List Int)(x:Int)(W:World)(h:mB w0 fn sv Bs l D ss W)(hlen:ss.length<N):
    YieldAt F m pG l #[.agg #[I T x]] W fun e W'=>e=.returned (.bool true)/\mB w0 fn sv Bs l D (ss++[x]) W'/\KeepsWalks W W':=by
  obtain⟨i0,hi,hz0,hz1,hz2⟩:=info_parts FV;obtain⟨v,hv,hrow⟩:=h.box;refine⟨fn,#[J Z 0 0,sv,P0 (Y ⟨Bs,0,Z⟩),undef,J Z 0 0,undef,sv,.agg #[I T x],undef,undef,undef,undef,undef],oG,oX,by simpa[iR] using run_yield (P:=pG) (args:=#[.agg #[I T x]]) h.L rfl,roundIn_of_wpIn hfn ?_⟩;have hl:l<W.heap.size:=(Array.getElem?_eq_some_iff.1 h.L).1;have hBl0:Bs<W.heap.size:=(Array.getElem?_eq_some_iff.1 hv).1;have hD0:D<W.heap.size:=(Array.getElem?_eq_some_iff.1 h.K).1;obtain⟨W1,hW1⟩:∃W1,W.alloc (G #[Value.int IntKind.i64 x] 321)=W1:=⟨_,rfl⟩;have hs1:W.heap.size<W1.heap.size:=by rw[←hW1];simp
  have hL1:W1.heap[l]?=Y (.loop (iR fn sv Bs D .ready none)):=by rw[←hW1];exact(heap_alloc_old _ _ hl).trans h.L
  have hv1:W1.heap[Bs]?=Y (.cells #[v] 344 (0,0)):=by rw[←hW1];exact(heap_alloc_old _ _ hBl0).trans hv
  have hK1:W1.heap[D]?=Y (.deferred (some [])):=by rw[←hW1];exact(heap_alloc_old _ _ hD0).trans h.K
  have hrow1:W1.ownsRow w0.heap.size 321 1 v ss.length (ss.map gB):=by rw[←hW1];exact hrow.alloc _
  have hb1:Below w0.heap.size w0 W1:=by rw[←hW1];exact h.below.alloc h.below.size _
  have hk1:KeepsWalks W W1:=by rw[←hW1];exact KeepsWalks.alloc _ _
  have hx1:W1.heap[W.heap.size]?=Y (.cells #[I T x] 321 (0,0)):=by rw[←hW1];exact heap_alloc_new _ _
  have hl1:l<W1.heap.size:=by omega
  have hbr:=run_beginRound (P:=pG) hL1 rfl;obtain⟨W5,hW5⟩:∃W5,W1.putObj l (.loop {iR fn sv Bs D .ready none with state:=.busy})=W5:=⟨_,rfl⟩;rw[hW5]at hbr;have hg5:W1.grownBy W5 (Y l):=by rw[←hW5];exact grownBy_putObj_a _ _ _
  have hk5:KeepsWalks W W5:=by rw[←hW5];exact hk1.trans (KeepsWalks.putObj _ hL1 rfl)
  have hv5:W5.heap[Bs]?=Y (.cells #[v] 344 (0,0)):=by rw[←hW5];exact(World.putObj_heap_other hBl).trans hv1
  have hK5:W5.heap[D]?=Y (.deferred (some [])):=by rw[←hW5];exact(World.putObj_heap_other hDl).trans hK1
  have hL5:W5.heap[l]?=Y (.loop {iR fn sv Bs D .ready none with state:=.busy}):=by rw[←hW5];exact World.putObj_heap_same hl1
  have hrow5:=hrow1.kept hg5 (ownsRow_ne_a hrow1 hL1 (fun cur e=>by cases e));have hb5:=hb1.grown hg5 hb1.size (fun k e=>by cases e;exact h0l);have hxl:W.heap.size≠l:=by omega
  have hx5:W5.cell? ⟨W.heap.size,0,Z⟩=Y (I T x):=by
    have:W5.heap[W.heap.size]?=Y (.cells #[I T x] 321 (0,0)):=by rw[←hW5];exact(World.putObj_heap_other hxl).trans hx1
    exact(cell_of_box_a this).1
  obtain⟨hc5,hf5⟩:=cell_of_box_a hv5
  have ne_of:∀{j:Nat} {o:Obj},W5.heap[j]?=Y o->(∀cur,o≠.cells cur 321 (0,0))->some j≠v.ownBlock:=fun hj hno=>by
    rcases ownsRow_ne_a hrow5 hj hno with e|e
    · rw[e];simp
    · exact fun e'=>e e'.symm
  have hs5b:=hb5.size;have hs51:=hg5.size;have hBlt:Bs<W5.heap.size:=by omega
  have hl5:l<W5.heap.size:=by omega
  have hDlt5:D<W5.heap.size:=by omega
  have hxlt:W.heap.size<W5.heap.size:=by omega
  clear hW5 hrow hv hrow1 hx1 hg5;unfold oG
  gi_wp2_with (rw[Oper.semAt_eq _ _ _ (fun c h=>by cases h)];go_simp;try go_bits)
  clear hW1 hbr;unfold oX
  gi_wp2_with (first
    | (gi_at_builtin;refine wpListIn_append_own _ rfl _ _ 344 rfl w0.heap.size 321 i0 (.agg #[I T 0]) 1 8 Tryz.underlying344 hi hz0 hz1 hz2 rfl (by decide) _ _ _ rfl (hrow5.alloc _) ⟨W5.heap.size,0,Z⟩ 1 1 [gB x] rfl rfl (cell_one_new _ _ _) (by simp[Value.oneCell',gB]) (by omega) (by omega) (by simp;omega) ?_;intro v' w3 hown' hg3 hnil3
       have hv3:=(hg3.block Bs (by simp;omega) (ne_of hv5 (fun cur e=>by cases e))).trans ((Below.heap_alloc _ _ Bs hBlt).trans hv5);obtain⟨hc3,hf3⟩:=cell_of_box_a hv3
       obtain⟨g',cap',cur',rfl,hbase',hgb',hr1,hr2,hr3,hr4⟩:∃g' cap' cur',v'=J (Y ⟨g',0,Z⟩) (ss.length+1) cap'/\w0.heap.size<=g'/\w3.heap[g']?=Y (.cells cur' 321 (0,0))/\ss.length+1<=cap'/\cap'<=maxLen/\cur'.size=cap'*1/\cur'.toList.take ((ss.length+1)*1)=ss.map gB++[gB x]:=by
         rcases hown'.2 with⟨_,h0⟩|h'
         · exact absurd h0 (by omega)
         · exact h'
       go_frame)
    | (rw[Oper.semAt_eq _ _ _ (fun c h=>by cases h)];go_simp;try go_bits))
  have hg3':(W5.alloc (.cells #[gB x] 321)).grownBy w3 v.ownBlock:=hg3;have hL3:=(hg3'.block l (by simp;omega) (ne_of hL5 (fun cur e=>by cases e))).trans ((Below.heap_alloc _ _ l hl5).trans hL5);have hK3:=(hg3'.block D (by simp;omega) (ne_of hK5 (fun cur e=>by cases e))).trans ((Below.heap_alloc _ _ D hDlt5).trans hK5);obtain⟨w4,hw4⟩:∃w4,w3.setCell ⟨Bs,0,Z⟩ (J (Y ⟨g',0,Z⟩) (ss.length+1) cap')=w4:=⟨_,rfl⟩;rw[hw4];have hg4:w3.grownBy w4 (Y Bs):=by rw[←hw4];exact grownBy_setCell0_a _ _ _
  have hv4:w4.heap[Bs]?=Y (.cells #[J (Y ⟨g',0,Z⟩) (ss.length+1) cap'] 344 (0,0)):=by rw[←hw4];exact heap_setCell_box_a _ hv3
  have hL4:=(hg4.block l (Array.getElem?_eq_some_iff.1 hL3).1 (fun e=>hBl (by cases e;rfl))).trans hL3;have hK4:=(hg4.block D (Array.getElem?_eq_some_iff.1 hK3).1 (fun e=>hDB (by cases e;rfl))).trans hK3;have hrow4:=hown'.kept hg4 (ownsRow_ne_a hown' hv3 (fun cur e=>by cases e));have hl4:l<w4.heap.size:=(Array.getElem?_eq_some_iff.1 hL4).1;have hb3:=(hb5.alloc hb5.size _).grown hg3' (by have:=hb5.size;simp;omega) (fun k e=>(hrow5.lt k e).1);have hb4:=hb3.grown hg4 hb3.size (fun k e=>by cases e;exact h0B);have hk4:KeepsWalks W w4:=((hk5.trans (KeepsWalks.alloc _ _)).trans (KeepsWalks.of_grownBy hg3' (ownsRow_not_walk_a (hrow5.alloc _)))).trans (by rw[←hw4];exact KeepsWalks.setCell _ _ _);clear hw4;refine⟨_,_,run_endRound none hL4,rfl,⟨⟨_,(World.putObj_heap_other hBl).trans hv4,?_⟩,World.putObj_heap_same hl4,(World.putObj_heap_other hDl).trans hK4,hb4.grown (grownBy_putObj_a _ _ _) hb4.size (fun k e=>by cases e;exact h0l)⟩,hk4.trans (KeepsWalks.putObj _ hL4 rfl)⟩;have:=hrow4.kept (grownBy_putObj_a w4 l (.loop {{iR fn sv Bs D .ready none with state:=.busy} with state:=if(none:Option Code).isNone then .ready else .done,pending:=none})) (ownsRow_ne_a hrow4 hL4 (fun cur e=>by cases e))
  simpa using this
end
section
open Go.RowKit Go.Maps Go.Sort Go.Shelf
set_option maxRecDepth 20000
set_option maxRecDepth 100000 in
theorem vK(Bm b:Nat)(vs:List (Int×PV))(hN:vs.length<=maxLen)(hNb:vs.length*8<=140737488355328)(w:World)(hBm:Bm<w.heap.size)(hm:w.cell? ⟨Bm,0,Z⟩=Y (.map (Y b)))(hown:VM w b vs):
    CallsIn Fence.wide 5 pG 271 #[J Z 0 0,Value.func (Fn.func 268) #[] #[Value.pointer (Y ⟨Bm,0,Z⟩)]] w fun e w'=>∃(v:Value) (ks:List Int),e=.returned v/\ks.Perm (vs.map (·.1))/\w'.ownsRow w.heap.size 321 1 v ks.length (ks.map gB)/\Below w.heap.size w w':=by
  have eg:=enters_of Tryz.func268 (by kernel_rfl) rfl;refine callsIn_of_wp_marks Tryz.func271 rfl trivial ?_ rfl;simp only[Tryz.ntmps271,List.size_toArray,List.length_cons,List.length_nil,Nat.reduceAdd,Nat.reduceSub,Array.replicate_succ,Array.replicate_zero,List.push_toArray,List.append_toArray,List.nil_append,List.cons_append]
  gi_wp2
  refine wpIn_rangeFunc ?_;intro fn hfn;obtain⟨W0,hW0⟩:∃W0,w.alloc (.cells #[J Z 0 0] 344)=W0:=⟨_,rfl⟩;have hs0:W0.heap.size=w.heap.size+1:=by rw[←hW0];simp
  have hv0:W0.heap[w.heap.size]?=Y (.cells #[J Z 0 0] 344 (0,0)):=by rw[←hW0];exact World.alloc_heap_new w _
  have hb0:Below w.heap.size w W0:=by rw[←hW0];exact(Below.refl _ w).alloc (Nat.le_refl _) _
  rw[hW0];obtain⟨W1,hW1⟩:∃W1,(W0.alloc (.deferred (some []))).alloc (.loop (iR fn (Value.func (Fn.func 268) #[] #[Value.pointer (Y ⟨Bm,0,Z⟩)]) w.heap.size W0.heap.size .ready none))=W1:=⟨_,rfl⟩
  have hold:∀k,k<W0.heap.size->W1.heap[k]?=W0.heap[k]?:=fun k hk=>by
    rw[←hW1];exact(Below.heap_alloc _ _ k (by simp;omega)).trans (Below.heap_alloc _ _ k hk)
  have hb1:Below w.heap.size w W1:=by rw[←hW1];exact(hb0.alloc hb0.size _).alloc (by have:=hb0.size;simp;omega) _
  have hs1:W1.heap.size=W0.heap.size+2:=by rw[←hW1];simp
  have hM:mB w fn (Value.func (Fn.func 268) #[] #[Value.pointer (Y ⟨Bm,0,Z⟩)]) w.heap.size (W0.heap.size+1) W0.heap.size [] W1:=
    ⟨⟨_,(hold w.heap.size (by omega)).trans hv0,⟨rfl,.inl ⟨rfl,rfl⟩⟩⟩,
     by rw[←hW1];have:=World.alloc_heap_new (W0.alloc (.deferred (some []))) (.loop (iR fn (Value.func (Fn.func 268) #[] #[Value.pointer (Y ⟨Bm,0,Z⟩)]) w.heap.size W0.heap.size .ready none));rwa[World.size_alloc]at this,
     by rw[←hW1];exact(Below.heap_alloc _ _ _ (by simp)).trans (World.alloc_heap_new W0 _),hb1⟩
  have hm1:=(hb1.cell (p:=⟨Bm,0,Z⟩) hBm).trans hm;have ho1:=hown.later hb1
  refine⟨W0.heap.size+1,[{target:=.collected W0.heap.size,args:=#[]}],W1,{target:=.fn (.func 268) #[P0 (Y ⟨Bm,0,Z⟩)],args:=#[.func (.yield (W0.heap.size+1)) #[] #[]]},W1,268,
    #[.func (.yield (W0.heap.size+1)) #[] #[]]++#[P0 (Y ⟨Bm,0,Z⟩)],W1,?_,?_,?_,?_,fun _=>(by omega),?_⟩
  · rw[←hW1];exact run_enterLoop_outer _ _ _ _ _
  · simp[resolve,go_sem]
  · intro f' hf';trivial
  · simp[invoke,go_sem,eg]
  · refine(D5 Fence.wide 4 trivial rfl (by omega) (W0.heap.size+1) Bm b vs (mB w fn (Value.func (Fn.func 268) #[] #[Value.pointer (Y ⟨Bm,0,Z⟩)]) w.heap.size (W0.heap.size+1) W0.heap.size) (fun pre x W hJ hl=>D6 Fence.wide (4 - 1) w fn hfn _ w.heap.size (W0.heap.size+1) W0.heap.size (by omega) (by omega) (by omega) (Nat.le_refl _) (by omega) vs.length hN hNb pre x W hJ hl) W1 (AB _ _ _ _ _ _ _ hb1.size) hm1 ho1 hM).mono ?_
    rintro e W2 ⟨⟨v0,rfl⟩,ss,hS,h2⟩;obtain⟨v,hv,hrow⟩:=h2.box;have hend:=run_endLoop (P:=pG) h2.L (by simp[iR]);obtain⟨W3,hW3⟩:∃W3,W2.putObj (W0.heap.size+1) (.loop {iR fn (Value.func (Fn.func 268) #[] #[Value.pointer (Y ⟨Bm,0,Z⟩)]) w.heap.size W0.heap.size .ready none with state:=.exhausted})=W3:=⟨_,rfl⟩;rw[hW3]at hend;have hg3:W2.grownBy W3 (Y (W0.heap.size+1)):=by rw[←hW3];exact grownBy_putObj_a _ _ _
    have hv3:W3.heap[w.heap.size]?=Y (.cells #[v] 344 (0,0)):=by rw[←hW3];exact(World.putObj_heap_other (by omega)).trans hv
    have hK3:W3.heap[W0.heap.size]?=Y (.deferred (some [])):=by rw[←hW3];exact(World.putObj_heap_other (by omega)).trans h2.K
    have hrow3:=hrow.kept hg3 (ownsRow_ne_a hrow h2.L (fun cur e=>by cases e));have hb3:=h2.below.grown hg3 h2.below.size (fun k e=>by cases e;omega);obtain⟨hc3,hf3⟩:=cell_of_box_a hv3;clear hW3;refine⟨none,W3,hend,?_⟩
    gi_wp2
    rw[←hs0];refine⟨by simp,.inl ⟨_,_,rfl,run_takeDeferred hK3,?_⟩⟩;exact⟨_,results_tmp rfl _ _ _,v,ss,rfl,hS,hrow3.kept (grownBy_putObj_a _ _ _) (ownsRow_ne_a hrow3 hK3 (fun cur e=>by cases e)),hb3.grown (grownBy_putObj_a _ _ _) hb3.size (fun k e=>by cases e;omega)⟩
theorem wD(Bm b:Nat)(vs:List (Int×PV))(hN:vs.length<=maxLen)(hNb:vs.length*8<=140737488355328)(w:World)(hBm:Bm<w.heap.size)(hm:w.cell? ⟨Bm,0,Z⟩=Y (.map (Y b)))(hown:VM w b vs):
    Calls pG 266 #[Value.func (Fn.func 268) #[] #[Value.pointer (Y ⟨Bm,0,Z⟩)]] w fun e w'=>∃(v:Value) (ks:List Int),e=.returned v/\ks.Perm (vs.map (·.1))/\w'.ownsRow w.heap.size 321 1 v ks.length (ks.map gB)/\Below w.heap.size w w':=by
  have h271:=(callsIn_wide (n:=5)).1 (vK Bm b vs hN hNb w hBm hm hown);clear hm hown;go_enter Tryz.func266,Tryz.ntmps266
  go_wp2_with(go_at_call 271;refine h271.mono ?_;rintro e w' ⟨v,ks,rfl,h1,h2,h3⟩)
  go_ret;exact⟨v,ks,rfl,h1,h2,h3⟩
end
end Go.Proofs.YtdcainmlcpafbaaGreatDoor
