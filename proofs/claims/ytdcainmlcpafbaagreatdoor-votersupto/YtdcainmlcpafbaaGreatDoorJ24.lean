import Derived.Test.YtdcainmlcpafbaaGreatDoorJ11
import Derived.Test.YtdcainmlcpafbaaGreatDoorJ23
set_option linter.all false
set_option maxHeartbeats 8000000
namespace Go.Proofs.YtdcainmlcpafbaaGreatDoor
open Go.RowKit
open Value renaming int->I,slice->J,pointer->P0
open Tryz renaming prog->pG
open IntKind renaming i64->T
open Option renaming none->Z,some->Y
open Obj renaming cells->G
open Value (bool)
theorem EO(low X:Nat)(n:RN)(vr vv vb vs:Value)(S:ByteArray)(k f e b wa p s q bl v:Int)(zs:List Int)(ec:Int)(w:World)(h:bO w low X n vr vv vb (J Z 0 0) (J Z 0 0) vs)(hlw:low<=w.heap.size)(hok:n.ok)(hlt:n.recs.length<=100000000)(hlv:n.votes.length<=100000000)(hS:S.size<=140737488355328)(hD:bD S.data.toList k f e b wa p s q bl v zs ec):
  Calls pG 121 #[P0 (Y ⟨X,0,Z⟩),.string S] w fun r w'=>eE w low X (n.recvN k f e b p s q bl v zs ec) vr vb vs (n.recvO k f e b q bl zs ec) r w':=by
 have hid:0<=n.id/\n.id<5:=⟨hok.id0,by have:=hok.id1;have:=hok.nodes5;omega⟩;have hEl:=hok.lastE;have hne:=hok.ne;have hb4:=hok.b4;refine CE low X n vr vv vb vs S k f e b wa p s q bl v zs ec w h hlw hok hlt hS hD ?_ ?_
 ·rintro rfl hf hk W ra rc hN hW;obtain⟨hm,hk1,hf1⟩:=hD.isM
  have he0:0<=e:=by
   rcases hk with rfl|rfl
   ·exact((jH _ _ _ _ _ _ _ _ _).1 hm).1.1
   ·exact((jI _ _ _ _ _ _ _ _ _).1 hm).1.1
  unfold RN.recvN RN.recvO;rw[if_neg hf,if_neg hf,if_pos hk,if_pos hk]
  by_cases h2:e<n.lastR.E
  ·rw[if_pos h2,if_pos h2];exact(BM low X n vr vv vb _ _ vs k f e b wa p s q bl v _ W hN hW hne hlt hlv hid e.toNat (by omega) (by omega) h2).mono fun r w' ⟨g,a1,a2,a3⟩=>⟨⟨g,a1,a2⟩,vr,vv,vb,hN.later a3,mS a3⟩
  ·rw[if_neg h2,if_neg h2];exact(BV low X n vr vv vb _ _ vs k f e b wa p s q bl v _ W hN hW hne hlt hlv hid (by omega) hk).mono fun r w' ⟨g,vv',a1,a2,a3,a4⟩=>⟨⟨g,a1,a2⟩,vr,vv',vb,a3,⟨a4.os,a4.tape,a4.output,a4.size,fun x hx hA=>a4.block x hx (fun hh=>hA (.inl (by simpa using hh)))⟩⟩
 ·rintro rfl hf hk W ra rc hN hW hin hap;obtain⟨hm,hk1,hf1⟩:=hD.isM
  have he0:0<=e/\0<=bl:=by
   rcases hk with rfl|rfl
   ·have hm1:=(kA _ _ _ _ _ _ _ _ _).1 hm;exact⟨hm1.1.1,by omega⟩
   ·have hm1:=(kB _ _ _ _ _ _ _ _ _).1 hm;exact⟨hm1.1.1,by omega⟩
  have hN1:n.recvN k f e b p s q bl v zs 0=(if cL n k bl zs then(if hZ n e q then n else n.wrote k e q bl v zs) else n):=by
   unfold RN.recvN;rw[if_neg hf,if_neg (by omega),if_neg (by omega)]
  have hO1:n.recvO k f e b q bl zs 0=(if cL n k bl zs then n.storedO k f e q else none):=by
   unfold RN.recvO;rw[if_neg hf,if_neg (by omega)]
  rw[hN1,hO1];exact zQ low X n vr vv vb vs k f e b wa p s q bl v ra rc zs W hN hW hok hlt hk he0.2 hD.len hin (fun ad had=>⟨fun hh=>by have h1:=hap ad had;have h2:=h.lt;omega,fun hh=>by have h1:=hap ad had;have h2:=(h.b.lt _ hh).2;omega⟩) he0.1
section
set_option maxRecDepth 20000
theorem tN:(Tryz.prog.info? 225).map (fun i=>(i.zero,i.size,i.bytes))=Y (Y (.agg #[I T 0,I T 0,J Z 0 0,J Z 0 0,J Z 0 0,I T 0,I T 0,bool false,J Z 0 0,J Z 0 0,I T 0,J Z 0 0,bool false,J Z 0 0]),14,224):=by kernel_rfl
theorem nO(hSO:cU)(hBW:cV)(hBS:cS)(hLO:fK)(hUO:fJ){base R t:Nat}{w:World}{ao:Option Addr}{c:Nat}{ms:List aU}{vh vs:Value}{hs:List HD}{ss:List (List UInt8)}{v:Nat->Value}{es:Nat->List bU}(hI:cX base R t w ao c ms vh vs hs ss v es)(i:Nat)(hi:i<hs.length)(x:HD)(hxe:x=hs[i])(S:ByteArray)(hS:S.size<=2000000)(ht:t<=1100000):
  Calls pG 69 #[P0 (Y ⟨R,0,Z⟩),P0 (Y ⟨x.hb,0,Z⟩),.string S] w fun r w'=>r=.returned (.bool true)/\dB base R (t+1) w'/\bM base R w w':=by
 have hx:cG w base t x:=by rw[hxe];exact hI.hosts _ (List.getElem_mem hi)
 obtain⟨k,f,n1,n2,n3,n4,n5,n6,n7,n8,zs,ec,hD⟩:=bD.ex S.data.toList;obtain⟨hlow1,hlow2⟩:=hI.low;have hR2:=hI.two;have hl1:x.n.recs.length<=100000000:=by have:=hx.bd.recs;rw[hx.alike.recs]at this;omega
 have hl2:x.n.votes.length<=100000000:=by have:=hx.vl;omega
 have hl3:x.n.blocks.length<=4:=hx.ok.b4;have hrc:=hx.ok.recv hD;obtain⟨n',hn'⟩:∃y,y=x.n.recvN k f n1 n2 n4 n5 n6 n7 n8 zs ec:=⟨_,rfl⟩;obtain⟨o,ho⟩:∃y,y=x.n.recvO k f n1 n2 n6 n7 zs ec:=⟨_,rfl⟩;have HSM:Hid (∀d∈cP o,d.bs.length<=300):=by unfold Hid;rw[ho];exact yL _ _ _ _ _ _ _ _ _
 rw[←hn']at hrc;have HRC:=aA hrc;have HI:=aA hI;have HX:=aA hx;have HXE:=aA hxe
 have HP:∀w2 vb,cG w2 base t x->aJ w2->base<=w2.heap.size->(∀W,aD x.Kn w2 W->aR W W.heap.size vb S.data.toList)->Hid (Calls pG 91 #[P0 (Y ⟨x.Kn,0,Z⟩),vb] w2 fun r w'=>∃l vr' va' fs' d',r=.returned l/\jR w2 w' o l/\iG w2 w' base t x n' vr' va' fs' d'):=by
  intro w2 vb a1 a2 a3 a4;unfold Hid;rw[hn',ho];exact CH hSO hBW hBS hLO hUO base t x S.data.toList vb k f n1 n2 n3 n4 n5 n6 n7 n8 zs ec w2 a1 a2 (by omega) a3 a4 hD (by omega)
 have HDR:∀W low X (vr vv vb:Value),bO W low X x.n vr vv vb (J Z 0 0) (J Z 0 0) (J Z 0 0)->low<=W.heap.size->Hid (Calls pG 121 #[P0 (Y ⟨X,0,Z⟩),.string S] W fun r w'=>eE W low X n' vr vb (J Z 0 0) o r w'):=by
  intro W low X vr vv vb a1 a2;unfold Hid;rw[hn',ho];exact EO low X x.n vr vv vb (J Z 0 0) S k f n1 n2 n3 n4 n5 n6 n7 n8 zs ec W a1 a2 hx.ok hl1 hl2 (by omega) hD
 have hnl1:n'.recs.length<=100000000:=by have:=hx.bd.recs;rw[hx.alike.recs]at this;omega
 have hnl2:n'.votes.length<=100000000:=by have:=hx.vl;omega
 have hnl3:n'.blocks.length=x.n.blocks.length:=hrc.2.2.2.1;have HNB:=aA hnl3
 have hRR:Hid (n'.recs.length=x.n.recs.length->n'.recs=x.n.recs):=by
  unfold Hid;rw[hn'];exact CG x.n k f n1 n2 n4 n5 n6 n7 n8 zs ec
 clear hI hx hxe hrc hn' ho hD hnl3;go_enter Tryz.func69,Tryz.ntmps69
 go_wp2_with fail
 refine(vG S w hS).mono ?_;rintro r w1 ⟨rfl,hlent,hb1⟩;have hz1:w.heap.size<w1.heap.size:=(hlent.lt w.heap.size rfl).2;have HX1:=aA (HX.out.later hb1);have HL1:=aA hlent;have HB1:=aA hb1;have q0:=HX1.out.host.cell 0;have q1:=HX1.out.host.cell 1;simp at q0 q1;clear hlent hb1
 go_wp2_with fail
 refine(nN base x.D x.H x.S x.va x.fs (-1) w1 HX1.out.dk.hands HX1.out.dk.ds).mono ?_;rintro r w2 ⟨rfl,rfl⟩
 go_wp2_with fail
 have hrest:∀W,aD x.Kn w2 W->aR W W.heap.size (J (Y ⟨w.heap.size,0,Z⟩) S.size (S.size+3)) S.data.toList:=by
  intro W hW;have hxl:(Lib.byteCells S.data.toList).length=S.size:=by rw[Lib.byteCells_length];exact Array.length_toList
  have hKn:x.Kn<w.heap.size:=HX.out.kn.lt;have ho1:=aH (w':=W) HL1.out (fun g hg=>hW.block g (by have:=(HL1.out.lt g hg).1;omega));have hsW:=hW.size;refine⟨some ⟨w.heap.size,0,Z⟩,S.size+3,by rw[Array.length_toList];rfl,by rw[Array.length_toList];show S.size<=_;omega,by unfold maxLen;omega,.inr ⟨w.heap.size,0,rfl,by omega,fun j hj=>?_⟩⟩;have hj':j<S.size:=by simpa using hj
  rw[Nat.zero_add,ho1.cellAt j (by omega),oM (by rw[hxl];exact hj')];simp[Lib.byteCells,hj']
 refine(HP w2 _ HX1.out (HI.out.tabs.below (HB1.out.mono (B':=2) (by omega)) (Nat.le_refl _)) (by omega) hrest).out.mono ?_;rintro r w3 ⟨l,vr',va',fs',d',rfl,hout,hP⟩;have HO3:=aA hout;have HP3:=aA hP;have hs3:=hP.kept.size
 have hlent3:w3.ownsRow w.heap.size 5 1 (J (Y ⟨w.heap.size,0,Z⟩) (S.size+3) (S.size+3)) (S.size+3) (lent (Lib.byteCells S.data.toList) (.int .u8 77)):=aH HL1.out (fun g hg=>hP.kept.block g (HL1.out.lt g hg).2 (fun hh=>by
  have h8:=HX.out.lt (HD.feet_all hh);have h9:=(HL1.out.lt g hg).1
  omega))
 have HL3:=aA hlent3;clear hout hP hlent3 hrest HP q0 q1
 go_wp2_with fail
 refine(uV S w.heap.size w.heap.size w3 hS HL3.out).mono ?_;rintro r w4 ⟨rfl,hg4⟩;obtain⟨cur3,hB3⟩:=l8 HL3.out (g:=w.heap.size) rfl;have HP4:=aA (HP3.out.lent HB1.out hB3 hg4);have HO4:=aA (HO3.out.lent hz1 hg4);have HD4:=aA (HX.out.doc HP4.out.kept);have hs4:w.heap.size<w4.heap.size:=by have:=hg4.size;omega
 clear hg4 HO3 HP3 HL3 hB3 HL1 HX1 HB1 hs3 hz1;have q1:=HD4.out.host.cell 1;simp at q1
 go_wp2_with fail
 refine(nN base x.D x.H x.S va' fs' (-1) w4 HP4.out.dk.hands HP4.out.dk.ds).mono ?_;rintro r w5 ⟨rfl,rfl⟩;clear q1;obtain⟨ps,hpl,hprow,hpd⟩:=HO4.out.row;have HPL:=aA hpl;have HPR:=aA hprow;have HPD:=aA hpd;clear hpl hprow hpd HO4;obtain⟨gm,cm0,hvm,hgm,hgc⟩:=jA HD4.out.may (by omega);have HVM:=aA hvm
 have HG:Hid (∀W,Below w5.heap.size w5 W->∀j (hj:j<14),W.cell? ⟨gm,j,Z⟩=Y ((cY x.n x.rr x.rv x.rb).getD j undef)):=by
  intro W hW j hj;refine(hW.cell (p:=⟨gm,j,Z⟩) hgm).trans (hgc j _ ?_);rw[List.getD_eq_getElem?_getD,List.getElem?_eq_getElem (by simpa[cY] using hj)];rfl
 clear hvm hgc
 go_wp2_with fail
 go_loopw [12,13,14,15,16,17,18] (fun m ix _ _ _ _ _ wr=>(m=J Z 0 0/\ix=I T 0/\wr=w5)∨(ix=I T 1/\∃am cm a b c9,m=J am 1 cm/\wr.ownsRow w5.heap.size 225 14 m 1 (cY n' a b c9)/\wr.ownsRow w5.heap.size 66 3 a n'.recs.length (n'.recs.flatMap aM.cells)/\wr.ownsRow w5.heap.size 275 5 b n'.votes.length (n'.votes.flatMap aS.cells)/\wr.ownsRow w5.heap.size 3 1 c9 n'.blocks.length (n'.blocks.map (Value.int .i64))/\Below w5.heap.size w5 wr)) (fun _ ix _ _ _ _ _ _=>1 - (intOf ix).toNat)
 case atStart=>exact .inl ⟨rfl,rfl,rfl⟩
 case round=>
  rcases hrel with⟨rfl,rfl,hw5⟩|⟨rfl,am,cm,a,b,c9,rfl,hm1,hm2,hm3,hm4,hb5⟩
  ·have hw6:w5=wr:=hw5.symm;clear hw5;subst hw6;have d3:=HD4.out.host.cell 3;simp at d3;rw[HVM.out]at d3;have e0:=HG.out _ (Below.refl _ _) 0 (by omega);have e1:=HG.out _ (Below.refl _ _) 1 (by omega);have e2:=HG.out _ (Below.refl _ _) 2 (by omega);have e3:=HG.out _ (Below.refl _ _) 3 (by omega);have e4:=HG.out _ (Below.refl _ _) 4 (by omega);have e5:=HG.out _ (Below.refl _ _) 5 (by omega);have e6:=HG.out _ (Below.refl _ _) 6 (by omega);have e7:=HG.out _ (Below.refl _ _) 7 (by omega);have e8:=HG.out _ (Below.refl _ _) 8 (by omega);have e9:=HG.out _ (Below.refl _ _) 9 (by omega);have e10:=HG.out _ (Below.refl _ _) 10 (by omega);have e11:=HG.out _ (Below.refl _ _) 11 (by omega);have e12:=HG.out _ (Below.refl _ _) 12 (by omega);have e13:=HG.out _ (Below.refl _ _) 13 (by omega);simp[cY]at e0 e1 e2 e3 e4 e5 e6 e7 e8 e9 e10 e11 e12 e13
   go_wp2_with fail
   refine(sM x.n x.rr x.rv x.rb w5 (aP.of_owns HD4.out.rr) (aP.of_owns HD4.out.rv) (aP.of_owns HD4.out.rb) hl1 hl2 (by omega)).mono ?_;rintro r w6 ⟨a,b,c9,rfl,oa,ob,oc,hb6⟩;clear d3 e0 e1 e2 e3 e4 e5 e6 e7 e8 e9 e10 e11 e12 e13;have HOA:=aA oa;have HOB:=aA ob;have HOC:=aA oc;have HB6:=aA hb6;have hs6:=hb6.size;clear oa ob oc hb6;obtain⟨a1,k1,ea⟩:=aO HOA.out;obtain⟨a2,k2,eb⟩:=aO HOB.out;obtain⟨a3,k3,ec9⟩:=aO HOC.out;subst ea eb ec9;have HBK:=aA (aB.new w6 #[I T x.n.id,I T x.n.nodes,J a1 x.n.recs.length k1,J a2 x.n.votes.length k2,J a3 x.n.blocks.length k3,I T x.n.seen,I T x.n.last,bool x.n.act,J Z 0 0,J Z 0 0,I T x.n.ops,J Z 0 0,bool false,J Z 0 0] 225);have HAL:Hid (Below w6.heap.size w6 (w6.alloc (G #[I T x.n.id,I T x.n.nodes,J a1 x.n.recs.length k1,J a2 x.n.votes.length k2,J a3 x.n.blocks.length k3,I T x.n.seen,I T x.n.last,bool x.n.act,J Z 0 0,J Z 0 0,I T x.n.ops,J Z 0 0,bool false,J Z 0 0] 225))):=(Below.refl _ _).alloc (Nat.le_refl _) _;have hz7:(w6.alloc (G #[I T x.n.id,I T x.n.nodes,J a1 x.n.recs.length k1,J a2 x.n.votes.length k2,J a3 x.n.blocks.length k3,I T x.n.seen,I T x.n.last,bool x.n.act,J Z 0 0,J Z 0 0,I T x.n.ops,J Z 0 0,bool false,J Z 0 0] 225)).heap.size=w6.heap.size+1:=by simp
   go_wp2_with fail
   generalize (w6.alloc (G #[I T x.n.id,I T x.n.nodes,J a1 x.n.recs.length k1,J a2 x.n.votes.length k2,J a3 x.n.blocks.length k3,I T x.n.seen,I T x.n.last,bool x.n.act,J Z 0 0,J Z 0 0,I T x.n.ops,J Z 0 0,bool false,J Z 0 0] 225))=W7 at*;have HB7:Hid (Below w5.heap.size w5 W7):=HB6.out.trans (HAL.out.mono hs6)
   have HN7:Hid (bO W7 w5.heap.size w6.heap.size x.n (J a1 x.n.recs.length k1) (J a2 x.n.votes.length k2) (J a3 x.n.blocks.length k3) (J Z 0 0) (J Z 0 0) (J Z 0 0)):=by
    have hne:∀g,g<w6.heap.size->W7.heap[g]?=w6.heap[g]?:=fun g hg=>HAL.out.block g hg;exact⟨HBK.out.blk,hs6,aH HOA.out (fun g hg=>hne g (HOA.out.lt g hg).2),aH HOB.out (fun g hg=>hne g (HOB.out.lt g hg).2),aH HOC.out (fun g hg=>hne g (HOC.out.lt g hg).2)⟩
   clear HOA HOB HOC HBK HAL HB6;generalize w6.heap.size=X at*;refine(HDR W7 w5.heap.size X _ _ _ HN7.out (by omega)).out.mono ?_;rintro r w8 ⟨hout8,vr2,vv2,vb2,hN8,hk8⟩;obtain⟨m8,rfl,hm8⟩:=hout8.row;have hs8:=hk8.size
   have HB8:Hid (Below w5.heap.size w5 w8):=by
    refine HB7.out.trans ⟨hk8.os,hk8.tape,hk8.output,hs8,fun g hg=>hk8.block g (by omega) ?_⟩;rintro(h9|h9|h9)
    ·omega
    ·have:=(HN7.out.r.lt g h9).1;omega
    ·have:=(HN7.out.b.lt g h9).1;omega
   have HN8:=aA hN8;have HM8:=aA hm8
   have SP:Hid (Calls pG 122 #[l,m8] w8 fun e w'=>e=.returned (.bool true)/\Below w8.heap.size w8 w'):=by
    have hpr:=aH (w':=w8) HPR.out (fun g hg=>HB8.out.block g (HPR.out.lt g hg).2);refine uP ps (cP o) l m8 w8 (aP.of_owns hpr) HM8.out HPL.out ?_ ?_
    ·rw[HPL.out];cases o<;>simp[cP]
    ·intro j h h';obtain⟨h8,h9⟩:=HPD.out j h h';exact⟨h8,bJ.bytesAt (aH h9 (fun g hg=>HB8.out.block g (World.ownsRow.lt h9 g hg).2))⟩
   clear hN8 hk8 hout8 hm8 HN7 HB7
   go_wp2_with fail
   refine SP.out.mono ?_;rintro r w9 ⟨rfl,hb9⟩;have HB9:Hid (Below w5.heap.size w5 w9):=HB8.out.trans (hb9.mono HB8.out.size);have HN9:=aA (HN8.out.later hb9);have HD9:=aA (HD4.out.later HB9.out);have hs9:=HB9.out.size;clear hb9 HN8 HB8 SP HM8
   have SK:Hid (∀W,Below w9.heap.size w9 W->Calls pG 123 #[.agg #[vr2,vv2,vb2,I T n'.seen,I T n'.last],.agg #[x.rr,x.rv,x.rb,I T x.n.seen,I T x.n.last]] W fun e w'=>∃b,e=.returned (.bool b)/\Below W.heap.size W w'):=by
    intro W hW;have r1:=(HN9.out.later hW).r;have r2:=(HN9.out.later hW).v;have r3:=(HN9.out.later hW).b;have r4:=(HD9.out.later hW).rr;have r5:=(HD9.out.later hW).rv;have r6:=(HD9.out.later hW).rb;obtain⟨a1,c1,h1⟩:=aO r1;obtain⟨a2,c2,h2⟩:=aO r2;obtain⟨a3,c3,h3⟩:=aO r3;obtain⟨a4,c4,h4⟩:=aO r4;obtain⟨a5,c5,h5⟩:=aO r5;obtain⟨a6,c6,h6⟩:=aO r6;rw[h1]at r1;rw[h2]at r2;rw[h3]at r3;rw[h4]at r4;rw[h5]at r5;rw[h6]at r6;rw[h1,h2,h3,h4,h5,h6];exact wB n'.recs x.n.recs n'.votes x.n.votes n'.blocks x.n.blocks n'.seen n'.last x.n.seen x.n.last a1 a2 a3 a4 a5 a6 c1 c2 c3 c4 c5 c6 W (aP.of_owns r1) (aP.of_owns r2) (aP.of_owns r3) (aP.of_owns r4) (aP.of_owns r5) (aP.of_owns r6) hRR.out HNB.out hnl1 hnl2 hl2 (by have:=HNB.out;omega) hl1
   have d3:=HD9.out.host.cell 3;simp at d3;rw[HVM.out]at d3;have e2:=HG.out w9 HB9.out 2 (by omega);have e3:=HG.out w9 HB9.out 3 (by omega);have e4:=HG.out w9 HB9.out 4 (by omega);have e5:=HG.out w9 HB9.out 5 (by omega);have e6:=HG.out w9 HB9.out 6 (by omega);simp[cY]at e2 e3 e4 e5 e6;have y2:=HN9.out.cell 2;have y3:=HN9.out.cell 3;have y4:=HN9.out.cell 4;have y5:=HN9.out.cell 5;have y6:=HN9.out.cell 6;simp at y2 y3 y4 y5 y6
   go_wp2_with fail
   go_cut [17] from 63 to 73 (fun s17 wx=>∃bb,s17=.bool bb/\Below w9.heap.size w9 wx)
   case first=>
    refine wp_region_held_drew (S:=(fun w'=>w'.cell? ⟨x.hb,3,Z⟩=Y (J (Y ⟨gm,0,Z⟩) 1 cm0)/\w'.cell? ⟨gm,2,Z⟩=Y x.rr/\w'.cell? ⟨gm,3,Z⟩=Y x.rv/\w'.cell? ⟨gm,4,Z⟩=Y x.rb/\w'.cell? ⟨gm,5,Z⟩=Y (I T x.n.seen)/\w'.cell? ⟨gm,6,Z⟩=Y (I T x.n.last)/\w'.cell? ⟨X,2,Z⟩=Y vr2/\w'.cell? ⟨X,3,Z⟩=Y vv2/\w'.cell? ⟨X,4,Z⟩=Y vb2/\w'.cell? ⟨X,5,Z⟩=Y (I T n'.seen)/\w'.cell? ⟨X,6,Z⟩=Y (I T n'.last))) (by kernel_rfl) (by(try dsimp only);(first|(and_intros<;>with_reducible assumption)|(and_intros<;>assumption)|go_keep)) (fun hHeld=>?_);refine wpAnyH_take (i:=0) (v:=?_) rfl (by kernel_rfl) (by kernel_rfl) (by kernel_rfl) (fun _ _ _ h=>h) (Or.inl ⟨by rfl,?_⟩) (by assumption) ?_;rotate_left
    ·intro w hSw;(try dsimp only at hSw);go_simp;(try with_reducible rfl)
    try simp only[Act.put,List.setIfInBounds_toArray,List.set_cons_zero,List.set_cons_succ]
    refine wpAnyH_take (i:=1) (v:=?_) rfl (by kernel_rfl) (by kernel_rfl) (by kernel_rfl) (fun _ _ _ h=>h) (Or.inl ⟨by rfl,?_⟩) (by assumption) ?_;rotate_left
    ·intro w hSw;(try dsimp only at hSw);go_simp;(try with_reducible rfl)
    try simp only[Act.put,List.setIfInBounds_toArray,List.set_cons_zero,List.set_cons_succ]
    refine wpAnyH_take (i:=2) (v:=?_) rfl (by kernel_rfl) (by kernel_rfl) (by kernel_rfl) (fun _ _ _ h=>h) (Or.inl ⟨by rfl,?_⟩) (by assumption) ?_;rotate_left
    ·intro w hSw;(try dsimp only at hSw);go_simp;(try with_reducible rfl)
    try simp only[Act.put,List.setIfInBounds_toArray,List.set_cons_zero,List.set_cons_succ]
    refine wpAnyH_take (i:=3) (v:=?_) rfl (by kernel_rfl) (by kernel_rfl) (by kernel_rfl) (fun _ _ _ h=>h) (Or.inl ⟨by rfl,?_⟩) (by assumption) ?_;rotate_left
    ·intro w hSw;(try dsimp only at hSw);go_simp;(try with_reducible rfl)
    try simp only[Act.put,List.setIfInBounds_toArray,List.set_cons_zero,List.set_cons_succ]
    refine wpAnyH_take (i:=4) (v:=?_) rfl (by kernel_rfl) (by kernel_rfl) (by kernel_rfl) (fun _ _ _ h=>h) (Or.inl ⟨by rfl,?_⟩) (by assumption) ?_;rotate_left
    ·intro w hSw;(try dsimp only at hSw);go_simp;(try with_reducible rfl)
    try simp only[Act.put,List.setIfInBounds_toArray,List.set_cons_zero,List.set_cons_succ]
    refine wpAnyH_take (i:=5) (v:=?_) rfl (by kernel_rfl) (by kernel_rfl) (by kernel_rfl) (fun _ _ _ h=>h) (Or.inl ⟨by rfl,?_⟩) (by assumption) ?_;rotate_left
    ·intro w hSw;(try dsimp only at hSw);go_simp;(try with_reducible rfl)
    try simp only[Act.put,List.setIfInBounds_toArray,List.set_cons_zero,List.set_cons_succ]
    refine wpAnyH_take (i:=6) (v:=?_) rfl (by kernel_rfl) (by kernel_rfl) (by kernel_rfl) (fun _ _ _ h=>h) (Or.inl ⟨by rfl,?_⟩) (by assumption) ?_;rotate_left
    ·intro w hSw;(try dsimp only at hSw);go_simp;(try with_reducible rfl)
    try simp only[Act.put,List.setIfInBounds_toArray,List.set_cons_zero,List.set_cons_succ]
    refine wpAnyH_take (i:=7) (v:=?_) rfl (by kernel_rfl) (by kernel_rfl) (by kernel_rfl) (fun _ _ _ h=>h) (Or.inl ⟨by rfl,?_⟩) (by assumption) ?_;rotate_left
    ·intro w hSw;(try dsimp only at hSw);go_simp;(try with_reducible rfl)
    try simp only[Act.put,List.setIfInBounds_toArray,List.set_cons_zero,List.set_cons_succ]
    refine wpAnyH_take (i:=8) (v:=?_) rfl (by kernel_rfl) (by kernel_rfl) (by kernel_rfl) (fun _ _ _ h=>h) (Or.inl ⟨by rfl,?_⟩) (by assumption) ?_;rotate_left
    ·intro w hSw;(try dsimp only at hSw);go_simp;(try with_reducible rfl)
    try simp only[Act.put,List.setIfInBounds_toArray,List.set_cons_zero,List.set_cons_succ]
    refine wpAnyH_take (i:=9) (v:=?_) rfl (by kernel_rfl) (by kernel_rfl) (by kernel_rfl) (fun _ _ _ h=>h) (Or.inl ⟨by rfl,?_⟩) (by assumption) ?_;rotate_left
    ·intro w hSw;(try dsimp only at hSw);go_simp;(try with_reducible rfl)
    try simp only[Act.put,List.setIfInBounds_toArray,List.set_cons_zero,List.set_cons_succ]
    refine wpAnyH_ready (rs:=[10]) (by kernel_rfl) (by simp) ?_;refine AllReadyH.cons rfl (fun K hK=>?_) ?_
    ·(try go_simp)
     go_at_call 123
     refine(SK.out w9.drew (by exact(Below.refl _ _).drew)).mono ?_;rintro r wk ⟨bb,rfl,hbk⟩;have hbk2:Below w9.heap.size w9 wk:=(Below.refl w9.heap.size w9).drew.trans hbk;have HD13:=aA (HD9.out.later hbk2);have HN13:=aA (HN9.out.later hbk2);have d3:=HD13.out.host.cell 3;simp at d3;rw[HVM.out]at d3;have e2:=HG.out wk (HB9.out.trans (hbk2.mono hs9)) 2 (by omega);have e3:=HG.out wk (HB9.out.trans (hbk2.mono hs9)) 3 (by omega);have e4:=HG.out wk (HB9.out.trans (hbk2.mono hs9)) 4 (by omega);have e5:=HG.out wk (HB9.out.trans (hbk2.mono hs9)) 5 (by omega);have e6:=HG.out wk (HB9.out.trans (hbk2.mono hs9)) 6 (by omega);simp[cY]at e2 e3 e4 e5 e6;have y2:=HN13.out.cell 2;have y3:=HN13.out.cell 3;have y4:=HN13.out.cell 4;have y5:=HN13.out.cell 5;have y6:=HN13.out.cell 6;simp at y2 y3 y4 y5 y6;refine hK.out _ _ ?_ (fun hHeld=>?_)
     ·(try dsimp only);(first|(and_intros<;>with_reducible assumption)|(and_intros<;>assumption)|go_keep)
     clear hK K
     try simp only[Act.put,List.setIfInBounds_toArray,List.set_cons_zero,List.set_cons_succ]
     refine wpAnyH_ready (rs:=[11]) (by kernel_rfl) (by simp) ?_;refine AllReadyH.cons rfl (fun K hK=>?_) ?_
     ·(try go_simp)
      refine hK.out _ _ ?_ (fun hHeld=>?_)
      ·(try dsimp only);(first|(and_intros<;>with_reducible assumption)|(and_intros<;>assumption)|go_keep)
      clear hK K
      try simp only[Act.put,List.setIfInBounds_toArray,List.set_cons_zero,List.set_cons_succ]
      refine wpAnyH_done (by kernel_rfl) ?_ _
      go_wp2_with fail
      go_meet
      exact⟨_,rfl,hbk2⟩
     exact AllReadyH.nil
    exact AllReadyH.nil
   case rest=>
    obtain⟨bb,rfl,hbx⟩:=hcut;obtain⟨wx,hwx⟩:∃y,y=wc:=⟨_,rfl⟩;subst hwx;have HB10:Hid (Below w5.heap.size w5 wx):=HB9.out.trans (hbx.mono hs9);have HN10:=aA (HN9.out.later hbx);clear hbx SK HN9 HB9 HD9 d3 e2 e3 e4 e5 e6 y2 y3 y4 y5 y6;obtain⟨y0,y1,y2,y3,y4,y5,y6,y7,y8,y9,y10,y11,y12,y13⟩:=HN10.out.c14;obtain⟨i225,hi225,z225,s225,b225⟩:=info_parts tN;have hs10:=HB10.out.size
    have HONE:Hid (∀u∈cY n' vr2 vv2 vb2,u.oneCell'=true):=by
     have e1:=aO HN10.out.r;have e2:=aO HN10.out.v;have e3:=aO HN10.out.b;obtain⟨_,_,e1⟩:=e1;obtain⟨_,_,e2⟩:=e2;obtain⟨_,_,e3⟩:=e3;intro u hu;simp[cY]at hu;rw[e1,e2,e3]at hu;rcases hu with rfl|rfl|rfl|rfl|rfl|rfl|rfl|rfl|rfl|rfl|rfl|rfl|rfl<;>rfl
    cases bb
    case false=>
     go_wp2_with(at_builtin;go_loud (refine iY rfl _ _ 142 rfl w5.heap.size 225 i225 (.agg #[I T 0,I T 0,J Z 0 0,J Z 0 0,J Z 0 0,I T 0,I T 0,bool false,J Z 0 0,J Z 0 0,I T 0,J Z 0 0,bool false,J Z 0 0]) 14 224 Tryz.underlying142 hi225 z225 s225 b225 rfl (by decide) (J Z 0 0) 0 [] rfl (World.ownsRow_nil _ _ _ _) (J (Y ⟨wx.heap.size,0,Z⟩) 1 1) 1 (cY n' vr2 vv2 vb2) rfl ?r1 ?r2 ?r3 ?r4 ?r5 ?r6 ?_))
     case r1=>exact .inr ⟨wx.heap.size,1,rfl,by simp,fun j u hu=>(World.cell?_alloc_at _ _ _ _ rfl).trans (by simpa[cY] using hu)⟩
     case r2=>rfl
     case r3=>exact HONE.out
     case r4=>unfold maxLen;omega
     case r5=>omega
     case r6=>show _<=(World.alloc _ _).heap.size;simp;omega
     intro v' w' hown hgr;obtain⟨am,cm,rfl⟩:=aO hown
     have HF:Hid (w'.ownsRow w5.heap.size 225 14 (J am 1 cm) 1 (cY n' vr2 vv2 vb2)/\w'.ownsRow w5.heap.size 66 3 vr2 n'.recs.length (n'.recs.flatMap aM.cells)/\w'.ownsRow w5.heap.size 275 5 vv2 n'.votes.length (n'.votes.flatMap aS.cells)/\w'.ownsRow w5.heap.size 3 1 vb2 n'.blocks.length (n'.blocks.map (Value.int .i64))/\Below w5.heap.size w5 w'):=by
      have hbx:Below wx.heap.size wx w':=⟨hgr.os,hgr.tape,hgr.output,Nat.le_trans (by show _<=(World.alloc _ _).heap.size;simp) hgr.size,fun g hg=>(hgr.block g (by show _<(World.alloc _ _).heap.size;simp;omega) (by simp[Value.ownBlock])).trans (heap_alloc_old wx _ hg)⟩;have hN:=HN10.out.later hbx;exact⟨by simpa using hown,hN.r,hN.v,hN.b,HB10.out.trans (hbx.mono hs10)⟩
     clear hown hgr;go_wp2
     go_roundw
     case rel=>exact .inr ⟨by go_num,am,cm,vr2,vv2,vb2,rfl,HF.out.1,HF.out.2.1,HF.out.2.2.1,HF.out.2.2.2.1,HF.out.2.2.2.2⟩
     case measure=>simp[intOf]
    case true=>
     go_wp2_with(at_builtin;go_loud (refine iY rfl _ _ 142 rfl w5.heap.size 225 i225 (.agg #[I T 0,I T 0,J Z 0 0,J Z 0 0,J Z 0 0,I T 0,I T 0,bool false,J Z 0 0,J Z 0 0,I T 0,J Z 0 0,bool false,J Z 0 0]) 14 224 Tryz.underlying142 hi225 z225 s225 b225 rfl (by decide) (J Z 0 0) 0 [] rfl (World.ownsRow_nil _ _ _ _) (J (Y ⟨wx.heap.size,0,Z⟩) 1 1) 1 (cY n' vr2 vv2 vb2) rfl ?r1 ?r2 ?r3 ?r4 ?r5 ?r6 ?_))
     case r1=>exact .inr ⟨wx.heap.size,1,rfl,by simp,fun j u hu=>(World.cell?_alloc_at _ _ _ _ rfl).trans (by simpa[cY] using hu)⟩
     case r2=>rfl
     case r3=>exact HONE.out
     case r4=>unfold maxLen;omega
     case r5=>omega
     case r6=>show _<=(World.alloc _ _).heap.size;simp;omega
     intro v' w' hown hgr;obtain⟨am,cm,rfl⟩:=aO hown
     have HF:Hid (w'.ownsRow w5.heap.size 225 14 (J am 1 cm) 1 (cY n' vr2 vv2 vb2)/\w'.ownsRow w5.heap.size 66 3 vr2 n'.recs.length (n'.recs.flatMap aM.cells)/\w'.ownsRow w5.heap.size 275 5 vv2 n'.votes.length (n'.votes.flatMap aS.cells)/\w'.ownsRow w5.heap.size 3 1 vb2 n'.blocks.length (n'.blocks.map (Value.int .i64))/\Below w5.heap.size w5 w'):=by
      have hbx:Below wx.heap.size wx w':=⟨hgr.os,hgr.tape,hgr.output,Nat.le_trans (by show _<=(World.alloc _ _).heap.size;simp) hgr.size,fun g hg=>(hgr.block g (by show _<(World.alloc _ _).heap.size;simp;omega) (by simp[Value.ownBlock])).trans (heap_alloc_old wx _ hg)⟩;have hN:=HN10.out.later hbx;exact⟨by simpa using hown,hN.r,hN.v,hN.b,HB10.out.trans (hbx.mono hs10)⟩
     clear hown hgr;go_wp2
     go_roundw
     case rel=>exact .inr ⟨by go_num,am,cm,vr2,vv2,vb2,rfl,HF.out.1,HF.out.2.1,HF.out.2.2.1,HF.out.2.2.2.1,HF.out.2.2.2.2⟩
     case measure=>simp[intOf]
  ·have hnl:¬((1:Int)<1):=by omega
   have d3:=(HD4.out.later hb5).host.cell 3;simp at d3;rw[HVM.out]at d3
   have HF:Hid (Calls pG 125 #[P0 (Y ⟨R,0,Z⟩),P0 (Y ⟨x.hb,0,Z⟩),J am 1 cm,l] wr fun r w'=>r=.returned (.bool true)/\dB base R (t+1) w'/\bM base R w w'):=
    yM HI.out i hi x HXE.out ht HP4.out HD4.out hb5 hm1 hm2 hm3 hm4 HRC.out.1 (by have:=HRC.out.2.2.1;have:=HX.out.vl;omega) HPL.out HPR.out HPD.out HSM.out
   clear hm1 hm2 hm3 hm4 hb5
   go_wp2_with fail
   refine HF.out.mono ?_;rintro r w9 ⟨rfl,hfin⟩;have HG9:=aA hfin;clear hfin;go_wp2;go_ret;exact⟨rfl,HG9.out⟩
theorem cX.add{base R t:Nat}{w:World}{ao:Option Addr}{c:Nat}{ms:List aU}{vh vs:Value}{hs:List HD}{ss:List (List UInt8)}{v:Nat->Value}{es:Nat->List bU}(hI:cX base R t w ao c ms vh vs hs ss v es){w':World}(x0:HD)(h0:cG w' base (t+1) x0)(hnew:∀g,x0.all g->w.heap.size<=g)(vh':Value)(hc:∀i,i≠2->w'.cell? ⟨R,i,Z⟩=w.cell? ⟨R,i,Z⟩)(hf:∀i,w'.frozen? ⟨R,i,Z⟩=false)(hc2:w'.cell? ⟨R,2,Z⟩=Y vh')(hr:w'.ownsRow base 141 1 vh' (hs++[x0]).length ((hs++[x0]).map (fun x=>P0 (Y ⟨x.hb,0,Z⟩))))(hvh:∀g,vh'.ownBlock=Y g->vh.ownBlock=Y g∨w.heap.size<=g)(hkp:aK (fun g=>g=R∨vh.ownBlock=Y g) w w'):
  cX base R (t+1) w' ao c ms vh' vs (hs++[x0]) ss v es/\bM base R w w':=by
 obtain⟨hlow1,hlow2⟩:=hI.low
 have hsv:bM base R w w':=⟨hkp.os,hkp.tape,hkp.output,hkp.size,fun k h1 h2=>hkp.block k (by omega) (by
  rintro(h3|h3)
  ·exact h2 h3
  ·have:=(hI.hrow.lt k h3).1;omega)⟩
 have hold:∀y∈hs,∀g,y.all g->g≠R/\vh.ownBlock≠some g:=fun y hy g hg=>⟨fun hh=>by have:=(hI.hosts y hy).low g hg;omega,(hI.hosts y hy).off hI.hrow (by decide) hg⟩
 have hmem:∀j (hj:j<(hs++[x0]).length),(∃h:j<hs.length,(hs++[x0])[j]=hs[j])∨(j=hs.length/\(hs++[x0])[j]=x0):=by
  intro j hj
  by_cases h:j<hs.length
  ·exact .inl ⟨h,List.getElem_append_left h⟩
  ·have:j=hs.length:=by simp at hj;omega
   subst this;exact .inr ⟨rfl,by simp⟩
 refine⟨⟨hI.two,hI.tabs.saved hsv hI.two hlow1,(hc 0 (by omega)).trans hI.c0,hI.goods.saved hsv,hI.mok,hI.mlen,hc2,(hc 3 (by omega)).trans hI.c3,hr,?_,hI.slen,?_,?_,?_,by rw[List.length_append];have:=hI.hlen;simp;omega,by have:=hI.sl;omega,fun k hk=>by have:=hI.el k hk;omega⟩,hsv⟩
 ·refine aH hI.srow (fun g hg=>hkp.block g (hI.srow.lt g hg).2 ?_);rintro(h3|h3)
  ·have:=(hI.srow.lt g hg).1;omega
  ·exact iU hI.hrow hI.srow (by decide) g h3 hg
 ·intro y hy;rcases List.mem_append.1 hy with h1|h1
  ·refine((hI.hosts y h1).kept (fun g hg=>hkp.block g ((hI.hosts y h1).lt hg) ?_)).up (by omega);rintro(h3|h3)
   ·exact(hold y h1 g hg).1 h3
   ·exact(hold y h1 g hg).2 h3
  ·obtain rfl:y=x0:=by simpa using h1
   exact h0
 ·intro a b ha hb hab g h1 h2;rcases hmem a ha with⟨a1,h3⟩|⟨a1,h3⟩
  ·rw[h3]at h1;rcases hmem b hb with⟨b1,h4⟩|⟨b1,h4⟩
   ·rw[h4]at h2;exact hI.apart a b a1 b1 hab g h1 h2
   ·rw[h4]at h2;have:=hnew g h2;have:=(hI.hosts _ (List.getElem_mem a1)).lt h1;omega
  ·rw[h3]at h1;rcases hmem b hb with⟨b1,h4⟩|⟨b1,h4⟩
   ·rw[h4]at h2;have:=hnew g h1;have:=(hI.hosts _ (List.getElem_mem b1)).lt h2;omega
   ·omega
 ·refine hI.led.shiftR hkp.size (fun g h1 h2 h3=>hkp.block g h1 ?_) (fun k hk=>hc (4+k) (by omega)) hf ?_
  ·rintro(h4|h4)
   ·exact h3 h4
   ·exact h2 (.inr (.inl h4))
  ·rintro g h1 (⟨y,hy,h2⟩|h2|h2)
   ·rcases List.mem_append.1 hy with h3|h3
    ·exact .inl ⟨y,h3,h2⟩
    ·obtain rfl:y=x0:=by simpa using h3
     have:=hnew g h2;omega
   ·rcases hvh g h2 with h3|h3
    ·exact .inr (.inl h3)
    ·omega
   ·exact .inr (.inr h2)
theorem ET{base R t:Nat}{w:World}{ao:Option Addr}{c:Nat}{ms:List aU}{vh vs:Value}{hs:List HD}{ss:List (List UInt8)}{v:Nat->Value}{es:Nat->List bU}(hI:cX base R t w ao c ms vh vs hs ss v es)(A B C:Int)(S:ByteArray)(hno:eA A B C=false):
  Calls pG 65 #[P0 (Y ⟨R,0,Z⟩),.agg #[I T 4,I T A,I T B,I T C,Value.string S]] w fun r w'=>r=.returned (.bool true)/\dB base R (t+1) w'/\bM base R w w':=by
 have hb0:=(Below.refl w.heap.size w).alloc (Nat.le_refl _) (G #[I T 4,I T A,I T B,I T C,Value.string S] 93);have HM:=aA (aB.new w #[I T 4,I T A,I T B,I T C,Value.string S] 93);have HB0:=aA hb0;have HI:=aA hI;clear hb0 hI;go_enter Tryz.func65,Tryz.ntmps65
 go_wp2_with fail
 generalize (w.alloc (G #[I T 4,I T A,I T B,I T C,Value.string S] 93))=W0 at*;have hs0:=HB0.out.size;refine(sK base W0).mono ?_;rintro r w1 ⟨rfl,hds,hhd,hb1,hsz1⟩;have HM1:=aA (HM.out.later hb1);have HB1:=aA (HB0.out.trans (hb1.mono hs0));have hs1:W0.heap.size+3<=w1.heap.size:=by omega
 have HDK:Hid (aL w1 base (W0.heap.size+1) (W0.heap.size+2) W0.heap.size (J Z 0 0) [] 0):=⟨hhd,hds,by omega,by omega,.inl rfl,by simp⟩;clear hds hhd hb1 hsz1 HM HB0;have m1:=HM1.out.cell 1;have m2:=HM1.out.cell 2;have m3:=HM1.out.cell 3;simp at m1 m2 m3
 go_wp2_with fail
 refine(sU A B C _ w1 (.inl hno)).mono ?_;rintro r w2 ⟨rfl,rfl⟩
 go_wp2_with fail
 refine(rQ A B C w2).mono ?_;rintro r w3 ⟨rfl,rfl⟩;rw[hno];go_wp2;go_ret;exact⟨rfl,⟨_,_,_,_,_,_,_,_,_,HI.out.later HB1.out (Nat.le_succ t)⟩,HI.out.save HB1.out⟩
theorem yN{base R t:Nat}{w:World}{ao:Option Addr}{c:Nat}{ms:List aU}{vh vs:Value}{hs:List HD}{ss:List (List UInt8)}{v:Nat->Value}{es:Nat->List bU}(hI:cX base R t w ao c ms vh vs hs ss v es){w1 w2 w3 W4 w':World}(A:Int)(N M:Nat)(ss0:Int)(Kn Nd St Mp DD HH SS:Nat)(vr:Value)(a1 a3:Option Addr)(k1 k3:Nat)(ah:Option Addr)(ch:Nat)(vx:Value)(hN2:2<=N)(hN5:N<=5)(hA0:0<=A)(hAN:A<N)(hM1:1<=M)(hM4:M<=4)(hse:ss0=(2:Int) ^ N - 1)(hss:0<=ss0/\ss0<=31)(hvh:vh=J ah hs.length ch)(hb1:Below w.heap.size w w1)(hb2:Below w1.heap.size w1 w2)(hb3:Below w2.heap.size w2 w3)(hb4:Below w3.heap.size w3 W4)(lD:w.heap.size<=DD/\w.heap.size<=HH/\w.heap.size<=SS)(hdk:aL w1 base DD HH SS (J Z 0 0) [] 0)(hkn:aB w2 Kn #[Value.int IntKind.i32 0,Value.int IntKind.u32 0,P0 (Y ⟨Nd,0,Z⟩)] 134)(hnd:aI w2 Nd A (N:Int) (M:Int) St false)(hst:aF w2 base St (⟨A,[⟨0,0,ss0⟩],[],0,0,0,0,0,0,0⟩:SD) vr Mp DD)(lo:w1.heap.size<=Kn/\w1.heap.size<=Nd/\w1.heap.size<=St/\w1.heap.size<=Mp/\∀g,vr.ownBlock=Y g->w1.heap.size<=g)(hr0:w3.ownsRow w2.heap.size 66 3 (J a1 1 k1) 1 [I T 0,I T 0,I T ((2:Int) ^ N - 1)])(hbb:w3.ownsRow w2.heap.size 3 1 (J a3 M k3) M ((List.replicate M (0:Int)).map (Value.int .i64)))(hA1:Below W4.heap.size W4 (((W4.alloc (G #[I T A,I T (N:Int),J a1 1 k1,J Z 0 0,J a3 M k3,I T 0,I T 0,bool false,J Z 0 0,J Z 0 0,I T 0,J Z 0 0,bool false,J Z 0 0] 225)).alloc (G #[P0 (Y ⟨Kn,0,Z⟩),P0 (Y ⟨DD,0,Z⟩),P0 (Y ⟨HH,0,Z⟩),J (Y ⟨W4.heap.size,0,Z⟩) 1 1] 144)).alloc (G #[P0 (Y ⟨W4.heap.size+1,0,Z⟩)] 141)))(hAs:(((W4.alloc (G #[I T A,I T (N:Int),J a1 1 k1,J Z 0 0,J a3 M k3,I T 0,I T 0,bool false,J Z 0 0,J Z 0 0,I T 0,J Z 0 0,bool false,J Z 0 0] 225)).alloc (G #[P0 (Y ⟨Kn,0,Z⟩),P0 (Y ⟨DD,0,Z⟩),P0 (Y ⟨HH,0,Z⟩),J (Y ⟨W4.heap.size,0,Z⟩) 1 1] 144)).alloc (G #[P0 (Y ⟨W4.heap.size+1,0,Z⟩)] 141)).heap.size=W4.heap.size+3)(hAh:aB (((W4.alloc (G #[I T A,I T (N:Int),J a1 1 k1,J Z 0 0,J a3 M k3,I T 0,I T 0,bool false,J Z 0 0,J Z 0 0,I T 0,J Z 0 0,bool false,J Z 0 0] 225)).alloc (G #[P0 (Y ⟨Kn,0,Z⟩),P0 (Y ⟨DD,0,Z⟩),P0 (Y ⟨HH,0,Z⟩),J (Y ⟨W4.heap.size,0,Z⟩) 1 1] 144)).alloc (G #[P0 (Y ⟨W4.heap.size+1,0,Z⟩)] 141)) (W4.heap.size+1) #[P0 (Y ⟨Kn,0,Z⟩),P0 (Y ⟨DD,0,Z⟩),P0 (Y ⟨HH,0,Z⟩),J (Y ⟨W4.heap.size,0,Z⟩) 1 1] 144)(hown:w'.ownsRow base 141 1 vx (hs.length+1) (hs.map (fun x=>P0 (Y ⟨x.hb,0,Z⟩))++[P0 (Y ⟨W4.heap.size+1,0,Z⟩)]))(hg:(((W4.alloc (G #[I T A,I T (N:Int),J a1 1 k1,J Z 0 0,J a3 M k3,I T 0,I T 0,bool false,J Z 0 0,J Z 0 0,I T 0,J Z 0 0,bool false,J Z 0 0] 225)).alloc (G #[P0 (Y ⟨Kn,0,Z⟩),P0 (Y ⟨DD,0,Z⟩),P0 (Y ⟨HH,0,Z⟩),J (Y ⟨W4.heap.size,0,Z⟩) 1 1] 144)).alloc (G #[P0 (Y ⟨W4.heap.size+1,0,Z⟩)] 141)).grownBy w' (Value.ownBlock (J ah hs.length ch)))(hloc:∀g,vx.ownBlock=Y g->Value.ownBlock (J ah hs.length ch)=Y g∨(((W4.alloc (G #[I T A,I T (N:Int),J a1 1 k1,J Z 0 0,J a3 M k3,I T 0,I T 0,bool false,J Z 0 0,J Z 0 0,I T 0,J Z 0 0,bool false,J Z 0 0] 225)).alloc (G #[P0 (Y ⟨Kn,0,Z⟩),P0 (Y ⟨DD,0,Z⟩),P0 (Y ⟨HH,0,Z⟩),J (Y ⟨W4.heap.size,0,Z⟩) 1 1] 144)).alloc (G #[P0 (Y ⟨W4.heap.size+1,0,Z⟩)] 141)).heap.size<=g)(hRw:∃u,w'.cell? ⟨R,2,Z⟩=Y u):
  dB base R (t+1) (w'.setCell ⟨R,2,Z⟩ vx)/\bM base R w (w'.setCell ⟨R,2,Z⟩ vx):=by
 obtain⟨hlow1,hlow2⟩:=hI.low;have s1:=hb1.size;have s2:=hb2.size;have s3:=hb3.size;have s4:=hb4.size;have sA:=hA1.size;have sg:=hg.size;have hmay:(((W4.alloc (G #[I T A,I T (N:Int),J a1 1 k1,J Z 0 0,J a3 M k3,I T 0,I T 0,bool false,J Z 0 0,J Z 0 0,I T 0,J Z 0 0,bool false,J Z 0 0] 225)).alloc (G #[P0 (Y ⟨Kn,0,Z⟩),P0 (Y ⟨DD,0,Z⟩),P0 (Y ⟨HH,0,Z⟩),J (Y ⟨W4.heap.size,0,Z⟩) 1 1] 144)).alloc (G #[P0 (Y ⟨W4.heap.size+1,0,Z⟩)] 141)).ownsRow base 225 14 (J (Y ⟨W4.heap.size,0,Z⟩) 1 1) 1 [I T A,I T (N:Int),J a1 1 k1,J Z 0 0,J a3 M k3,I T 0,I T 0,bool false,J Z 0 0,J Z 0 0,I T 0,J Z 0 0,bool false,J Z 0 0]:=World.ownsRow.alloc (World.ownsRow.alloc (World.ownsRow_lit W4 _ 1 (by omega) (by unfold maxLen;omega) rfl) _) _;generalize (((W4.alloc (G #[I T A,I T (N:Int),J a1 1 k1,J Z 0 0,J a3 M k3,I T 0,I T 0,bool false,J Z 0 0,J Z 0 0,I T 0,J Z 0 0,bool false,J Z 0 0] 225)).alloc (G #[P0 (Y ⟨Kn,0,Z⟩),P0 (Y ⟨DD,0,Z⟩),P0 (Y ⟨HH,0,Z⟩),J (Y ⟨W4.heap.size,0,Z⟩) 1 1] 144)).alloc (G #[P0 (Y ⟨W4.heap.size+1,0,Z⟩)] 141))=AW at*;have hb23:=hb3.trans ((hb4.mono s3).trans (hA1.mono (by omega)));have hb13:=hb2.trans (hb23.mono s2);have hb03:=hb1.trans (hb13.mono s1);have hb33:=hb4.trans (hA1.mono s4);obtain⟨lo1,lo2,lo3,lo4,lo5⟩:=lo
 have hnew:∀g,(⟨W4.heap.size+1,Kn,Nd,St,Mp,DD,HH,SS,vr,J Z 0 0,J (Y ⟨W4.heap.size,0,Z⟩) 1 1,J a1 1 k1,J Z 0 0,J a3 M k3,(⟨A,[⟨0,0,ss0⟩],[],0,0,0,0,0,0,0⟩:SD),[],(⟨A,(N:Int),[⟨0,0,(2:Int) ^ N - 1⟩],[],List.replicate M 0,0,0,false,[],[],0,[]⟩:RN)⟩:HD).all g->w.heap.size<=g:=by
  intro g hg;rcases hg with hg|hg|hg|hg|hg|(hg|hg|hg|hg|hg)|hg|hg|hg|hg
  ·have:g=W4.heap.size+1:=hg;omega
  ·have:g=Kn:=hg;omega
  ·have:g=Nd:=hg;omega
  ·have:g=DD:=hg;omega
  ·have:g=HH:=hg;omega
  ·have:g=St:=hg;omega
  ·have:g=Mp:=hg;omega
  ·have:=lo5 g hg;omega
  ·have:g=SS:=hg;omega
  ·simp[Value.ownBlock]at hg
  ·have h9:Value.ownBlock (J (Y ⟨W4.heap.size,0,Z⟩) 1 1)=Y g:=hg;simp[Value.ownBlock]at h9;omega
  ·have:=(hr0.lt g hg).1;omega
  ·simp[Value.ownBlock]at hg
  ·have:=(hbb.lt g hg).1;omega
 have hA:cG AW base (t+1) (⟨W4.heap.size+1,Kn,Nd,St,Mp,DD,HH,SS,vr,J Z 0 0,J (Y ⟨W4.heap.size,0,Z⟩) 1 1,J a1 1 k1,J Z 0 0,J a3 M k3,(⟨A,[⟨0,0,ss0⟩],[],0,0,0,0,0,0,0⟩:SD),[],(⟨A,(N:Int),[⟨0,0,(2:Int) ^ N - 1⟩],[],List.replicate M 0,0,0,false,[],[],0,[]⟩:RN)⟩:HD):=by
  refine⟨hAh,hkn.later hb23,?_,hst.later hb23,(hdk.later hb13).mono (Nat.zero_le _),hmay,cM (aH hr0 (fun g hg=>hb33.block g (hr0.lt g hg).2)) (by omega),World.ownsRow_nil _ _ _ _,?_,?_,?_,?_,Nat.zero_le _,fun g hg=>Nat.le_trans hlow2 (hnew g hg),?_⟩
  ·have h9:=hnd.later hb23
   simpa using h9
  ·have h9:=cM (base':=base) (aH hbb (fun g hg=>hb33.block g (hbb.lt g hg).2)) (by omega)
   simpa using h9
  ·refine⟨rfl,by rw[hse],by simp,?_,?_,by simpa using hM4,?_,rfl,rfl⟩
   ·intro i hi;obtain rfl:i=0:=by simp at hi;omega
    rfl
   ·intro e _;rfl
   ·obtain rfl|rfl|rfl|rfl:M=1∨M=2∨M=3∨M=4:=by omega
    all_goals rfl
  ·refine⟨by show(2:Int)<=N;omega,by show(N:Int)<=5;omega,hA0,hAN,by simp,?_,?_,by simp,by simpa using hM1,by simpa using hM4⟩
   ·intro r hr;obtain rfl:r=⟨0,0,(2:Int) ^ N - 1⟩:=by simpa using hr
    rw[←hse];exact⟨⟨by simp,by simp⟩,hss⟩
   ·intro i hi;obtain rfl:i=0:=by simp at hi;omega
    rfl
  ·exact⟨by simp,by simp,by simp,by simp;omega⟩
  ·intro g h8 h9;have:=(hr0.lt g h8).1;have:=(hst.rcs.lt g h9).2;omega
 have hbs:=aD.setCell w' ⟨R,2,Z⟩ vx;have hsz:=hbs.size;have hblk:∀g,g<AW.heap.size->g≠R->Value.ownBlock (J ah hs.length ch)≠some g->(w'.setCell ⟨R,2,Z⟩ vx).heap[g]?=AW.heap[g]?:=fun g h1 h2 h3=>(hbs.block g h2).trans (hg.block g h1 (fun hh=>h3 hh.symm));have hvhl:∀g,Value.ownBlock (J ah hs.length ch)=Y g->base<=g/\g<w.heap.size:=fun g h9=>hI.hrow.lt g (by rw[hvh];exact h9);have h0:=hA.kept (w':=w'.setCell ⟨R,2,Z⟩ vx) (fun g h9=>hblk g (hA.lt h9) (by have:=hnew g h9;omega) (fun hh=>by have:=hvhl g hh;have:=hnew g h9;omega));have hRA:=(hg.block R (by omega) (fun hh=>by have:=hvhl R hh.symm;omega)).trans (hb03.block R (by omega));obtain⟨u,hu⟩:=hRw
 obtain⟨q1,q2⟩:=hI.add (w':=w'.setCell ⟨R,2,Z⟩ vx) (⟨W4.heap.size+1,Kn,Nd,St,Mp,DD,HH,SS,vr,J Z 0 0,J (Y ⟨W4.heap.size,0,Z⟩) 1 1,J a1 1 k1,J Z 0 0,J a3 M k3,(⟨A,[⟨0,0,ss0⟩],[],0,0,0,0,0,0,0⟩:SD),[],(⟨A,(N:Int),[⟨0,0,(2:Int) ^ N - 1⟩],[],List.replicate M 0,0,0,false,[],[],0,[]⟩:RN)⟩:HD) h0 hnew vx (fun i hi=>by
   rw[World.cell?_setCell_other _ _ _ _ (by intro hh;have:=congrArg Addr.off hh;simp at this;omega)]
   exact World.cell?_of_block (w:=w) (a:=⟨R,i,Z⟩) hRA) (fun i=>by
   rw[World.frozen?_setCell]
   exact(World.frozen?_of_block (w:=w) (a:=⟨R,i,Z⟩) hRA).trans (hI.led.free i)) (World.cell?_setCell_same _ _ _ hu) (by
   have h9:=aH (w':=w'.setCell ⟨R,2,Z⟩ vx) hown (fun g h8=>hbs.block g (fun hh=>by have:=(hown.lt g h8).1;have hh2:g=R:=hh;omega));rw[List.length_append,List.map_append]
   exact h9) (fun g h9=>by
   rcases hloc g h9 with h8|h8
   ·exact .inl (by rw[hvh];exact h8)
   ·exact .inr (by omega)) ⟨hbs.os.trans (hg.os.trans hb03.os),hbs.tape.trans (hg.tape.trans hb03.tape),hbs.output.trans (hg.output.trans hb03.output),by omega,fun g h1 h2=>(hblk g (by omega) (fun hh=>h2 (.inl hh)) (fun hh=>h2 (.inr (by rw[hvh];exact hh)))).trans (hb03.block g h1)⟩
 exact⟨⟨_,_,_,_,_,_,_,_,_,q1⟩,q2⟩
theorem CI{base R t:Nat}{w:World}{ao:Option Addr}{c:Nat}{ms:List aU}{vh vs:Value}{hs:List HD}{ss:List (List UInt8)}{v:Nat->Value}{es:Nat->List bU}(hI:cX base R t w ao c ms vh vs hs ss v es)(A:Int)(N M:Nat)(S:ByteArray)(hN2:2<=N)(hN5:N<=5)(hA0:0<=A)(hAN:A<N)(hM1:1<=M)(hM4:M<=4)(ht:t<=1100000):
  Calls pG 65 #[P0 (Y ⟨R,0,Z⟩),.agg #[I T 4,I T A,I T (N:Int),I T (M:Int),Value.string S]] w fun r w'=>r=.returned (.bool true)/\dB base R (t+1) w'/\bM base R w w':=by
 obtain⟨hlow1,hlow2⟩:=hI.low;have hyes:eA A (N:Int) (M:Int)=true:=by unfold eA;simp;omega
 have hss:∃ss0:Int,ss0=(2:Int) ^ N - 1/\(((N:Int)=2/\ss0=3)∨((N:Int)=3/\ss0=7)∨((N:Int)=4/\ss0=15)∨((N:Int)=5/\ss0=31)):=by
  obtain rfl|rfl|rfl|rfl:N=2∨N=3∨N=4∨N=5:=by omega
  all_goals refine⟨_,rfl,?_⟩<;>decide
 obtain⟨ss0,hse,hss⟩:=hss;have HSE:=aA hse;have HSS:=aA hss;clear hse hss;have hb0:=(Below.refl w.heap.size w).alloc (Nat.le_refl _) (G #[I T 4,I T A,I T (N:Int),I T (M:Int),Value.string S] 93);have HM:=aA (aB.new w #[I T 4,I T A,I T (N:Int),I T (M:Int),Value.string S] 93);have HB0:=aA hb0;have HI:=aA hI;clear hb0 hI;go_enter Tryz.func65,Tryz.ntmps65
 go_wp2_with fail
 generalize (w.alloc (G #[I T 4,I T A,I T (N:Int),I T (M:Int),Value.string S] 93))=W0 at*;have hs0:=HB0.out.size;refine(sK base W0).mono ?_;rintro r w1 ⟨rfl,hds,hhd,hb1,hsz1⟩;have HM1:=aA (HM.out.later hb1);have HB1:=aA (HB0.out.trans (hb1.mono hs0));have hs1:W0.heap.size+3<=w1.heap.size:=by omega
 have HDK:Hid (aL w1 base (W0.heap.size+1) (W0.heap.size+2) W0.heap.size (J Z 0 0) [] 0):=⟨hhd,hds,by omega,by omega,.inl rfl,by simp⟩;clear hds hhd hb1 hsz1 HM HB0;have m1:=HM1.out.cell 1;have m2:=HM1.out.cell 2;have m3:=HM1.out.cell 3;simp at m1 m2 m3
 go_wp2_with fail
 refine(EN base A (N:Int) (M:Int) ss0 (W0.heap.size+1) (W0.heap.size+2) W0.heap.size (J Z 0 0) 0 w1 HDK.out (by omega) HSS.out hA0 hAN (by omega) (by omega)).mono ?_;rintro r w2 ⟨Kn,Nd,St,vr,Mp,rfl,hkn,hnd,hst,lKn,lNd,lSt,lMp,lvr,hb2⟩;have HKN:=aA hkn;have HND:=aA hnd;have HST:=aA hst;have HLO:Hid (w1.heap.size<=Kn/\w1.heap.size<=Nd/\w1.heap.size<=St/\w1.heap.size<=Mp/\∀g,vr.ownBlock=Y g->w1.heap.size<=g):=⟨lKn,lNd,lSt,lMp,lvr⟩;have HB2:=aA hb2;have HM2:=aA (HM1.out.later hb2);have hs2:=hb2.size;clear hkn hnd hst lKn lNd lSt lMp lvr hb2 m1 m2 m3;have m1:=HM2.out.cell 1;have m2:=HM2.out.cell 2;have m3:=HM2.out.cell 3;simp at m1 m2 m3
 go_wp2_with fail
 refine(rQ A (N:Int) (M:Int) w2).mono ?_;rintro r w2b ⟨rfl,rfl⟩;rw[hyes]
 go_wp2_with fail
 refine(DW A N M w2b hN2 hN5 hM1 hM4).mono ?_;rintro r w3 ⟨vr0,vb0,rfl,hr0,hb0',hb3⟩;have HR0:=aA hr0;have HBB0:=aA hb0';have HB3:=aA hb3;have hs3:=hb3.size;clear hr0 hb0' hb3 m1 m2 m3;obtain⟨a1,k1,e1⟩:=aO HR0.out;obtain⟨a3,k3,e3⟩:=aO HBB0.out;subst e1 e3;have HBK:=aA (aB.new w3 #[I T A,I T (N:Int),J a1 1 k1,J Z 0 0,J a3 M k3,I T 0,I T 0,bool false,J Z 0 0,J Z 0 0,I T 0,J Z 0 0,bool false,J Z 0 0] 225);have HAL:Hid (Below w3.heap.size w3 (w3.alloc (G #[I T A,I T (N:Int),J a1 1 k1,J Z 0 0,J a3 M k3,I T 0,I T 0,bool false,J Z 0 0,J Z 0 0,I T 0,J Z 0 0,bool false,J Z 0 0] 225))):=(Below.refl _ _).alloc (Nat.le_refl _) _;have hz4:(w3.alloc (G #[I T A,I T (N:Int),J a1 1 k1,J Z 0 0,J a3 M k3,I T 0,I T 0,bool false,J Z 0 0,J Z 0 0,I T 0,J Z 0 0,bool false,J Z 0 0] 225)).heap.size=w3.heap.size+1:=by simp
 go_upto_region 7 with fail
 generalize (w3.alloc (G #[I T A,I T (N:Int),J a1 1 k1,J Z 0 0,J a3 M k3,I T 0,I T 0,bool false,J Z 0 0,J Z 0 0,I T 0,J Z 0 0,bool false,J Z 0 0] 225))=W4 at*;have HZ4:=aA hz4;have hw34:w3.heap.size<W4.heap.size:=by omega
 have hw35:w3.heap.size<W4.heap.size+1:=by omega
 have hw36:w3.heap.size<W4.heap.size+1+1:=by omega
 clear hz4;have HB4:=aA (HB3.out.trans (HAL.out.mono hs3));have HW4:=aA ((HB1.out.trans (HB2.out.mono HB1.out.size)).trans (HB4.out.mono (by have:=HB1.out.size;omega)));have HI4:=aA (HI.out.later HW4.out (Nat.le_refl t));have hRW:R<W4.heap.size:=by have:=HI4.out.low;omega
 have hRW1:R<W4.heap.size+1:=by omega
 have hRW2:R<W4.heap.size+1+1:=by omega
 obtain⟨ah,ch,hvh,_⟩:=dN HI4.out.hrow;have HVH:=aA hvh;have hR2:=HI4.out.c2.trans (by rw[hvh]);have hRf:=HI4.out.led.free 2;have OB:Hid (W4.ownsRow base 141 1 (J ah hs.length ch) hs.length (hs.map (fun x=>P0 (Y ⟨x.hb,0,Z⟩)))):=by have h9:=HI4.out.hrow;rw[hvh]at h9;exact h9
 have hhl:=HI4.out.hlen;have hbW:=HI4.out.low.2;obtain⟨i141,hi141,z141,s141,b141⟩:=info_parts GB;obtain⟨y0,y1,y2,y3,y4,y5,y6,y7,y8,y9,y10,y11,y12,y13⟩:=HBK.out.c14;clear hvh
 have HA3:Hid (Below W4.heap.size W4 (((W4.alloc (G #[I T A,I T (N:Int),J a1 1 k1,J Z 0 0,J a3 M k3,I T 0,I T 0,bool false,J Z 0 0,J Z 0 0,I T 0,J Z 0 0,bool false,J Z 0 0] 225)).alloc (G #[P0 (Y ⟨Kn,0,Z⟩),P0 (Y ⟨W0.heap.size+1,0,Z⟩),P0 (Y ⟨W0.heap.size+2,0,Z⟩),J (Y ⟨W4.heap.size,0,Z⟩) 1 1] 144)).alloc (G #[P0 (Y ⟨W4.heap.size+1,0,Z⟩)] 141))/\(((W4.alloc (G #[I T A,I T (N:Int),J a1 1 k1,J Z 0 0,J a3 M k3,I T 0,I T 0,bool false,J Z 0 0,J Z 0 0,I T 0,J Z 0 0,bool false,J Z 0 0] 225)).alloc (G #[P0 (Y ⟨Kn,0,Z⟩),P0 (Y ⟨W0.heap.size+1,0,Z⟩),P0 (Y ⟨W0.heap.size+2,0,Z⟩),J (Y ⟨W4.heap.size,0,Z⟩) 1 1] 144)).alloc (G #[P0 (Y ⟨W4.heap.size+1,0,Z⟩)] 141)).heap.size=W4.heap.size+3/\aB (((W4.alloc (G #[I T A,I T (N:Int),J a1 1 k1,J Z 0 0,J a3 M k3,I T 0,I T 0,bool false,J Z 0 0,J Z 0 0,I T 0,J Z 0 0,bool false,J Z 0 0] 225)).alloc (G #[P0 (Y ⟨Kn,0,Z⟩),P0 (Y ⟨W0.heap.size+1,0,Z⟩),P0 (Y ⟨W0.heap.size+2,0,Z⟩),J (Y ⟨W4.heap.size,0,Z⟩) 1 1] 144)).alloc (G #[P0 (Y ⟨W4.heap.size+1,0,Z⟩)] 141)) W4.heap.size #[I T A,I T (N:Int),J a1 1 k1,J Z 0 0,J a3 M k3,I T 0,I T 0,bool false,J Z 0 0,J Z 0 0,I T 0,J Z 0 0,bool false,J Z 0 0] 225/\aB (((W4.alloc (G #[I T A,I T (N:Int),J a1 1 k1,J Z 0 0,J a3 M k3,I T 0,I T 0,bool false,J Z 0 0,J Z 0 0,I T 0,J Z 0 0,bool false,J Z 0 0] 225)).alloc (G #[P0 (Y ⟨Kn,0,Z⟩),P0 (Y ⟨W0.heap.size+1,0,Z⟩),P0 (Y ⟨W0.heap.size+2,0,Z⟩),J (Y ⟨W4.heap.size,0,Z⟩) 1 1] 144)).alloc (G #[P0 (Y ⟨W4.heap.size+1,0,Z⟩)] 141)) (W4.heap.size+1) #[P0 (Y ⟨Kn,0,Z⟩),P0 (Y ⟨W0.heap.size+1,0,Z⟩),P0 (Y ⟨W0.heap.size+2,0,Z⟩),J (Y ⟨W4.heap.size,0,Z⟩) 1 1] 144/\aB (((W4.alloc (G #[I T A,I T (N:Int),J a1 1 k1,J Z 0 0,J a3 M k3,I T 0,I T 0,bool false,J Z 0 0,J Z 0 0,I T 0,J Z 0 0,bool false,J Z 0 0] 225)).alloc (G #[P0 (Y ⟨Kn,0,Z⟩),P0 (Y ⟨W0.heap.size+1,0,Z⟩),P0 (Y ⟨W0.heap.size+2,0,Z⟩),J (Y ⟨W4.heap.size,0,Z⟩) 1 1] 144)).alloc (G #[P0 (Y ⟨W4.heap.size+1,0,Z⟩)] 141)) (W4.heap.size+1+1) #[P0 (Y ⟨W4.heap.size+1,0,Z⟩)] 141):=by
  have s1:(W4.alloc (G #[I T A,I T (N:Int),J a1 1 k1,J Z 0 0,J a3 M k3,I T 0,I T 0,bool false,J Z 0 0,J Z 0 0,I T 0,J Z 0 0,bool false,J Z 0 0] 225)).heap.size=W4.heap.size+1:=by simp
  have s2:((W4.alloc (G #[I T A,I T (N:Int),J a1 1 k1,J Z 0 0,J a3 M k3,I T 0,I T 0,bool false,J Z 0 0,J Z 0 0,I T 0,J Z 0 0,bool false,J Z 0 0] 225)).alloc (G #[P0 (Y ⟨Kn,0,Z⟩),P0 (Y ⟨W0.heap.size+1,0,Z⟩),P0 (Y ⟨W0.heap.size+2,0,Z⟩),J (Y ⟨W4.heap.size,0,Z⟩) 1 1] 144)).heap.size=W4.heap.size+1+1:=by simp
  have b1:=aB.new W4 #[I T A,I T (N:Int),J a1 1 k1,J Z 0 0,J a3 M k3,I T 0,I T 0,bool false,J Z 0 0,J Z 0 0,I T 0,J Z 0 0,bool false,J Z 0 0] 225;have b2:=aB.new (W4.alloc (G #[I T A,I T (N:Int),J a1 1 k1,J Z 0 0,J a3 M k3,I T 0,I T 0,bool false,J Z 0 0,J Z 0 0,I T 0,J Z 0 0,bool false,J Z 0 0] 225)) #[P0 (Y ⟨Kn,0,Z⟩),P0 (Y ⟨W0.heap.size+1,0,Z⟩),P0 (Y ⟨W0.heap.size+2,0,Z⟩),J (Y ⟨W4.heap.size,0,Z⟩) 1 1] 144;have b3:=aB.new ((W4.alloc (G #[I T A,I T (N:Int),J a1 1 k1,J Z 0 0,J a3 M k3,I T 0,I T 0,bool false,J Z 0 0,J Z 0 0,I T 0,J Z 0 0,bool false,J Z 0 0] 225)).alloc (G #[P0 (Y ⟨Kn,0,Z⟩),P0 (Y ⟨W0.heap.size+1,0,Z⟩),P0 (Y ⟨W0.heap.size+2,0,Z⟩),J (Y ⟨W4.heap.size,0,Z⟩) 1 1] 144)) #[P0 (Y ⟨W4.heap.size+1,0,Z⟩)] 141;rw[s1]at b2;rw[s2]at b3;exact⟨(((Below.refl W4.heap.size W4).alloc (Nat.le_refl _) _).alloc (by omega) _).alloc (by omega) _,by simp,(b1.old _).old _,b2.old _,b3⟩
 go_region_law (refine gC rfl (.tmp 52) (.tmp 60) 80 rfl base 141 i141 (P0 none) 1 8 Tryz.underlying80 hi141 z141 s141 b141 rfl (by decide) (J ah hs.length ch) hs.length (hs.map (fun x=>P0 (Y ⟨x.hb,0,Z⟩))) (by simp[Act.eval]) (by exact(World.ownsRow.alloc (World.ownsRow.alloc (World.ownsRow.alloc OB.out _) _) _).drew) ⟨W4.heap.size+1+1,0,Z⟩ 1 1 [P0 (Y ⟨W4.heap.size+1,0,Z⟩)] (by omega) (by simp[Act.eval]) rfl (by intro j u hu;rw[Go.WideShapes.add_plain];refine(HA3.out.2.2.2.2.cell _).trans ?_;simpa using hu) (by intro u hu;simp at hu;subst hu;rfl) (by unfold maxLen;omega) (by omega) (by exact Nat.le_trans hbW HA3.out.1.size) ?_;intro v' w' ho' hg' hloc;obtain⟨va,vc,rfl⟩:=aO ho';have hRo:some R≠Value.ownBlock (J ah hs.length ch):=(fun hh=>by have h1:=(OB.out.lt R hh.symm).1;omega);have hRb2:w'.heap[R]?=W4.heap[R]?:=(hg'.block R (Nat.lt_of_lt_of_le hRW HA3.out.1.size) hRo).trans (HA3.out.1.block R hRW);have hRw1:w'.cell? ⟨R,2,Z⟩=Y (J ah hs.length ch):=((World.cell?_of_block (w:=W4) (a:=⟨R,2,Z⟩) hRb2).trans hR2);have hRw2:w'.frozen? ⟨R,2,Z⟩=false:=((World.frozen?_of_block (w:=W4) (a:=⟨R,2,Z⟩) hRb2).trans hRf))
 all_goals
  have hg2:(((W4.alloc (G #[I T A,I T (N:Int),J a1 1 k1,J Z 0 0,J a3 M k3,I T 0,I T 0,bool false,J Z 0 0,J Z 0 0,I T 0,J Z 0 0,bool false,J Z 0 0] 225)).alloc (G #[P0 (Y ⟨Kn,0,Z⟩),P0 (Y ⟨W0.heap.size+1,0,Z⟩),P0 (Y ⟨W0.heap.size+2,0,Z⟩),J (Y ⟨W4.heap.size,0,Z⟩) 1 1] 144)).alloc (G #[P0 (Y ⟨W4.heap.size+1,0,Z⟩)] 141)).grownBy w' (Value.ownBlock (J ah hs.length ch)):=⟨hg'.os,hg'.tape,hg'.output,hg'.size,hg'.block⟩
  have hlocy:∀g,Value.ownBlock (J va (hs.length+1) vc)=Y g->Value.ownBlock (J ah hs.length ch)=Y g∨(((W4.alloc (G #[I T A,I T (N:Int),J a1 1 k1,J Z 0 0,J a3 M k3,I T 0,I T 0,bool false,J Z 0 0,J Z 0 0,I T 0,J Z 0 0,bool false,J Z 0 0] 225)).alloc (G #[P0 (Y ⟨Kn,0,Z⟩),P0 (Y ⟨W0.heap.size+1,0,Z⟩),P0 (Y ⟨W0.heap.size+2,0,Z⟩),J (Y ⟨W4.heap.size,0,Z⟩) 1 1] 144)).alloc (G #[P0 (Y ⟨W4.heap.size+1,0,Z⟩)] 141)).heap.size<=g:=by
   intro g hg;obtain⟨g',h1,h2⟩:=hloc;rw[h1]at hg;obtain rfl:g'=g:=by simpa using hg
   rcases h2 with h2|⟨h2,_⟩
   ·exact .inl h2
   ·exact .inr h2
  have HF:Hid (dB base R (t+1) (w'.setCell ⟨R,2,Z⟩ (J va (hs.length+1) vc))/\bM base R w (w'.setCell ⟨R,2,Z⟩ (J va (hs.length+1) vc))):=yN HI.out A N M ss0 Kn Nd St Mp (W0.heap.size+1) (W0.heap.size+2) W0.heap.size vr a1 a3 k1 k3 ah ch _ hN2 hN5 hA0 hAN hM1 hM4 HSE.out (by have:=HSS.out;omega) HVH.out HB1.out HB2.out HB3.out HAL.out (by omega) HDK.out HKN.out HND.out HST.out HLO.out HR0.out HBB0.out HA3.out.1 HA3.out.2.1 HA3.out.2.2.2.1 ho' hg2 hlocy ⟨_,hRw1⟩;clear hg' hloc hlocy hg2 ho'
 all_goals go_wp2
 all_goals go_ret
 all_goals exact⟨rfl,HF.out⟩
end
theorem yO{base R t:Nat}{w:World}{ao:Option Addr}{c:Nat}{ms:List aU}{vh vs:Value}{hs:List HD}{ss:List (List UInt8)}{v:Nat->Value}{es:Nat->List bU}(hI:cX base R t w ao c ms vh vs hs ss v es)(i:Nat)(hi:i<hs.length)(x:HD)(hxe:x=hs[i])(ht:t<=1100000){w5 wr w6:World}{am:Option Addr}{cm:Nat}{a b c9:Value}{l:Value}{n:Nat}{xs:List Value}(hb5:Below w.heap.size w w5)(hb:Below w5.heap.size w5 wr)(h1:wr.ownsRow w5.heap.size 225 14 (J am 1 cm) 1 (cY x.n a b c9))(h2:wr.ownsRow w5.heap.size 66 3 a x.n.recs.length (x.n.recs.flatMap aM.cells))(h3:wr.ownsRow w5.heap.size 275 5 b x.n.votes.length (x.n.votes.flatMap aS.cells))(h4:wr.ownsRow w5.heap.size 3 1 c9 x.n.blocks.length (x.n.blocks.map (Value.int .i64)))(hl:w5.ownsRow w.heap.size 66 3 l n xs)(hln:n<=2000000)(hbu:aD x.hb wr w6)(hbl:aB w6 x.hb #[P0 (Y ⟨x.Kn,0,Z⟩),P0 (Y ⟨x.D,0,Z⟩),P0 (Y ⟨x.H,0,Z⟩),J am 1 cm] 144):
  Calls pG 119 #[P0 (Y ⟨R,4,Z⟩),l] w6 fun r w7=>r=.returned (.tuple #[])/\R<w7.heap.size/\Calls pG 120 #[P0 (Y ⟨R,4,Z⟩),J Z 0 0] w7 fun r w'=>r=.returned (.tuple #[])/\dB base R (t+1) w'/\bM base R w w':=by
 obtain⟨hlow1,hlow2⟩:=hI.low;have hx:cG w base t x:=by rw[hxe];exact hI.hosts _ (List.getElem_mem hi)
 have hP:=hx.pst.later hb5;have hvl:=hx.vl;obtain⟨hB,hall⟩:=iS.of hx hP hb hlow2 h1 h2 h3 h4 hx.ok (by omega);obtain⟨x',hx'⟩:∃y,y=x.re x.n x.vr x.va x.fs x.d (J am 1 cm) a b c9:=⟨_,rfl⟩;rw[←hx']at hB hall;have hhb:x'.hb=x.hb:=by rw[hx'];rfl
 have hvm:x'.vm=J am 1 cm:=by rw[hx'];rfl
 have hKn:x'.Kn=x.Kn:=by rw[hx'];rfl
 have hDD:x'.D=x.D:=by rw[hx'];rfl
 have hHH:x'.H=x.H:=by rw[hx'];rfl
 have hs5:=hb5.size;have hsr:=hb.size;have hs6:=hbu.size;have hxb:=hx.low _ (.inl rfl);have hxbw:=hx.host.lt;have hmx:x∈hs:=by rw[hxe];exact List.getElem_mem hi
 have hmem:x'∈hs.set i x':=List.mem_iff_getElem.2 ⟨i,by simpa using hi,by simp⟩;have hblk:∀g,g<w.heap.size->g≠x.hb->w6.heap[g]?=w.heap[g]?:=fun g hg hne=>(hbu.block g hne).trans ((hb.block g (by omega)).trans (hb5.block g hg));have hRw:=hblk R (by omega) (by omega);have hcell:∀j,w6.cell? ⟨R,j,Z⟩=w.cell? ⟨R,j,Z⟩:=fun j=>World.cell?_of_block (w:=w) (a:=⟨R,j,Z⟩) hRw;have hll:∀g,l.ownBlock=Y g->w.heap.size<=g/\g<w5.heap.size:=fun g hg=>hl.lt g hg;have hl6:=cM (aH hl (fun g hg=>(hbu.block g (by have:=hll g hg;omega)).trans (hb.block g (hll g hg).2))) hlow2
 have hext:∀g,(((∃y∈hs.set i x',y.all g)∨vh.ownBlock=Y g)∨vs.ownBlock=Y g)->x'.all g∨(g<w.heap.size/\nG hs vh vs g):=by
  rintro g ((⟨y,hy,hg⟩|hg)|hg)
  ·obtain⟨j,hj,rfl⟩:=List.getElem_of_mem hy;rcases jV hs i x' j hj with⟨rfl,h3⟩|⟨hne,hjl,h3⟩
   ·rw[h3]at hg;exact .inl hg
   ·rw[h3]at hg;exact .inr ⟨(hI.hosts _ (List.getElem_mem hjl)).lt hg,.inl ⟨_,List.getElem_mem hjl,hg⟩⟩
  ·exact .inr ⟨(hI.hrow.lt g hg).2,.inr (.inl hg)⟩
  ·exact .inr ⟨(hI.srow.lt g hg).2,.inr (.inr hg)⟩
 have hnew:∀g,x'.all g->x.all g∨w5.heap.size<=g:=by
  intro g hg;rw[hx']at hg;rcases hg with hg|hg|hg|hg|hg|hg|hg|hg|hg|hg
  ·exact .inl (.inl hg)
  ·exact .inl (.inr (.inl hg))
  ·exact .inl (.inr (.inr (.inl hg)))
  ·exact .inl (.inr (.inr (.inr (.inl hg))))
  ·exact .inl (.inr (.inr (.inr (.inr (.inl hg)))))
  ·exact .inl (.inr (.inr (.inr (.inr (.inr (.inl hg))))))
  ·exact .inr (h1.lt g hg).1
  ·exact .inr (h2.lt g hg).1
  ·exact .inr (h3.lt g hg).1
  ·exact .inr (h4.lt g hg).1
 have hLed:cD (fun g=>(((∃y∈hs.set i x',y.all g)∨vh.ownBlock=Y g)∨vs.ownBlock=Y g)∨l.ownBlock=Y g) w6 base R v es:=by
  refine hI.led.shift (by omega) (fun g hg hne=>hblk g hg (fun hf=>hne (.inl ⟨x,hmx,.inl hf⟩))) ?_;rintro g hg (h9|h9)
  ·rcases hext g h9 with h8|h8
   ·rcases hall g h8 with h7|h7
    ·exact .inl ⟨x,hmx,h7⟩
    ·omega
   ·exact h8.2
  ·have:=hll g h9;omega
 have hxl:∀g,l.ownBlock=Y g->¬(((∃y∈hs.set i x',y.all g)∨vh.ownBlock=Y g)∨vs.ownBlock=Y g):=by
  intro g hg hh;have h8:=hll g hg;rcases hext g hh with h9|h9
  ·rcases hnew g h9 with h7|h7
   ·have:=hx.lt h7;omega
   ·omega
  ·omega
 have hxn:∀g,w6.heap.size<=g->¬(((∃y∈hs.set i x',y.all g)∨vh.ownBlock=Y g)∨vs.ownBlock=Y g):=by
  intro g hg hh;rcases hext g hh with h9|h9
  ·have:=hB.lt h9;omega
  ·omega
 refine(uR (fun g=>((∃y∈hs.set i x',y.all g)∨vh.ownBlock=Y g)∨vs.ownBlock=Y g) w6 base R v es l n xs hLed hl6 hln hxl hxn (by have:=hI.el 3 (by omega);omega)).mono ?_;rintro r w7 ⟨rfl,v3,en3,hL7,g3,k7,c7⟩;have hs7:=k7.size;refine⟨rfl,by omega,?_⟩;have hL7':cD (fun g=>(((∃y∈hs.set i x',y.all g)∨vh.ownBlock=Y g)∨vs.ownBlock=Y g)∨(J Z 0 0).ownBlock=Y g) w7 base R (dV v 3 v3) (dV es 3 (es 3++[en3])):=hL7.shift (Nat.le_refl _) (fun g _ _=>rfl) (fun g _ hg=>hg.elim id (fun hh=>by simp[Value.ownBlock]at hh));have hxn7:∀g,w7.heap.size<=g->¬(((∃y∈hs.set i x',y.all g)∨vh.ownBlock=Y g)∨vs.ownBlock=Y g):=fun g hg=>hxn g (by omega);refine(uS (fun g=>((∃y∈hs.set i x',y.all g)∨vh.ownBlock=Y g)∨vs.ownBlock=Y g) w7 base R (dV v 3 v3) (dV es 3 (es 3++[en3])) (J Z 0 0) 0 [] hL7' (World.ownsRow_nil _ _ _ _) (by omega) (fun g hg=>by simp[Value.ownBlock]at hg) hxn7 (by rw[eP es _ (by omega)];have:=hI.el 4 (by omega);omega)).mono ?_;rintro r w8 ⟨rfl,v4,en4,hL8,g4,k8,c8⟩;have hs8:=k8.size;rw[eP v _ (by omega)]at k8 g4
 have hsame:∀g,g<w6.heap.size->base<=g->l.ownBlock≠some g->(v 3).ownBlock≠some g->(v 4).ownBlock≠some g->w8.heap[g]?=w6.heap[g]?:=fun g h1 h2 h3 h4 h5=>(k8.block g (by omega) (by
  rintro(h9|h9|h9)
  ·omega
  ·exact h5 h9.symm
  ·simp[Value.ownBlock]at h9)).trans (k7.block g h1 (by
  rintro(h9|h9|h9)
  ·omega
  ·exact h4 h9.symm
  ·exact h3 h9.symm))
 have hxi:cG w8 base (t+1) x':=by
  have hHr:=(hx.host.later hb5).later hb
  have hbk:∀g,x'.all g->base<=g/\l.ownBlock≠some g/\(v 3).ownBlock≠some g/\(v 4).ownBlock≠some g:=by
   intro g hg
   have hk:∀q,q<5->(v q).ownBlock≠some g:=fun q hq h9=>by
    rcases hall g hg with h8|h8
    ·exact hI.led.ex q hq g h9 (.inl ⟨x,hmx,h8⟩)
    ·have:=(hI.led.low hq h9).2;omega
   exact⟨hB.low g hg,fun hh=>hxl g hh (.inl (.inl ⟨x',hmem,hg⟩)),hk 3 (by omega),hk 4 (by omega)⟩
  refine hB.host (fun g hg hne=>?_) ?_ ⟨_,by rw[hhb];exact hHr⟩
  ·obtain⟨e1,e2,e3,e4⟩:=hbk g hg;exact(hsame g (by have:=hB.lt hg;omega) e1 e2 e3 e4).trans (hbu.block g (by rw[←hhb];exact hne))
  ·obtain⟨e1,e2,e3,e4⟩:=hbk x'.hb (.inl rfl);rw[hhb]at e1 e2 e3 e4;rw[hhb,hKn,hDD,hHH,hvm];exact hbl.same (hsame x.hb (by omega) e1 e2 e3 e4)
 have hvsb:∀g,vs.ownBlock=Y g->w8.heap[g]?=w.heap[g]?:=fun g hg=>by
  have e0:=hI.srow.lt g hg;have hne:g≠x.hb:=fun hh=>hx.off hI.srow (by decide) (.inl hh) hg;exact(hsame g (by omega) e0.1 (fun hh=>by have:=hll g hh;omega) (fun hh=>hI.led.ex 3 (by omega) g hh (.inr (.inr hg))) (fun hh=>hI.led.ex 4 (by omega) g hh (.inr (.inr hg)))).trans (hblk g e0.2 hne)
 obtain⟨q1,q2⟩:=hI.next i hi x' (by rw[hhb,hxe]) hxi (fun g hg=>(hall g hg).imp (fun h=>by rw[←hxe];exact h) id) vs ss (dV (dV v 3 v3) 4 v4) (dV (dV es 3 (es 3++[en3])) 4 (dV es 3 (es 3++[en3]) 4++[en4])) (fun j hj=>(c8 j (by omega)).trans ((c7 j (by omega)).trans (hcell j))) ((c8 3 (by omega)).trans ((c7 3 (by omega)).trans ((hcell 3).trans hI.c3))) (aH hI.srow hvsb) hI.slen hL8 (by
  refine⟨k8.os.trans (k7.os.trans (hbu.os.trans (hb.os.trans hb5.os))),k8.tape.trans (k7.tape.trans (hbu.tape.trans (hb.tape.trans hb5.tape))),k8.output.trans (k7.output.trans (hbu.output.trans (hb.output.trans hb5.output))),by omega,fun g hg hA=>?_⟩
  by_cases hbg:base<=g
  ·exact(hsame g (by omega) hbg (fun hh=>by have:=hll g hh;omega) (fun hh=>hA (.inr (.inr (.inr (.inl ⟨3,by omega,hh⟩))))) (fun hh=>hA (.inr (.inr (.inr (.inl ⟨4,by omega,hh⟩)))))).trans (hblk g hg (fun hh=>hA (.inr (.inl (by rw[←hxe];exact .inl hh)))))
  ·refine(k8.block g (by omega) ?_).trans ((k7.block g (by omega) ?_).trans (hblk g hg (by omega)))
   ·rintro(h9|h9|h9)
    ·exact hA (.inl h9)
    ·have:=(hI.led.low (k:=4) (by omega) h9.symm).1;omega
    ·simp[Value.ownBlock]at h9
   ·rintro(h9|h9|h9)
    ·exact hA (.inl h9)
    ·have:=(hI.led.low (k:=3) (by omega) h9.symm).1;omega
    ·have:=hll g h9.symm;omega) (by have:=hI.sl;omega) (fun k hk=>by
  by_cases e4:k=4
  ·subst e4;rw[fU,eP es _ (by omega)];simp;exact hI.el 4 hk
  ·rw[eP _ _ e4]
   by_cases e3:k=3
   ·subst e3;rw[fU];simp;exact hI.el 3 hk
   ·rw[eP _ _ e3];have:=hI.el k hk;omega)
 exact⟨rfl,⟨_,_,_,_,_,_,_,_,_,q1⟩,q2⟩
section
set_option maxRecDepth 20000
theorem EU(hLO:fK)(hUO:fJ){base R t:Nat}{w:World}{ao:Option Addr}{c:Nat}{ms:List aU}{vh vs:Value}{hs:List HD}{ss:List (List UInt8)}{v:Nat->Value}{es:Nat->List bU}(hI:cX base R t w ao c ms vh vs hs ss v es)(i:Nat)(hi:i<hs.length)(x:HD)(hxe:x=hs[i])(A B C:Int)(S:ByteArray)(ht:t<=1100000):
  Calls pG 68 #[P0 (Y ⟨R,0,Z⟩),P0 (Y ⟨x.hb,0,Z⟩),.agg #[I T 9,I T A,I T B,I T C,Value.string S]] w fun r w'=>r=.returned (.bool true)/\dB base R (t+1) w'/\bM base R w w':=by
 have hx:cG w base t x:=by rw[hxe];exact hI.hosts _ (List.getElem_mem hi)
 obtain⟨hlow1,hlow2⟩:=hI.low;have hR2:=hI.two;have hl0:x.d.recs.length<=1300000:=by have:=hx.bd.recs;omega
 have hl1:x.n.recs.length<=2000000:=by have:=hx.bd.recs;rw[hx.alike.recs]at this;omega
 have hl2:x.n.votes.length<=100000000:=by have:=hx.vl;omega
 have hl3:x.n.blocks.length<=4:=hx.ok.b4;have HRE:=aA hx.alike.recs;have hne:0<x.d.recs.length:=by rw[hx.alike.recs];exact hx.ok.ne
 have HI:=aA hI;have HX:=aA hx;have HXE:=aA hxe;have hb0:=(Below.refl w.heap.size w).alloc (Nat.le_refl _) (G #[I T 9,I T A,I T B,I T C,Value.string S] 93);have HM:=aA (aB.new w #[I T 9,I T A,I T B,I T C,Value.string S] 93);have HB0:=aA hb0;clear hI hx hxe hb0;go_enter Tryz.func68,Tryz.ntmps68
 go_upto_region 4 with fail
 generalize (w.alloc (G #[I T 9,I T A,I T B,I T C,Value.string S] 93))=W0 at*;have hs0:=HB0.out.size;have HX0:=aA (HX.out.later HB0.out);have m0:=HM.out.cell 0;have q0:=HX0.out.host.cell 0;simp at m0 q0
 go_wp2_with fail
 refine(uX hLO hUO x.Kn base x.Nd x.St x.d x.vr x.Mp x.D x.n.id x.n.nodes (x.n.blocks.length:Int) x.n.act W0 HX0.out.kn HX0.out.nd HX0.out.st hne (by omega)).mono ?_;rintro r w1 ⟨l,rfl,hl,hb1⟩;have HL1:=aA hl;have HB1:=aA (HB0.out.trans (hb1.mono hs0));have HX1:=aA (HX0.out.later hb1);have HM1:=aA (HM.out.later hb1);clear hl hb1 m0 q0 HX0 HM HB0;have q0:=HX1.out.host.cell 0;simp at q0
 go_wp2_with fail
 refine(vM hLO hUO x.Kn x.Nd x.St x.n.id x.n.nodes (x.n.blocks.length:Int) x.n.act w1 HX1.out.kn HX1.out.nd).mono ?_;rintro r w5 ⟨_,rfl,rfl,hb2⟩;obtain⟨ac,hac⟩:∃ac,ac=x.n.act:=⟨_,rfl⟩;rw[←hac];have HAC:=aA hac;clear hac;have HL5:=aA (aH HL1.out (fun g hg=>hb2.block g (HL1.out.lt g hg).2));have HB5:=aA (HB1.out.trans (hb2.mono HB1.out.size));have HD4:Hid (lN w5 base x):=(HX1.out.doc (aK.refl _ _)).later hb2;have HM5:=aA (HM1.out.later hb2);have hs5:=HB5.out.size;clear hb2 q0 HX1 HM1 HB1 HL1;obtain⟨gm,cm0,hvm,hgm,hgc⟩:=jA HD4.out.may (by omega);have HVM:=aA hvm
 have HG:Hid (∀W,Below w5.heap.size w5 W->∀j (hj:j<14),W.cell? ⟨gm,j,Z⟩=Y ((cY x.n x.rr x.rv x.rb).getD j undef)):=by
  intro W hW j hj;refine(hW.cell (p:=⟨gm,j,Z⟩) hgm).trans (hgc j _ ?_);rw[List.getD_eq_getElem?_getD,List.getElem?_eq_getElem (by simpa[cY] using hj)];rfl
 clear hvm hgc
 go_wp2_with fail
 go_loopw [10,11,12,13,14] (fun m ix _ _ _ wr=>(m=J Z 0 0/\ix=I T 0/\wr=w5)∨(ix=I T 1/\∃am cm a b c9,m=J am 1 cm/\wr.ownsRow w5.heap.size 225 14 m 1 (cY x.n a b c9)/\wr.ownsRow w5.heap.size 66 3 a x.n.recs.length (x.n.recs.flatMap aM.cells)/\wr.ownsRow w5.heap.size 275 5 b x.n.votes.length (x.n.votes.flatMap aS.cells)/\wr.ownsRow w5.heap.size 3 1 c9 x.n.blocks.length (x.n.blocks.map (Value.int .i64))/\Below w5.heap.size w5 wr)) (fun _ ix _ _ _ _=>1 - (intOf ix).toNat)
 case atStart=>exact .inl ⟨rfl,rfl,rfl⟩
 case round=>
  rcases hrel with⟨rfl,rfl,hw5⟩|⟨rfl,am,cm,a,b,c9,rfl,hm1,hm2,hm3,hm4,hb5⟩
  ·have hw6:w5=wr:=hw5.symm;clear hw5;subst hw6;have d3:=HD4.out.host.cell 3;simp at d3;rw[HVM.out]at d3;have e0:=HG.out _ (Below.refl _ _) 0 (by omega);have e1:=HG.out _ (Below.refl _ _) 1 (by omega);have e2:=HG.out _ (Below.refl _ _) 2 (by omega);have e3:=HG.out _ (Below.refl _ _) 3 (by omega);have e4:=HG.out _ (Below.refl _ _) 4 (by omega);have e5:=HG.out _ (Below.refl _ _) 5 (by omega);have e6:=HG.out _ (Below.refl _ _) 6 (by omega);have e7:=HG.out _ (Below.refl _ _) 7 (by omega);have e8:=HG.out _ (Below.refl _ _) 8 (by omega);have e9:=HG.out _ (Below.refl _ _) 9 (by omega);have e10:=HG.out _ (Below.refl _ _) 10 (by omega);have e11:=HG.out _ (Below.refl _ _) 11 (by omega);have e12:=HG.out _ (Below.refl _ _) 12 (by omega);have e13:=HG.out _ (Below.refl _ _) 13 (by omega);simp[cY]at e0 e1 e2 e3 e4 e5 e6 e7 e8 e9 e10 e11 e12 e13
   go_wp2_with fail
   refine(sM x.n x.rr x.rv x.rb w5 (aP.of_owns HD4.out.rr) (aP.of_owns HD4.out.rv) (aP.of_owns HD4.out.rb) (by omega) hl2 (by omega)).mono ?_;rintro r w6 ⟨a,b,c9,rfl,oa,ob,oc,hb6⟩;clear d3 e0 e1 e2 e3 e4 e5 e6 e7 e8 e9 e10 e11 e12 e13;have hs6:=hb6.size;have HB6:=aA hb6;have HOA:=aA oa;have HOB:=aA ob;have HOC:=aA oc;clear oa ob oc hb6;obtain⟨a1,k1,ea⟩:=aO HOA.out;obtain⟨a2,k2,eb⟩:=aO HOB.out;obtain⟨a3,k3,ec9⟩:=aO HOC.out;subst ea eb ec9;have HBK:=aA (aB.new w6 #[I T x.n.id,I T x.n.nodes,J a1 x.n.recs.length k1,J a2 x.n.votes.length k2,J a3 x.n.blocks.length k3,I T x.n.seen,I T x.n.last,bool x.n.act,J Z 0 0,J Z 0 0,I T x.n.ops,J Z 0 0,bool false,J Z 0 0] 225);have HAL:Hid (Below w6.heap.size w6 (w6.alloc (G #[I T x.n.id,I T x.n.nodes,J a1 x.n.recs.length k1,J a2 x.n.votes.length k2,J a3 x.n.blocks.length k3,I T x.n.seen,I T x.n.last,bool x.n.act,J Z 0 0,J Z 0 0,I T x.n.ops,J Z 0 0,bool false,J Z 0 0] 225))):=(Below.refl _ _).alloc (Nat.le_refl _) _;have hz7:(w6.alloc (G #[I T x.n.id,I T x.n.nodes,J a1 x.n.recs.length k1,J a2 x.n.votes.length k2,J a3 x.n.blocks.length k3,I T x.n.seen,I T x.n.last,bool x.n.act,J Z 0 0,J Z 0 0,I T x.n.ops,J Z 0 0,bool false,J Z 0 0] 225)).heap.size=w6.heap.size+1:=by simp
   go_upto_region 13 with fail
   generalize (w6.alloc (G #[I T x.n.id,I T x.n.nodes,J a1 x.n.recs.length k1,J a2 x.n.votes.length k2,J a3 x.n.blocks.length k3,I T x.n.seen,I T x.n.last,bool x.n.act,J Z 0 0,J Z 0 0,I T x.n.ops,J Z 0 0,bool false,J Z 0 0] 225))=W7 at*;have HB7:=aA (HB6.out.trans (HAL.out.mono hs6))
   have HN7:Hid (bO W7 w5.heap.size w6.heap.size x.n (J a1 x.n.recs.length k1) (J a2 x.n.votes.length k2) (J a3 x.n.blocks.length k3) (J Z 0 0) (J Z 0 0) (J Z 0 0)):=by
    have hne:∀g,g<w6.heap.size->W7.heap[g]?=w6.heap[g]?:=fun g hg=>HAL.out.block g hg;exact⟨HBK.out.blk,hs6,aH HOA.out (fun g hg=>hne g (HOA.out.lt g hg).2),aH HOB.out (fun g hg=>hne g (HOB.out.lt g hg).2),aH HOC.out (fun g hg=>hne g (HOC.out.lt g hg).2)⟩
   clear HOA HOB HOC HBK HAL HB6;generalize w6.heap.size=X at*;have y2:=HN7.out.cell 2;simp at y2
   have SR:Hid (Calls pG 116 #[l,(J a1 x.n.recs.length k1)] W7 fun e w'=>e=.returned (.bool true)/\Below W7.heap.size W7 w'):=by
    have r1:=aH (w':=W7) HL5.out (fun g hg=>HB7.out.block g (HL5.out.lt g hg).2);rw[HRE.out]at r1;exact uQ x.n.recs l (J a1 x.n.recs.length k1) W7 (aP.of_owns r1) (aP.of_owns HN7.out.r) (by omega)
   go_wp2_with fail
   refine SR.out.mono ?_;rintro r wx ⟨rfl,hbx⟩;have HB10:=aA (HB7.out.trans (hbx.mono HB7.out.size));have HN10:=aA (HN7.out.later hbx);have HM10:=aA (HM5.out.later HB10.out);have hs10:=HB10.out.size
   have HONE:Hid (∀u∈cY x.n (J a1 x.n.recs.length k1) (J a2 x.n.votes.length k2) (J a3 x.n.blocks.length k3),u.oneCell'=true):=by
    intro u hu;simp[cY]at hu;rcases hu with rfl|rfl|rfl|rfl|rfl|rfl|rfl|rfl|rfl|rfl|rfl|rfl|rfl<;>rfl
   clear hbx y2 HN7 HB7 SR;have m0:=HM10.out.cell 0;simp at m0;obtain⟨y0,y1,y2,y3,y4,y5,y6,y7,y8,y9,y10,y11,y12,y13⟩:=HN10.out.c14;obtain⟨i225,hi225,z225,s225,b225⟩:=info_parts tN;rw[←HAC.out]at y7;cases ac
   case false=>
    go_wp2_with(at_builtin;go_loud (refine iY rfl _ _ 142 rfl w5.heap.size 225 i225 (.agg #[I T 0,I T 0,J Z 0 0,J Z 0 0,J Z 0 0,I T 0,I T 0,bool false,J Z 0 0,J Z 0 0,I T 0,J Z 0 0,bool false,J Z 0 0]) 14 224 Tryz.underlying142 hi225 z225 s225 b225 rfl (by decide) (J Z 0 0) 0 [] rfl (World.ownsRow_nil _ _ _ _) (J (Y ⟨wx.heap.size,0,Z⟩) 1 1) 1 (cY x.n (J a1 x.n.recs.length k1) (J a2 x.n.votes.length k2) (J a3 x.n.blocks.length k3)) rfl ?r1 ?r2 ?r3 ?r4 ?r5 ?r6 ?_))
    case r1=>exact .inr ⟨wx.heap.size,1,rfl,by simp,fun j u hu=>(World.cell?_alloc_at _ _ _ _ rfl).trans (by simpa[cY,←HAC.out] using hu)⟩
    case r2=>rfl
    case r3=>exact HONE.out
    case r4=>unfold maxLen;omega
    case r5=>omega
    case r6=>show _<=(World.alloc _ _).heap.size;simp;omega
    intro v' w' hown hgr;obtain⟨am,cm,rfl⟩:=aO hown
    have HF:Hid (w'.ownsRow w5.heap.size 225 14 (J am 1 cm) 1 (cY x.n (J a1 x.n.recs.length k1) (J a2 x.n.votes.length k2) (J a3 x.n.blocks.length k3))/\w'.ownsRow w5.heap.size 66 3 (J a1 x.n.recs.length k1) x.n.recs.length (x.n.recs.flatMap aM.cells)/\w'.ownsRow w5.heap.size 275 5 (J a2 x.n.votes.length k2) x.n.votes.length (x.n.votes.flatMap aS.cells)/\w'.ownsRow w5.heap.size 3 1 (J a3 x.n.blocks.length k3) x.n.blocks.length (x.n.blocks.map (Value.int .i64))/\Below w5.heap.size w5 w'):=by
     have hbx:Below wx.heap.size wx w':=⟨hgr.os,hgr.tape,hgr.output,Nat.le_trans (by show _<=(World.alloc _ _).heap.size;simp) hgr.size,fun g hg=>(hgr.block g (by show _<(World.alloc _ _).heap.size;simp;omega) (by simp[Value.ownBlock])).trans (heap_alloc_old wx _ hg)⟩;have hN:=HN10.out.later hbx;exact⟨by simpa using hown,hN.r,hN.v,hN.b,HB10.out.trans (hbx.mono hs10)⟩
    clear hown hgr;go_wp2
    go_roundw
    case rel=>exact .inr ⟨by go_num,am,cm,_,_,_,rfl,HF.out.1,HF.out.2.1,HF.out.2.2.1,HF.out.2.2.2.1,HF.out.2.2.2.2⟩
    case measure=>simp[intOf]
   case true=>
    go_wp2_with(at_builtin;go_loud (refine iY rfl _ _ 142 rfl w5.heap.size 225 i225 (.agg #[I T 0,I T 0,J Z 0 0,J Z 0 0,J Z 0 0,I T 0,I T 0,bool false,J Z 0 0,J Z 0 0,I T 0,J Z 0 0,bool false,J Z 0 0]) 14 224 Tryz.underlying142 hi225 z225 s225 b225 rfl (by decide) (J Z 0 0) 0 [] rfl (World.ownsRow_nil _ _ _ _) (J (Y ⟨wx.heap.size,0,Z⟩) 1 1) 1 (cY x.n (J a1 x.n.recs.length k1) (J a2 x.n.votes.length k2) (J a3 x.n.blocks.length k3)) rfl ?r1 ?r2 ?r3 ?r4 ?r5 ?r6 ?_))
    case r1=>exact .inr ⟨wx.heap.size,1,rfl,by simp,fun j u hu=>(World.cell?_alloc_at _ _ _ _ rfl).trans (by simpa[cY,←HAC.out] using hu)⟩
    case r2=>rfl
    case r3=>exact HONE.out
    case r4=>unfold maxLen;omega
    case r5=>omega
    case r6=>show _<=(World.alloc _ _).heap.size;simp;omega
    intro v' w' hown hgr;obtain⟨am,cm,rfl⟩:=aO hown
    have HF:Hid (w'.ownsRow w5.heap.size 225 14 (J am 1 cm) 1 (cY x.n (J a1 x.n.recs.length k1) (J a2 x.n.votes.length k2) (J a3 x.n.blocks.length k3))/\w'.ownsRow w5.heap.size 66 3 (J a1 x.n.recs.length k1) x.n.recs.length (x.n.recs.flatMap aM.cells)/\w'.ownsRow w5.heap.size 275 5 (J a2 x.n.votes.length k2) x.n.votes.length (x.n.votes.flatMap aS.cells)/\w'.ownsRow w5.heap.size 3 1 (J a3 x.n.blocks.length k3) x.n.blocks.length (x.n.blocks.map (Value.int .i64))/\Below w5.heap.size w5 w'):=by
     have hbx:Below wx.heap.size wx w':=⟨hgr.os,hgr.tape,hgr.output,Nat.le_trans (by show _<=(World.alloc _ _).heap.size;simp) hgr.size,fun g hg=>(hgr.block g (by show _<(World.alloc _ _).heap.size;simp;omega) (by simp[Value.ownBlock])).trans (heap_alloc_old wx _ hg)⟩;have hN:=HN10.out.later hbx;exact⟨by simpa using hown,hN.r,hN.v,hN.b,HB10.out.trans (hbx.mono hs10)⟩
    clear hown hgr;go_wp2
    go_roundw
    case rel=>exact .inr ⟨by go_num,am,cm,_,_,_,rfl,HF.out.1,HF.out.2.1,HF.out.2.2.1,HF.out.2.2.2.1,HF.out.2.2.2.2⟩
    case measure=>simp[intOf]
  ·have hbl:=(HD4.out.later hb5).host;have HBL:=aA hbl;have d3:=hbl.cell 3;have f3:=hbl.free 3;simp at d3;rw[HVM.out]at d3
   have HBW:Hid (aB (wr.setCell ⟨x.hb,3,Z⟩ (J am 1 cm)) x.hb #[P0 (Y ⟨x.Kn,0,Z⟩),P0 (Y ⟨x.D,0,Z⟩),P0 (Y ⟨x.H,0,Z⟩),J am 1 cm] 144):=by
    have h9:=hbl.set 3 (J am 1 cm);unfold Hid
    simpa using h9
   have HBU:Hid (aD x.hb wr (wr.setCell ⟨x.hb,3,Z⟩ (J am 1 cm))):=(aD.self x.hb wr).set 3 _;have HLW:=aA (cM HL5.out hs0);have HFI:=yO HI.out i hi x HXE.out ht HB5.out hb5 hm1 hm2 hm3 hm4 HLW.out (by omega) HBU.out HBW.out;have HFIN:=aA HFI;clear hm1 hm2 hm3 hm4 hb5 hbl HFI HBW HBU HBL
   go_wp2_with fail
   refine HFIN.out.mono ?_;rintro r w7 ⟨rfl,hR7,h120⟩;have H120:=aA h120;clear h120
   go_wp2_with fail
   refine H120.out.mono ?_;rintro r w9 ⟨rfl,hfin⟩;have HG9:=aA hfin;clear hfin;go_wp2;go_ret;exact⟨rfl,HG9.out⟩
end
end Go.Proofs.YtdcainmlcpafbaaGreatDoor
