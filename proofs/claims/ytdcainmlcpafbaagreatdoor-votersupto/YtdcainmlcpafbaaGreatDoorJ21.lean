import Derived.Test.YtdcainmlcpafbaaGreatDoorJ20
import Derived.Test.YtdcainmlcpafbaaGreatDoorJ22
set_option linter.all false
set_option maxHeartbeats 8000000
namespace Go.Proofs.YtdcainmlcpafbaaGreatDoor
open Go.RowKit
open Value renaming int->I,slice->J,pointer->P0
open Tryz renaming prog->pG
open IntKind renaming i64->T
open Option renaming none->Z,some->Y
open Obj renaming cells->G
open Value (bool)
theorem bD.isM{bs:List UInt8}{k f e b wa p s q bl v:Int}{zs:List Int}(h:bD bs k f e b wa p s q bl v zs 0):dX k.toNat [0,e,b,wa,p,s,q,bl,v,(zs.length:Int)]=true/\(1<=k/\k<=10)/\0<=f/\f<5:=by
 rcases h with⟨h1,h2,h3,h4,h5,h6⟩|⟨h1,h2⟩
 ·have h7:=(mN h1).1;unfold iX aN at h7;rw[←h2,←h3,h4,Bool.and_eq_true]at h7;refine⟨h7.2,?_⟩;have h8:=h7.1;unfold eU at h8;simp at h8;omega
 ·omega
theorem bD.two{bs:List UInt8}{k f e b wa p s q bl v:Int}{zs:List Int}{ec:Int}(h:bD bs k f e b wa p s q bl v zs ec):ec=0∨ec=2:=by
 rcases h with⟨_,_,_,_,_,h6⟩|⟨_,_,_,_,_,_,_,_,_,_,_,_,h6⟩
 ·exact .inl h6
 ·exact .inr h6
def RN.recvN(n:RN)(k f e b p s q bl v:Int)(zs:List Int)(ec:Int):RN:=
 if¬ec=0∨f=n.id∨n.nodes<=f then n
 else if k=1∨k=3 then(if e<n.lastR.E then n else n.votedN k e b p s)
 else if k=6 then(if e=n.lastR.E/\eV n.lastR.E n.lastR.P n.lastR.S (n.lastR.E+1) p s=true then n.learn p s else n)
 else if cL n k bl zs then(if hZ n e q then n else n.wrote k e q bl v zs)
 else n
theorem RN.ok.rc{n:RN}(h:n.ok)(i:Nat):(0<=(n.recs.getD i ⟨0,0,0⟩).P/\(n.recs.getD i ⟨0,0,0⟩).P<=5)/\(0<=(n.recs.getD i ⟨0,0,0⟩).S/\(n.recs.getD i ⟨0,0,0⟩).S<=31):=by
 by_cases hi:i<n.recs.length
 ·rw[List.getD_eq_getElem?_getD,List.getElem?_eq_getElem hi];exact h.recs _ (List.getElem_mem hi)
 ·rw[List.getD_eq_getElem?_getD,List.getElem?_eq_none (by omega)];simp
theorem RN.ok.vote{n:RN}(h:n.ok)(e:Int):(0<=(aY n.votes e).pr/\(aY n.votes e).pr<=1000000000000)/\(0<=(aY n.votes e).wa/\(aY n.votes e).wa<=1000000000000)/\(0<=(aY n.votes e).pm/\(aY n.votes e).pm<=5)/\(0<=(aY n.votes e).st/\(aY n.votes e).st<=31):=by
 unfold aY
 cases hf:n.votes.find? (fun v=>v.ep==e) with
 |none=>simp
 |some y=>exact h.votes y (List.mem_of_find?_eq_some hf)
theorem wR(vs:List aS)(v:aS):(fN vs v).length<=vs.length+1:=by
 unfold fN dJ;rw[List.length_append];have:=List.length_filter_le (fun x:aS=>x.ep != v.ep) vs;simp;exact this
theorem wS{vs:List aS}{v x:aS}(h:x∈fN vs v):x∈vs∨x=v:=by
 unfold fN dJ at h;rcases List.mem_append.1 h with h1|h1
 ·exact .inl (List.mem_filter.1 h1).1
 ·exact .inr (by simpa using h1)
theorem mM(n:RN)(k e b p s:Int):n.votedN k e b p s=n∨∃u:aS,n.votedN k e b p s={n with votes:=fN n.votes u}/\u.pr=b/\((k=3/\u.wa=b/\u.pm=p/\u.st=s)∨(u.wa=(aY n.votes e).wa/\u.pm=(aY n.votes e).pm/\u.st=(aY n.votes e).st)):=by
 unfold RN.votedN
 by_cases h1:b<(aY n.votes e).pr
 ·rw[if_pos h1];exact .inl rfl
 ·rw[if_neg h1]
  by_cases h2:k=3
  ·rw[if_pos h2];exact .inr ⟨_,rfl,rfl,.inl ⟨h2,rfl,rfl,rfl⟩⟩
  ·rw[if_neg h2];exact .inr ⟨_,rfl,rfl,.inr ⟨rfl,rfl,rfl⟩⟩
theorem RN.ok.voted{n:RN}(h:n.ok)(k e b p s:Int)(hb:0<=b/\b<=1000000000000)(hps:k=3->(0<=p/\p<=5)/\(0<=s/\s<=31)):(n.votedN k e b p s).ok/\(n.votedN k e b p s).recs.length<=n.recs.length+1/\(n.votedN k e b p s).votes.length<=n.votes.length+1/\(n.votedN k e b p s).blocks.length=n.blocks.length/\(n.votedN k e b p s).id=n.id/\(n.votedN k e b p s).nodes=n.nodes:=by
 rcases mM n k e b p s with h1|⟨u,h1,h2,h3⟩
 ·rw[h1];exact⟨h,by omega,by omega,rfl,rfl,rfl⟩
 ·rw[h1];refine⟨⟨h.nodes2,h.nodes5,h.id0,h.id1,h.ne,h.recs,h.ep,fun x hx=>?_,h.b1,h.b4⟩,by show n.recs.length<=_;omega,wR _ _,rfl,rfl,rfl⟩;rcases wS hx with h4|h4
  ·exact h.votes x h4
  ·subst h4;have hv:=h.vote e;rcases h3 with⟨a0,a1,a2,a3⟩|⟨a1,a2,a3⟩
   ·rw[h2,a1,a2,a3];exact⟨hb,hb,hps a0⟩
   ·rw[h2,a1,a2,a3];exact⟨hb,hv.2⟩
theorem RN.ok.learned{n:RN}(h:n.ok)(p s:Int)(hp:0<=p/\p<=5)(hs:0<=s/\s<=31):(n.learn p s).ok/\(n.learn p s).recs.length<=n.recs.length+1/\(n.learn p s).votes.length<=n.votes.length+1/\(n.learn p s).blocks.length=n.blocks.length/\(n.learn p s).id=n.id/\(n.learn p s).nodes=n.nodes:=by
 have hE:=h.lastE;refine⟨⟨h.nodes2,h.nodes5,h.id0,h.id1,by simp[RN.learn],fun r hr=>?_,fun i hi=>?_,h.votes,h.b1,h.b4⟩,by simp[RN.learn],by simp[RN.learn],rfl,rfl,rfl⟩
 ·rcases List.mem_append.1 hr with h1|h1
  ·exact h.recs r h1
  ·obtain rfl:r=⟨n.lastR.E+1,p,s⟩:=by simpa using h1
   exact⟨hp,hs⟩
 ·have hi2:i<n.recs.length+1:=by simpa[RN.learn] using hi
  by_cases h1:i<n.recs.length
  ·have:(n.learn p s).recs[i]=n.recs[i]:=by simp only[RN.learn];exact List.getElem_append_left h1
   rw[this];exact h.ep i h1
  ·obtain rfl:i=n.recs.length:=by omega
   have:(n.learn p s).recs[n.recs.length]=⟨n.lastR.E+1,p,s⟩:=by simp[RN.learn]
   rw[this];show n.lastR.E+1=_;omega
theorem RN.ok.wrote{n:RN}(h:n.ok)(k e q bl v:Int)(zs:List Int)(hz:k=9->zs.length=n.blocks.length):(n.wrote k e q bl v zs).ok/\(n.wrote k e q bl v zs).recs.length<=n.recs.length+1/\(n.wrote k e q bl v zs).votes.length<=n.votes.length+1/\(n.wrote k e q bl v zs).blocks.length=n.blocks.length/\(n.wrote k e q bl v zs).id=n.id/\(n.wrote k e q bl v zs).nodes=n.nodes:=by
 have hl:(n.wrote k e q bl v zs).blocks.length=n.blocks.length:=by
  unfold RN.wrote
  by_cases h9:k=9
  ·simp only[if_pos h9];exact hz h9
  ·simp only[if_neg h9];simp
 exact⟨⟨h.nodes2,h.nodes5,h.id0,h.id1,h.ne,h.recs,h.ep,h.votes,by rw[hl];exact h.b1,by rw[hl];exact h.b4⟩,by show n.recs.length<=_;omega,by show n.votes.length<=_;omega,hl,rfl,rfl⟩
theorem RN.ok.self{n:RN}(h:n.ok):n.ok/\n.recs.length<=n.recs.length+1/\n.votes.length<=n.votes.length+1/\n.blocks.length=n.blocks.length/\n.id=n.id/\n.nodes=n.nodes:=⟨h,by omega,by omega,rfl,rfl,rfl⟩
theorem RN.ok.recv{n:RN}(h:n.ok){bs:List UInt8}{k f e b wa p s q bl v:Int}{zs:List Int}{ec:Int}(hD:bD bs k f e b wa p s q bl v zs ec):(n.recvN k f e b p s q bl v zs ec).ok/\(n.recvN k f e b p s q bl v zs ec).recs.length<=n.recs.length+1/\(n.recvN k f e b p s q bl v zs ec).votes.length<=n.votes.length+1/\(n.recvN k f e b p s q bl v zs ec).blocks.length=n.blocks.length/\(n.recvN k f e b p s q bl v zs ec).id=n.id/\(n.recvN k f e b p s q bl v zs ec).nodes=n.nodes:=by
 unfold RN.recvN
 by_cases h0:¬ec=0∨f=n.id∨n.nodes<=f
 ·rw[if_pos h0];exact h.self
 rw[if_neg h0];obtain rfl:ec=0:=by omega
 obtain⟨hm,hk,hf⟩:=hD.isM
 by_cases h1:k=1∨k=3
 ·rw[if_pos h1]
  by_cases h2:e<n.lastR.E
  ·rw[if_pos h2];exact h.self
  ·rw[if_neg h2];rcases h1 with rfl|rfl
   ·have hm1:=(jH _ _ _ _ _ _ _ _ _).1 hm;exact h.voted 1 e b p s hm1.2.1 (fun hh=>by omega)
   ·have hm1:=(jI _ _ _ _ _ _ _ _ _).1 hm;exact h.voted 3 e b p s hm1.2.1 (fun _=>⟨hm1.2.2.1,hm1.2.2.2.1⟩)
 rw[if_neg h1]
 by_cases h6:k=6
 ·rw[if_pos h6];subst h6;have hm1:=(jJ _ _ _ _ _ _ _ _ _).1 hm
  by_cases h2:e=n.lastR.E/\eV n.lastR.E n.lastR.P n.lastR.S (n.lastR.E+1) p s=true
  ·rw[if_pos h2];exact h.learned p s hm1.2.1 hm1.2.2.1
  ·rw[if_neg h2];exact h.self
 rw[if_neg h6]
 by_cases h7:cL n k bl zs
 ·rw[if_pos h7]
  by_cases h2:hZ n e q
  ·rw[if_pos h2];exact h.self
  ·rw[if_neg h2];exact h.wrote k e q bl v zs (fun hk9=>by rcases h7 with h7|h7<;>omega)
 ·rw[if_neg h7];exact h.self
section
set_option maxRecDepth 20000
theorem tM{w:World}{base:Nat}{ra:Option Addr}{rc:Nat}{zs:List Int}(h:bH w base (J ra zs.length rc) zs):bG w ra zs/\∀ad,ra=Y ad->base<=ad.block:=by
 have hr:=aP.of_owns h;refine⟨?_,fun ad had=>?_⟩
 ·rcases hr with⟨_,h0,_⟩|⟨g,cap,hv,hg,hc⟩
  ·exact .inl (List.eq_nil_of_length_eq_zero h0)
  ·simp at hv;refine .inr ⟨g,0,hv.1,hg,fun j hj=>?_⟩;rw[Nat.zero_add];exact hc j _ (by rw[List.getElem?_map,List.getElem?_eq_getElem hj];rfl)
 ·rcases hr with⟨h0,_,_⟩|⟨g,cap,hv,hg,hc⟩
  ·simp at h0;rw[h0.1]at had;cases had
  ·simp at hv;rw[hv.1]at had;cases had;exact(h.lt g (by rw[hv.1];rfl)).1
theorem eE.cn{w w':World}{low X:Nat}{n n':RN}{vr vb vs:Value}{o:Option (Int×List UInt8)}{r:Ending}(h:eE w low X n vr vb vs o r w')(hn:n'=n):eE w low X n' vr vb vs o r w':=hn ▸ h
theorem kI.ret{w:World}{low:Nat}{r:Ending}{o:Option (Int×List UInt8)}(h:kI w low r o):∃m,r=.returned m/\True:=by
 cases o with
 |none=>exact⟨_,h,trivial⟩
 |some y=>obtain⟨g,hr,_⟩:=h;exact⟨_,hr,trivial⟩
theorem eE.pre{w W w':World}{low X:Nat}{n':RN}{vr vb vs:Value}{o:Option (Int×List UInt8)}{r:Ending}(h:eE W low X n' vr vb vs o r w')(hb:Below w.heap.size w W):eE w low X n' vr vb vs o r w':=by
 obtain⟨h1,vr',vv',vb',h2,h3⟩:=h;have hs:=hb.size;refine⟨?_,vr',vv',vb',h2,(aK.of_below (A:=fun _=>False) hb).trans h3 (fun _ hh=>hh.elim) (fun _ _ hh=>hh)⟩
 cases o with
 |none=>exact h1
 |some y=>
  obtain⟨d,bs⟩:=y;obtain⟨g,e1,e2,e3⟩:=h1;exact⟨g,e1,by omega,e3⟩
theorem CE(low X:Nat)(n:RN)(vr vv vb vs:Value)(S:ByteArray)(k f e b wa p s q bl v:Int)(zs:List Int)(ec:Int)(w:World)(h:bO w low X n vr vv vb (J Z 0 0) (J Z 0 0) vs)(hlw:low<=w.heap.size)(hok:n.ok)(hlt:n.recs.length<=100000000)(hS:S.size<=140737488355328)(hD:bD S.data.toList k f e b wa p s q bl v zs ec)(hV:ec=0->¬(¬ec=0∨f=n.id∨n.nodes<=f)->k=1∨k=3->∀W ra rc,bO W low X n vr vv vb (J Z 0 0) (J Z 0 0) vs->low<=W.heap.size->Calls pG 164 #[P0 (Y ⟨X,0,Z⟩),.agg #[I T k,I T f,I T e,I T b,I T wa,I T p,I T s,I T q,I T bl,I T v,J ra zs.length rc]] W fun r w'=>eE W low X (n.recvN k f e b p s q bl v zs ec) vr vb vs (n.recvO k f e b q bl zs ec) r w')(hT:ec=0->¬(¬ec=0∨f=n.id∨n.nodes<=f)->k=7∨k=9->∀W ra rc,bO W low X n vr vv vb (J Z 0 0) (J Z 0 0) vs->low<=W.heap.size->bG W ra zs->(∀ad,ra=Y ad->w.heap.size<=ad.block)->Calls pG 167 #[P0 (Y ⟨X,0,Z⟩),.agg #[I T k,I T f,I T e,I T b,I T wa,I T p,I T s,I T q,I T bl,I T v,J ra zs.length rc]] W fun r w'=>eE W low X (n.recvN k f e b p s q bl v zs ec) vr vb vs (n.recvO k f e b q bl zs ec) r w'):
  Calls pG 121 #[P0 (Y ⟨X,0,Z⟩),.string S] w fun r w'=>eE w low X (n.recvN k f e b p s q bl v zs ec) vr vb vs (n.recvO k f e b q bl zs ec) r w':=by
 have hid5:0<=n.id/\n.id<5:=⟨hok.id0,by have:=hok.id1;have:=hok.nodes5;omega⟩;have hEl:=hok.lastE;have hne:=hok.ne;have HEL:=aA hEl;have hE:0<=n.lastR.E/\n.lastR.E<=1000000000000:=by omega
 clear hEl;have HW:=aA h;have HD:=aA hD;have HV:=aA hV;have HT:=aA hT;have HOK:=aA hok;clear h hD hV hT hok;obtain⟨c0,c1,c2,c3,c4,c5,c6,c7,c8,c9,c10,c11,c12,c13⟩:=HW.out.c14;go_enter Tryz.func121,Tryz.ntmps121
 go_wp2_with fail
 refine(xM S w hS k f e b wa p s q bl v zs ec HD.out).mono ?_;rintro r w1 ⟨ra,rc,rfl,ho1,hb1⟩;have HW1:=aA (HW.out.later hb1);have HB1:=aA hb1;have HZ1:=aA ho1;clear hb1 ho1 c0 c1 c2 c3 c4 c5 c6 c7 c8 c9 c10 c11 c12 c13
 go_upto_region 2 with fail
 generalize hA1:World.alloc _ _=W1;have HM:=aA (lX hA1);have hb2:=kQ hA1;have hMw:=HB1.out.size;have HZ:=aA (aH (w':=W1) HZ1.out (fun g hg=>hb2.block g (World.ownsRow.lt HZ1.out g hg).2));have HN:=aA (HW1.out.later hb2);have HB:=aA (HB1.out.trans (hb2.mono hMw));clear hA1 hb2 HW1 HB1 HZ1;generalize w1.heap.size=M at*;obtain⟨c0,c1,c2,c3,c4,c5,c6,c7,c8,c9,c10,c11,c12,c13⟩:=HN.out.c14;obtain⟨m0,m1,m2,m3,m4,m5,m6,m7,m8,m9,m10⟩:=HM.out.c11;have hX_:=HN.out.lt;have hM_:=HM.out.lt
 have hc:(ec=0/\(f==n.id)=false/\decide (n.nodes<=f)=false)∨(¬ec=0∨f=n.id∨n.nodes<=f):=by
  by_cases a1:ec=0
  ·cases a2:(f==n.id)
   ·cases a3:decide (n.nodes<=f)
    ·exact .inl ⟨a1,rfl,rfl⟩
    ·exact .inr (.inr (.inr (by simpa using a3)))
   ·exact .inr (.inr (.inl (by simpa using a2)))
  ·exact .inr (.inl a1)
 rcases hc with⟨rfl,hg1,hg2⟩|hc
 rotate_left
 ·have hN:n.recvN k f e b p s q bl v zs ec=n:=by unfold RN.recvN;rw[if_pos hc]
  have hO:n.recvO k f e b q bl zs ec=none:=by unfold RN.recvO;rw[if_pos hc]
  have HNO:Hid (n.recvN k f e b p s q bl v zs ec=n/\n.recvO k f e b q bl zs ec=none):=⟨hN,hO⟩
  have hc3:ec=2∨(ec=0/\(f==n.id)=true)∨(ec=0/\(f==n.id)=false/\decide (n.nodes<=f)=true):=by
   rcases HD.out.two with a1|a1
   ·cases a2:(f==n.id)
    ·refine .inr (.inr ⟨a1,rfl,?_⟩);have:f≠n.id:=by simpa using a2
     simp;omega
    ·exact .inr (.inl ⟨a1,rfl⟩)
   ·exact .inl a1
  clear hN hO hc HV HT;rcases hc3 with rfl|⟨rfl,hg1⟩|⟨rfl,hg1,hg2⟩
  all_goals
   go_quiet (fail)
   have hd2:Below W1.heap.size W1 (W1.drewN nq):=below_drewN (Below.refl _ _) _;have hq:=eE.none (r:=.returned (J Z 0 0)) rfl (HN.out.later hd2) (HB.out.trans (hd2.mono HB.out.size));rw[←HNO.out.2]at hq;have HQ:=aA (hq.cn HNO.out.1);clear hd2 hq;generalize W1.drewN nq=W2 at*;go_wp2;go_ret;exact HQ.out
 go_quiet (fail)
 have hd2:Below W1.heap.size W1 (W1.drewN nq):=below_drewN (Below.refl _ _) _;have HZ2:=aA (aH (w':=W1.drewN nq) HZ.out (fun g hg=>hd2.block g (World.ownsRow.lt HZ.out g hg).2));have HN2:=aA (HN.out.later hd2);have HM2:=aA (HM.out.later hd2);have HB2:=aA (HB.out.trans (hd2.mono HB.out.size));generalize W1.drewN nq=W2 at*;clear hd2 hX_ hM_ HN HM HB HZ c0 c1 c2 c3 c4 c5 c6 c7 c8 c9 c10 c11 c12 c13 m0 m1 m2 m3 m4 m5 m6 m7 m8 m9 m10;obtain⟨c0,c1,c2,c3,c4,c5,c6,c7,c8,c9,c10,c11,c12,c13⟩:=HN2.out.c14;have hX_:=HN2.out.lt
 go_wp2_with fail
 refine(kV n vr vv vb (J Z 0 0) (J Z 0 0) vs W2 (aP.of_owns HN2.out.r) hne (by omega)).mono ?_;rintro r w3 ⟨rfl,hb3⟩;have HZ3:=aA (aH (w':=w3) HZ2.out (fun g hg=>hb3.block g (World.ownsRow.lt HZ2.out g hg).2));have HN3:=aA (HN2.out.later hb3);have HM3:=aA (HM2.out.later hb3);have HB3:=aA (HB2.out.trans (hb3.mono HB2.out.size));clear hb3 hX_ HN2 HM2 HB2 HZ2 c0 c1 c2 c3 c4 c5 c6 c7 c8 c9 c10 c11 c12 c13
 go_upto_region 5 with fail
 generalize hA4:World.alloc _ _=W4;have HR:=aA (lX hA4);have hb4:=kQ hA4;have HZ:=aA (aH (w':=W4) HZ3.out (fun g hg=>hb4.block g (World.ownsRow.lt HZ3.out g hg).2));have HN:=aA (HN3.out.later hb4);have HM:=aA (HM3.out.later hb4);have HB:=aA (HB3.out.trans (hb4.mono HB3.out.size));clear hA4 hb4 HN3 HM3 HB3 HZ3;generalize w3.heap.size=R at*;obtain⟨c0,c1,c2,c3,c4,c5,c6,c7,c8,c9,c10,c11,c12,c13⟩:=HN.out.c14;obtain⟨m0,m1,m2,m3,m4,m5,m6,m7,m8,m9,m10⟩:=HM.out.c11;obtain⟨r0,r1,r2⟩:=HR.out.c3;have hX_:=HN.out.lt;have hM_:=HM.out.lt;have hR_:=HR.out.lt
 have hf3:¬(¬(0:Int)=0∨f=n.id∨n.nodes<=f):=by
  have:f≠n.id:=by simpa using hg1
  have:¬n.nodes<=f:=by simpa using hg2
  omega
 have hk:=HD.out.isM.2.1;have hk10:k=6∨(k=1∨k=3)∨(k=7∨k=9)∨k=8∨(k=2∨k=4∨k=5∨k=10):=by omega
 have HF:=aA hf3;clear hf3 hk;rcases hk10 with rfl|hk10|hk10|rfl|hk10
 ·have hN:n.recvN 6 f e b p s q bl v zs 0=if e=n.lastR.E/\eV n.lastR.E n.lastR.P n.lastR.S (n.lastR.E+1) p s=true then n.learn p s else n:=by unfold RN.recvN;rw[if_neg HF.out,if_neg (by omega),if_pos rfl]
  have hO:n.recvO 6 f e b q bl zs 0=none:=by unfold RN.recvO;rw[if_neg HF.out,if_neg (by omega),if_neg (by omega)]
  have HNO:Hid (n.recvN 6 f e b p s q bl v zs 0=(if e=n.lastR.E/\eV n.lastR.E n.lastR.P n.lastR.S (n.lastR.E+1) p s=true then n.learn p s else n)/\n.recvO 6 f e b q bl zs 0=none):=⟨hN,hO⟩;clear hN hO HV HT
  go_wp2_with fail
  go_cut [8] from 55 to 62 (fun s8 wx=>s8=.bool (eV n.lastR.E n.lastR.P n.lastR.S (n.lastR.E+1) p s)/\Below W4.heap.size W4 wx)
  case first=>
   refine eN (S:=(fun w'=>w'.cell? ⟨X,0,Z⟩=Y (I T n.id)/\w'.cell? ⟨X,1,Z⟩=Y (I T n.nodes)/\w'.cell? ⟨X,2,Z⟩=Y (vr)/\w'.cell? ⟨X,3,Z⟩=Y (vv)/\w'.cell? ⟨X,4,Z⟩=Y (vb)/\w'.cell? ⟨X,5,Z⟩=Y (I T n.seen)/\w'.cell? ⟨X,6,Z⟩=Y (I T n.last)/\w'.cell? ⟨X,7,Z⟩=Y (bool n.act)/\w'.cell? ⟨X,8,Z⟩=Y (J Z 0 0)/\w'.cell? ⟨X,9,Z⟩=Y (J Z 0 0)/\w'.cell? ⟨X,10,Z⟩=Y (I T n.ops)/\w'.cell? ⟨X,11,Z⟩=Y (vs)/\w'.cell? ⟨X,12,Z⟩=Y (bool false)/\w'.cell? ⟨X,13,Z⟩=Y (J Z 0 0)/\w'.cell? ⟨M,5,Z⟩=Y (I T p)/\w'.cell? ⟨M,6,Z⟩=Y (I T s))) fun _=>?_;refine tk 0 ?_;refine tk 1 ?_;refine tk 2 ?_;refine tk 3 ?_;refine tk 4 ?_;refine tk 5 ?_;refine tk 6 ?_;refine aG 7 fun K hK=>?_
   (try go_simp)
   go_at_call 165
   refine(xP n vr vv vb (J Z 0 0) (J Z 0 0) vs p s W4.drew (aP.of_owns HN.out.drew.r) hne hlt hE).mono ?_;rintro r wk ⟨rfl,hbk⟩;have hbk2:=(Below.refl W4.heap.size W4).drew.trans hbk;obtain⟨y0,y1,y2,y3,y4,y5,y6,y7,y8,y9,y10,y11,y12,y13⟩:=(HN.out.later hbk2).c14;obtain⟨-,-,-,-,-,y14,y15,-⟩:=(HM.out.later hbk2).c11;refine k1 hK fun _=>?_;clear hK K;refine aG 8 fun K hK=>?_
   (try go_simp)
   refine k1 hK fun _=>?_;clear hK K;refine dn ?_
   go_wp2_with fail
   go_meet
   exact⟨rfl,hbk2⟩
  case rest=>
   obtain⟨rfl,hbx⟩:=hcut;obtain⟨wx,hwx⟩:∃y,y=wc:=⟨_,rfl⟩;subst hwx;have HN5:=aA (HN.out.later hbx);have HM5:=aA (HM.out.later hbx);have HR5:=aA (HR.out.later hbx);have HB5:=aA (HB.out.trans (hbx.mono HB.out.size));clear hbx hX_ hM_ hR_ HN HM HR HB HZ c0 c1 c2 c3 c4 c5 c6 c7 c8 c9 c10 c11 c12 c13 m0 m1 m2 m3 m4 m5 m6 m7 m8 m9 m10 r0 r1 r2;obtain⟨m0,m1,m2,m3,m4,m5,m6,m7,m8,m9,m10⟩:=HM5.out.c11;obtain⟨r0,r1,r2⟩:=HR5.out.c3
   have hc:((e==n.lastR.E)=true/\eV n.lastR.E n.lastR.P n.lastR.S (n.lastR.E+1) p s=true)∨((e==n.lastR.E)=true/\eV n.lastR.E n.lastR.P n.lastR.S (n.lastR.E+1) p s=false)∨(e==n.lastR.E)=false:=by
    cases(e==n.lastR.E)<;>cases eV n.lastR.E n.lastR.P n.lastR.S (n.lastR.E+1) p s<;>simp
   generalize hfo:eV n.lastR.E n.lastR.P n.lastR.S (n.lastR.E+1) p s=fo at*;rcases hc with⟨a1,rfl⟩|hc
   ·have hN:n.recvN 6 f e b p s q bl v zs 0=n.learn p s:=by rw[HNO.out.1,if_pos ⟨by simpa using a1,rfl⟩]
    have HL:=aA hN;clear hN hfo
    go_wp2_with fail
    refine(BK low X n vr vv vb (J Z 0 0) (J Z 0 0) vs p s wx HN5.out (Nat.le_trans hlw HB5.out.size) hne hlt hid5 hE).mono ?_;rintro r w6 ⟨rfl,vr',hn6,hk6⟩;have hq:eE wx low X (n.learn p s) vr vb vs none (.returned (J Z 0 0)) w6:=⟨rfl,vr',vv,vb,hn6,hk6.wide (fun g hg=>hg.elim .inl (fun hh=>.inr (.inl hh)))⟩;rw[←HNO.out.2]at hq;have HQ:=aA ((hq.cn HL.out).pre HB5.out);clear hq hn6 hk6;go_wp2;go_ret;exact HQ.out
   ·have hN:n.recvN 6 f e b p s q bl v zs 0=n:=by
     rw[HNO.out.1,if_neg];rintro⟨b1,b2⟩;rcases hc with⟨_,b3⟩|b3
     ·rw[b3]at b2;cases b2
     ·simp[b1]at b3
    have hq:=eE.none (r:=.returned (J Z 0 0)) rfl HN5.out HB5.out;rw[←HNO.out.2]at hq;have HQ:=aA (hq.cn hN);clear hq hN hfo;rcases hc with⟨a1,rfl⟩|a1
    all_goals
     go_wp2;go_ret
     exact HQ.out
 ·have HC:=aA (HV.out (by simp) (by simpa using HF.out) hk10 W4 ra rc HN.out (Nat.le_trans hlw HB.out.size));rcases hk10 with rfl|rfl
  all_goals
   go_wp2_with fail
   refine HC.out.mono ?_;intro r w5 hq;obtain⟨m,rfl,_⟩:=kI.ret hq.1;have HQ:=aA (hq.pre HB.out);clear hq;go_wp2;go_ret;exact HQ.out
 ·have HC:=aA (HT.out (by simp) (by simpa using HF.out) hk10 W4 ra rc HN.out (Nat.le_trans hlw HB.out.size) (tM HZ.out).1 (tM HZ.out).2);rcases hk10 with rfl|rfl
  all_goals
   go_wp2_with fail
   refine HC.out.mono ?_;intro r w5 hq;obtain⟨m,rfl,_⟩:=kI.ret hq.1;have HQ:=aA (hq.pre HB.out);clear hq;go_wp2;go_ret;exact HQ.out
 ·have hN:n.recvN 8 f e b p s q bl v zs 0=n:=by unfold RN.recvN;rw[if_neg HF.out,if_neg (by omega),if_neg (by omega),if_neg (by unfold cL;omega)]
  have hO:n.recvO 8 f e b q bl zs 0=none:=by unfold RN.recvO;rw[if_neg HF.out,if_neg (by omega),if_neg (by omega)]
  have HNO:Hid (n.recvN 8 f e b p s q bl v zs 0=n/\n.recvO 8 f e b q bl zs 0=none):=⟨hN,hO⟩;clear hN hO HV HT
  go_wp2_with fail
  go_quiet (fail)
  have hd5:Below W4.heap.size W4 (W4.drewN nq):=below_drewN (Below.refl _ _) _;have hq:=eE.none (r:=.returned (J Z 0 0)) rfl (HN.out.later hd5) (HB.out.trans (hd5.mono HB.out.size));rw[←HNO.out.2]at hq;have HQ:=aA (hq.cn HNO.out.1);clear hq;generalize W4.drewN nq=W5 at*;clear hd5;go_wp2;go_ret;exact HQ.out
 ·have hN:n.recvN k f e b p s q bl v zs 0=n:=by unfold RN.recvN;rw[if_neg HF.out,if_neg (by omega),if_neg (by omega),if_neg (by unfold cL;omega)]
  have hO:n.recvO k f e b q bl zs 0=none:=by unfold RN.recvO;rw[if_neg HF.out,if_neg (by omega),if_neg (by omega)]
  have hq:=eE.none (r:=.returned (J Z 0 0)) rfl HN.out HB.out;rw[←hO]at hq;have HQ:=aA (hq.cn hN);clear hN hO HV HT hq;rcases hk10 with rfl|rfl|rfl|rfl
  all_goals
   go_wp2;go_ret
   exact HQ.out
end
def aQ(t:Nat):Nat:=301*(3*t+2)
structure BD(t:Nat)(d:SD):Prop where
 recs:d.recs.length<=t+1
 vts:d.vts.length<=t
 l0:0<=d.lines
 l1:d.lines<=3*(t:Int)+2
theorem BD.next{t:Nat}{d:SD}(h:BD t d):BD (t+1) d:=⟨by have:=h.recs;omega,by have:=h.vts;omega,h.l0,by have:=h.l1;omega⟩
theorem BD.cap{t:Nat}{d:SD}(h:BD t d):dD (aQ t) d<=aQ (t+1):=by
 have h1:=h.recs;have h2:=h.vts;unfold dD aQ;apply Nat.max_le.2;constructor<;>omega
theorem EP(d:SD)(k e b p s q bl v:Int)(zs:List Int):(d.step k e b p s q bl v zs).recs.length<=d.recs.length+1/\(d.step k e b p s q bl v zs).vts.length<=d.vts.length+1/\(d.step k e b p s q bl v zs).lines=d.lines:=by
 unfold SD.step
 split
 ·exact⟨by simp,rV _ _ _,rfl⟩
 split
 ·exact⟨by simp,rV _ _ _,rfl⟩
 split
 ·refine⟨by simp[SD.learn],?_,rfl⟩;have:=BY d.vts (e+1 - 1);show(fP d.vts (e+1 - 1)).length<=_
  omega
 split
 ·unfold SD.wblk
  split
  ·exact⟨by simp,by simp,rfl⟩
  split
  ·exact⟨by simp,by simp,rfl⟩
  split
  ·exact⟨by simp,by simp,rfl⟩
  ·exact⟨by simp,by simp,rfl⟩
 ·exact⟨by simp,by simp,rfl⟩
theorem BD.step{t:Nat}{d:SD}(h:BD t d){ln:Int}(hn:dR d ln)(k e b p s q bl v:Int)(zs:List Int):BD (t+1) (({d with lines:=ln}:SD).step k e b p s q bl v zs):=by
 obtain⟨h1,h2,h3⟩:=EP ({d with lines:=ln}:SD) k e b p s q bl v zs;obtain⟨n0,n1⟩:=hn;have a1:=h.recs;have a2:=h.vts;have a3:=h.l0;have a4:=h.l1
 have n2:ln<=3*(t:Int)+3:=by
  refine Int.le_trans n1 ?_;have:Nat.max (d.lines.toNat+1) (d.recs.length+2*d.vts.length+1)<=3*t+3:=Nat.max_le.2 (by constructor<;>omega);omega
 exact⟨by have:(({d with lines:=ln}:SD).step k e b p s q bl v zs).recs.length<=d.recs.length+1:=h1;omega,by have:(({d with lines:=ln}:SD).step k e b p s q bl v zs).vts.length<=d.vts.length+1:=h2;omega,by rw[h3];exact n0,by rw[h3];show ln<=_;omega⟩
theorem aZ.up{w:World}{low Nd:Nat}{id nodes nb:Int}{act act':Bool}{St:Nat}{vr:Value}{Mp D H S:Nat}{va:Value}{L L':Nat}{P P':SD->Prop}{o o':Option (Int×List UInt8)}{l:Value}{w':World}(h:aZ w low Nd id nodes nb act St vr Mp D H S va L P o l w')(ha:act=act')(hL:L<=L')(hP:∀d,P d->P' d)(ho:o=o'):aZ w low Nd id nodes nb act' St vr Mp D H S va L' P' o' l w':=by
 subst ha ho;obtain⟨h1,vr',va',fs',d',g1,g2,g3,g4,g5⟩:=h;exact⟨h1,vr',va',fs',d',hP d' g1,g2,g3,g4.mono hL,g5⟩
theorem sS{n:RN}{k bl:Int}{zs:List Int}(hk:k=7∨k=9):eC k (n.blocks.length:Int) bl zs.length=true↔cL n k bl zs:=by
 unfold eC cL;rcases hk with rfl|rfl
 ·rw[if_neg (by decide)];simp
 ·rw[if_pos rfl];simp;omega
theorem EQ{d:SD}{n:RN}(hA:cC d n)(hok:n.ok)(e p s:Int):gM d.lastR.E d.lastR.P d.lastR.S (e+1) p s=true↔(e=n.lastR.E/\eV n.lastR.E n.lastR.P n.lastR.S (n.lastR.E+1) p s=true):=by
 have hr:=hok.rc (n.recs.length - 1);rw[hA.lastR,G8 _ _ _ _ _ _ (by unfold RN.lastR;omega) (by unfold RN.lastR;omega)];constructor
 ·intro h
  have h1:n.lastR.E=e+1 - 1:=by
   unfold eV at h;rw[Bool.and_eq_true,decide_eq_true_eq]at h;exact h.1.2.2.2.1
  obtain rfl:e=n.lastR.E:=by omega
  exact⟨rfl,h⟩
 ·rintro⟨rfl,h⟩;exact h
theorem IV(hSO:cU)(hBW:cV)(hBS:cS)(low Nd St:Nat)(d:SD)(vr:Value)(Mp D H S:Nat)(va:Value)(fs:List FD)(t:Nat)(n:RN)(bs:List UInt8)(vb:Value)(f n1 n2 n3 n4 n5 n6 n7 n8:Int)(zs:List Int)(w:World)(hn:aI w Nd n.id n.nodes (n.blocks.length:Int) St n.act)(h:aF w low St d vr Mp D)(hk:aL w low D H S va fs (aQ t))(ht:aJ w)(hr:aR w w.heap.size vb bs)(hD:bD bs 1 f n1 n2 n3 n4 n5 n6 n7 n8 zs 0)(hf1:f≠n.id)(hf2:f<n.nodes)(hNd2:2<=Nd)(hSt2:2<=St)(hMp2:2<=Mp)(hS2:2<=S)(hl2:2<=low)(hlow:low<=w.heap.size)(hA:cC d n)(hok:n.ok)(hB:BD t d)(ht9:t<=1200000):
  Calls pG 143 #[P0 (Y ⟨Nd,0,Z⟩),vb] w fun r w'=>∃l,r=.returned l/\aZ w low Nd n.id n.nodes (n.blocks.length:Int) (n.recvN 1 f n1 n2 n4 n5 n6 n7 n8 zs 0).act St vr Mp D H S va (aQ (t+1)) (fun d'=>cC d' (n.recvN 1 f n1 n2 n4 n5 n6 n7 n8 zs 0)/\BD (t+1) d') (n.recvO 1 f n1 n2 n6 n7 zs 0) l w':=by
 have hff:(f==n.id)=false:=by simp[hf1]
 have hno:decide (n.nodes<=f)=false:=by simp;omega
 have hn5:=hok.nodes5;obtain⟨hm,_,hF0,_⟩:=hD.isM;have hEl:=hok.lastE;have hrl:d.recs.length=n.recs.length:=by rw[hA.recs]
 have hne:0<d.recs.length:=by have:=hok.ne;omega
 have hb1:=hB.recs;have hb2:=hB.vts;have hb3:=hB.l0;have hb4:=hB.l1;have hlt:d.recs.length<=1300000:=by omega
 have hlv:d.vts.length<=1300000:=by omega
 have hln:0<=d.lines/\d.lines<=100000000:=by omega
 have hL:aQ t<=1200000000:=by unfold aQ;omega
 have hc:=hB.cap;have hc0:aQ t<=aQ (t+1):=by unfold aQ;omega
 have hidn:0<=n.id/\n.id<5:=⟨hok.id0,by have:=hok.id1;omega⟩;have hid:0<=d.id/\d.id<5:=by rw[hA.id];exact hidn
 have hre:∀r∈d.recs,0<=r.E/\r.E<=10000000000000:=by
  intro r hr9;rw[hA.recs]at hr9;obtain⟨i,hi,rfl⟩:=List.getElem_of_mem hr9;have:=hok.ep i hi;omega
 have hst:∀d',d'=d->cC d' n/\BD (t+1) d':=fun d' hd=>by subst hd;exact⟨hA,hB.next⟩
 have hsn:=hA.seen;have hla:=hA.last;have hm1:=(jH _ _ _ _ _ _ _ _ _).1 hm;have he9:=hm1.1;have hNN:n.recvN 1 f n1 n2 n4 n5 n6 n7 n8 zs 0=if n1<n.lastR.E then n else n.votedN 1 n1 n2 n4 n5:=by unfold RN.recvN;rw[if_neg (by omega),if_pos (by omega)]
 have hOO:n.recvO 1 f n1 n2 n6 n7 zs 0=if n1<n.lastR.E then some (f,aT 6 n.id n1 0 0 (n.recs.getD (n1.toNat+1) ⟨0,0,0⟩).P (n.recs.getD (n1.toNat+1) ⟨0,0,0⟩).S 0 0 0 []) else some (f,n.votedA 1 n1 n2):=by unfold RN.recvO;rw[if_neg (by omega),if_pos (by omega)]
 rw[hNN,hOO]
 by_cases h2:n1<n.lastR.E
 ·rw[if_pos h2,if_pos h2];obtain⟨E,rfl⟩:=Int.eq_ofNat_of_zero_le he9.1;have hrc:=hok.rc (E+1);exact(AG low Nd St d vr Mp D H S va fs (aQ t) n.id n.nodes (n.blocks.length:Int) n.act bs vb f n2 n3 n4 n5 n6 n7 n8 E zs w hn h hk ht hr hD hff hno hNd2 hSt2 hMp2 hS2 hl2 hn5 hF0 hf2 hne hlt (by omega) (nF n.id E _ _ hidn he9 (by rw[hA.recs];exact hrc.1) (by rw[hA.recs];exact hrc.2))).mono fun r w' ⟨l,hl,hq⟩=>⟨l,hl,hq.up rfl hc0 hst (by rw[hA.recs,Int.toNat_natCast])⟩
 ·rw[if_neg h2,if_neg h2];have hv:=hA.vts n1 (by omega);have hvr:=hok.vote n1;have hne1:(d.recs.length:Int) - 1<=n1:=by omega
  by_cases hbn:n2<(aY n.votes n1).pr
  ·have hN:n.votedN 1 n1 n2 n4 n5=n:=by unfold RN.votedN;rw[if_pos hbn]
   rw[hN];exact(AH low Nd St d vr Mp D H S va fs (aQ t) n.id n.nodes (n.blocks.length:Int) n.act bs vb f n1 n2 n3 n4 n5 n6 n7 n8 zs w hn h hk ht hr hD hff hno hNd2 hSt2 hMp2 hS2 hl2 hn5 hF0 hf2 hne hlt hne1 (by rw[hv];exact hbn) (uD n.id n1 n2 _ hidn he9 hm1.2.1 (by rw[hv];exact hvr.1))).mono fun r w' ⟨l,hl,hq⟩=>⟨l,hl,hq.up rfl hc0 hst (by unfold RN.votedA;rw[if_pos hbn,hv])⟩
  ·have hac:(n.votedN 1 n1 n2 n4 n5).act=n.act:=by
    rcases mM n 1 n1 n2 n4 n5 with h9|⟨u,h9,_⟩
    ·rw[h9]
    ·rw[h9]
   have hbb:¬n2<(aE d.vts n1).pr:=by rw[hv];exact hbn
   by_cases hsame:(aE d.vts n1).after 1 n2 n4 n5=aE d.vts n1
   ·exact(xX low Nd St d vr Mp D H S va fs (aQ t) n.id n.nodes (n.blocks.length:Int) n.act bs vb f n1 n2 n3 n4 n5 n6 n7 n8 zs w hn h hk ht hr hD hff hno hNd2 hSt2 hMp2 hS2 hl2 hn5 hF0 hf2 hne hlt hne1 hbb hsame (uF n.id n1 n2 _ _ _ hidn he9 hm1.2.1 (by rw[hv];exact hvr.2.1) (by rw[hv];exact hvr.2.2.1) (by rw[hv];exact hvr.2.2.2))).mono fun r w' ⟨l,hl,hq⟩=>⟨l,hl,hq.up hac.symm hc0 (fun d' hd=>by subst hd;exact⟨hA.voted_same 1 n1 n2 n4 n5 (by omega) (by omega) hbn hsame,hB.next⟩) (by unfold RN.votedA;rw[if_neg hbn,if_neg (by decide),hv])⟩
   ·exact(AI hSO hBW hBS low Nd St d vr Mp D H S va fs (aQ t) n.id n.nodes (n.blocks.length:Int) n.act bs vb f n1 n2 n3 n4 n5 n6 n7 n8 zs w hn h hk ht hr hD hff hno hNd2 hSt2 hMp2 hS2 hl2 hn5 hF0 hf2 hne hlt hlow hL hlv hln hre hid he9 hne1 hbb hsame (uF n.id n1 n2 _ _ _ hidn he9 hm1.2.1 (by rw[hv];exact hvr.2.1) (by rw[hv];exact hvr.2.2.1) (by rw[hv];exact hvr.2.2.2))).mono fun r w' ⟨l,hl,hq⟩=>⟨l,hl,hq.up hac.symm hc (fun d' ⟨ln,h8,hd⟩=>by subst hd;exact⟨(hA.lines ln).voted 1 n1 n2 n4 n5 n6 n7 n8 zs (by omega) (by omega) hbn,hB.step h8 _ _ _ _ _ _ _ _ _⟩) (by unfold RN.votedA;rw[if_neg hbn,if_neg (by decide),hv])⟩
theorem IW(hSO:cU)(hBW:cV)(hBS:cS)(low Nd St:Nat)(d:SD)(vr:Value)(Mp D H S:Nat)(va:Value)(fs:List FD)(t:Nat)(n:RN)(bs:List UInt8)(vb:Value)(f n1 n2 n3 n4 n5 n6 n7 n8:Int)(zs:List Int)(w:World)(hn:aI w Nd n.id n.nodes (n.blocks.length:Int) St n.act)(h:aF w low St d vr Mp D)(hk:aL w low D H S va fs (aQ t))(ht:aJ w)(hr:aR w w.heap.size vb bs)(hD:bD bs 3 f n1 n2 n3 n4 n5 n6 n7 n8 zs 0)(hf1:f≠n.id)(hf2:f<n.nodes)(hNd2:2<=Nd)(hSt2:2<=St)(hMp2:2<=Mp)(hS2:2<=S)(hl2:2<=low)(hlow:low<=w.heap.size)(hA:cC d n)(hok:n.ok)(hB:BD t d)(ht9:t<=1200000):
  Calls pG 143 #[P0 (Y ⟨Nd,0,Z⟩),vb] w fun r w'=>∃l,r=.returned l/\aZ w low Nd n.id n.nodes (n.blocks.length:Int) (n.recvN 3 f n1 n2 n4 n5 n6 n7 n8 zs 0).act St vr Mp D H S va (aQ (t+1)) (fun d'=>cC d' (n.recvN 3 f n1 n2 n4 n5 n6 n7 n8 zs 0)/\BD (t+1) d') (n.recvO 3 f n1 n2 n6 n7 zs 0) l w':=by
 have hff:(f==n.id)=false:=by simp[hf1]
 have hno:decide (n.nodes<=f)=false:=by simp;omega
 have hn5:=hok.nodes5;obtain⟨hm,_,hF0,_⟩:=hD.isM;have hEl:=hok.lastE;have hrl:d.recs.length=n.recs.length:=by rw[hA.recs]
 have hne:0<d.recs.length:=by have:=hok.ne;omega
 have hb1:=hB.recs;have hb2:=hB.vts;have hb3:=hB.l0;have hb4:=hB.l1;have hlt:d.recs.length<=1300000:=by omega
 have hlv:d.vts.length<=1300000:=by omega
 have hln:0<=d.lines/\d.lines<=100000000:=by omega
 have hL:aQ t<=1200000000:=by unfold aQ;omega
 have hc:=hB.cap;have hc0:aQ t<=aQ (t+1):=by unfold aQ;omega
 have hidn:0<=n.id/\n.id<5:=⟨hok.id0,by have:=hok.id1;omega⟩;have hid:0<=d.id/\d.id<5:=by rw[hA.id];exact hidn
 have hre:∀r∈d.recs,0<=r.E/\r.E<=10000000000000:=by
  intro r hr9;rw[hA.recs]at hr9;obtain⟨i,hi,rfl⟩:=List.getElem_of_mem hr9;have:=hok.ep i hi;omega
 have hst:∀d',d'=d->cC d' n/\BD (t+1) d':=fun d' hd=>by subst hd;exact⟨hA,hB.next⟩
 have hsn:=hA.seen;have hla:=hA.last;have hm1:=(jI _ _ _ _ _ _ _ _ _).1 hm;have he9:=hm1.1;have hNN:n.recvN 3 f n1 n2 n4 n5 n6 n7 n8 zs 0=if n1<n.lastR.E then n else n.votedN 3 n1 n2 n4 n5:=by unfold RN.recvN;rw[if_neg (by omega),if_pos (by omega)]
 have hOO:n.recvO 3 f n1 n2 n6 n7 zs 0=if n1<n.lastR.E then some (f,aT 6 n.id n1 0 0 (n.recs.getD (n1.toNat+1) ⟨0,0,0⟩).P (n.recs.getD (n1.toNat+1) ⟨0,0,0⟩).S 0 0 0 []) else some (f,n.votedA 3 n1 n2):=by unfold RN.recvO;rw[if_neg (by omega),if_pos (by omega)]
 rw[hNN,hOO]
 by_cases h2:n1<n.lastR.E
 ·rw[if_pos h2,if_pos h2];obtain⟨E,rfl⟩:=Int.eq_ofNat_of_zero_le he9.1;have hrc:=hok.rc (E+1);exact(AJ low Nd St d vr Mp D H S va fs (aQ t) n.id n.nodes (n.blocks.length:Int) n.act bs vb f n2 n3 n4 n5 n6 n7 n8 E zs w hn h hk ht hr hD hff hno hNd2 hSt2 hMp2 hS2 hl2 hn5 hF0 hf2 hne hlt (by omega) (nF n.id E _ _ hidn he9 (by rw[hA.recs];exact hrc.1) (by rw[hA.recs];exact hrc.2))).mono fun r w' ⟨l,hl,hq⟩=>⟨l,hl,hq.up rfl hc0 hst (by rw[hA.recs,Int.toNat_natCast])⟩
 ·rw[if_neg h2,if_neg h2];have hv:=hA.vts n1 (by omega);have hvr:=hok.vote n1;have hne1:(d.recs.length:Int) - 1<=n1:=by omega
  by_cases hbn:n2<(aY n.votes n1).pr
  ·have hN:n.votedN 3 n1 n2 n4 n5=n:=by unfold RN.votedN;rw[if_pos hbn]
   rw[hN];exact(AK low Nd St d vr Mp D H S va fs (aQ t) n.id n.nodes (n.blocks.length:Int) n.act bs vb f n1 n2 n3 n4 n5 n6 n7 n8 zs w hn h hk ht hr hD hff hno hNd2 hSt2 hMp2 hS2 hl2 hn5 hF0 hf2 hne hlt hne1 (by rw[hv];exact hbn) (uD n.id n1 n2 _ hidn he9 hm1.2.1 (by rw[hv];exact hvr.1))).mono fun r w' ⟨l,hl,hq⟩=>⟨l,hl,hq.up rfl hc0 hst (by unfold RN.votedA;rw[if_pos hbn,hv])⟩
  ·have hac:(n.votedN 3 n1 n2 n4 n5).act=n.act:=by
    rcases mM n 3 n1 n2 n4 n5 with h9|⟨u,h9,_⟩
    ·rw[h9]
    ·rw[h9]
   have hbb:¬n2<(aE d.vts n1).pr:=by rw[hv];exact hbn
   by_cases hsame:(aE d.vts n1).after 3 n2 n4 n5=aE d.vts n1
   ·exact(xY low Nd St d vr Mp D H S va fs (aQ t) n.id n.nodes (n.blocks.length:Int) n.act bs vb f n1 n2 n3 n4 n5 n6 n7 n8 zs w hn h hk ht hr hD hff hno hNd2 hSt2 hMp2 hS2 hl2 hn5 hF0 hf2 hne hlt hne1 hbb hsame (uE n.id n1 n2 hidn he9 hm1.2.1)).mono fun r w' ⟨l,hl,hq⟩=>⟨l,hl,hq.up hac.symm hc0 (fun d' hd=>by subst hd;exact⟨hA.voted_same 3 n1 n2 n4 n5 (by omega) (by omega) hbn hsame,hB.next⟩) (by unfold RN.votedA;rw[if_neg hbn,if_pos rfl])⟩
   ·exact(AL hSO hBW hBS low Nd St d vr Mp D H S va fs (aQ t) n.id n.nodes (n.blocks.length:Int) n.act bs vb f n1 n2 n3 n4 n5 n6 n7 n8 zs w hn h hk ht hr hD hff hno hNd2 hSt2 hMp2 hS2 hl2 hn5 hF0 hf2 hne hlt hlow hL hlv hln hre hid he9 hne1 hbb hsame (uE n.id n1 n2 hidn he9 hm1.2.1)).mono fun r w' ⟨l,hl,hq⟩=>⟨l,hl,hq.up hac.symm hc (fun d' ⟨ln,h8,hd⟩=>by subst hd;exact⟨(hA.lines ln).voted 3 n1 n2 n4 n5 n6 n7 n8 zs (by omega) (by omega) hbn,hB.step h8 _ _ _ _ _ _ _ _ _⟩) (by unfold RN.votedA;rw[if_neg hbn,if_pos rfl])⟩
theorem IX(hSO:cU)(hBW:cV)(hBS:cS)(low Nd St:Nat)(d:SD)(vr:Value)(Mp D H S:Nat)(va:Value)(fs:List FD)(t:Nat)(n:RN)(bs:List UInt8)(vb:Value)(f n1 n2 n3 n4 n5 n6 n7 n8:Int)(zs:List Int)(w:World)(hn:aI w Nd n.id n.nodes (n.blocks.length:Int) St n.act)(h:aF w low St d vr Mp D)(hk:aL w low D H S va fs (aQ t))(ht:aJ w)(hr:aR w w.heap.size vb bs)(hD:bD bs 6 f n1 n2 n3 n4 n5 n6 n7 n8 zs 0)(hf1:f≠n.id)(hf2:f<n.nodes)(hNd2:2<=Nd)(hSt2:2<=St)(hMp2:2<=Mp)(hS2:2<=S)(hl2:2<=low)(hlow:low<=w.heap.size)(hA:cC d n)(hok:n.ok)(hB:BD t d)(ht9:t<=1200000):
  Calls pG 143 #[P0 (Y ⟨Nd,0,Z⟩),vb] w fun r w'=>∃l,r=.returned l/\aZ w low Nd n.id n.nodes (n.blocks.length:Int) (n.recvN 6 f n1 n2 n4 n5 n6 n7 n8 zs 0).act St vr Mp D H S va (aQ (t+1)) (fun d'=>cC d' (n.recvN 6 f n1 n2 n4 n5 n6 n7 n8 zs 0)/\BD (t+1) d') (n.recvO 6 f n1 n2 n6 n7 zs 0) l w':=by
 have hff:(f==n.id)=false:=by simp[hf1]
 have hno:decide (n.nodes<=f)=false:=by simp;omega
 have hn5:=hok.nodes5;obtain⟨hm,_,hF0,_⟩:=hD.isM;have hEl:=hok.lastE;have hrl:d.recs.length=n.recs.length:=by rw[hA.recs]
 have hne:0<d.recs.length:=by have:=hok.ne;omega
 have hb1:=hB.recs;have hb2:=hB.vts;have hb3:=hB.l0;have hb4:=hB.l1;have hlt:d.recs.length<=1300000:=by omega
 have hlv:d.vts.length<=1300000:=by omega
 have hln:0<=d.lines/\d.lines<=100000000:=by omega
 have hL:aQ t<=1200000000:=by unfold aQ;omega
 have hc:=hB.cap;have hc0:aQ t<=aQ (t+1):=by unfold aQ;omega
 have hidn:0<=n.id/\n.id<5:=⟨hok.id0,by have:=hok.id1;omega⟩;have hid:0<=d.id/\d.id<5:=by rw[hA.id];exact hidn
 have hre:∀r∈d.recs,0<=r.E/\r.E<=10000000000000:=by
  intro r hr9;rw[hA.recs]at hr9;obtain⟨i,hi,rfl⟩:=List.getElem_of_mem hr9;have:=hok.ep i hi;omega
 have hst:∀d',d'=d->cC d' n/\BD (t+1) d':=fun d' hd=>by subst hd;exact⟨hA,hB.next⟩
 have hsn:=hA.seen;have hla:=hA.last;have hm1:=(jJ _ _ _ _ _ _ _ _ _).1 hm;have he9:=hm1.1;have hE:d.lastR.E=(n.recs.length:Int) - 1:=by rw[hA.lastR];exact hEl
 have hfb:=EQ hA hok n1 n4 n5;have hNN:n.recvN 6 f n1 n2 n4 n5 n6 n7 n8 zs 0=if n1=n.lastR.E/\eV n.lastR.E n.lastR.P n.lastR.S (n.lastR.E+1) n4 n5=true then n.learn n4 n5 else n:=by unfold RN.recvN;rw[if_neg (by omega),if_neg (by omega),if_pos rfl]
 have hOO:n.recvO 6 f n1 n2 n6 n7 zs 0=none:=by unfold RN.recvO;rw[if_neg (by omega),if_neg (by omega),if_neg (by omega)]
 rw[hNN,hOO]
 by_cases h2:n1=n.lastR.E/\eV n.lastR.E n.lastR.P n.lastR.S (n.lastR.E+1) n4 n5=true
 ·rw[if_pos h2]
  have hac:d.takes (n1+1) n4=(n.learn n4 n5).act:=by
   show _=n.takes n4
   unfold SD.takes RN.takes;rw[hA.id,hA.seen,h2.1]
  exact(AQ hSO hBW hBS low Nd St d vr Mp D H S va fs (aQ t) n.id n.nodes (n.blocks.length:Int) n.act bs vb f n1 n2 n3 n4 n5 n6 n7 n8 zs w hn h hk ht hr hD hff hno hNd2 hSt2 hMp2 hS2 hl2 hn5 hF0 hf2 hne hlt hlow hL hlv hln hre hid he9 (by omega) (by omega) (hfb.2 h2)).mono fun r w' ⟨l,hl,hq⟩=>⟨l,hl,hq.up hac hc (fun d' ⟨ln,h8,hd⟩=>by subst hd;exact⟨(hA.lines ln).learned n1 n2 n4 n5 n6 n7 n8 zs (by omega),hB.step h8 _ _ _ _ _ _ _ _ _⟩) rfl⟩
 ·rw[if_neg h2];exact(AP low Nd St d vr Mp D H S va fs (aQ t) n.id n.nodes (n.blocks.length:Int) n.act bs vb f n1 n2 n3 n4 n5 n6 n7 n8 zs w hn h hk ht hr hD hff hno hNd2 hSt2 hMp2 hS2 hl2 hn5 hF0 hf2 hne hlt he9 (by omega) (by omega) (by cases h9:gM d.lastR.E d.lastR.P d.lastR.S (n1+1) n4 n5<;>first|rfl|exact absurd (hfb.1 h9) h2)).mono fun r w' ⟨l,hl,hq⟩=>⟨l,hl,hq.up rfl hc0 hst rfl⟩
theorem IY(hSO:cU)(hBW:cV)(hBS:cS)(low Nd St:Nat)(d:SD)(vr:Value)(Mp D H S:Nat)(va:Value)(fs:List FD)(t:Nat)(n:RN)(bs:List UInt8)(vb:Value)(f n1 n2 n3 n4 n5 n6 n7 n8:Int)(zs:List Int)(w:World)(hn:aI w Nd n.id n.nodes (n.blocks.length:Int) St n.act)(h:aF w low St d vr Mp D)(hk:aL w low D H S va fs (aQ t))(ht:aJ w)(hr:aR w w.heap.size vb bs)(hD:bD bs 7 f n1 n2 n3 n4 n5 n6 n7 n8 zs 0)(hf1:f≠n.id)(hf2:f<n.nodes)(hNd2:2<=Nd)(hSt2:2<=St)(hMp2:2<=Mp)(hS2:2<=S)(hl2:2<=low)(hlow:low<=w.heap.size)(hA:cC d n)(hok:n.ok)(hB:BD t d)(ht9:t<=1200000):
  Calls pG 143 #[P0 (Y ⟨Nd,0,Z⟩),vb] w fun r w'=>∃l,r=.returned l/\aZ w low Nd n.id n.nodes (n.blocks.length:Int) (n.recvN 7 f n1 n2 n4 n5 n6 n7 n8 zs 0).act St vr Mp D H S va (aQ (t+1)) (fun d'=>cC d' (n.recvN 7 f n1 n2 n4 n5 n6 n7 n8 zs 0)/\BD (t+1) d') (n.recvO 7 f n1 n2 n6 n7 zs 0) l w':=by
 have hff:(f==n.id)=false:=by simp[hf1]
 have hno:decide (n.nodes<=f)=false:=by simp;omega
 have hn5:=hok.nodes5;obtain⟨hm,_,hF0,_⟩:=hD.isM;have hEl:=hok.lastE;have hrl:d.recs.length=n.recs.length:=by rw[hA.recs]
 have hne:0<d.recs.length:=by have:=hok.ne;omega
 have hb1:=hB.recs;have hb2:=hB.vts;have hb3:=hB.l0;have hb4:=hB.l1;have hlt:d.recs.length<=1300000:=by omega
 have hlv:d.vts.length<=1300000:=by omega
 have hln:0<=d.lines/\d.lines<=100000000:=by omega
 have hL:aQ t<=1200000000:=by unfold aQ;omega
 have hc:=hB.cap;have hc0:aQ t<=aQ (t+1):=by unfold aQ;omega
 have hidn:0<=n.id/\n.id<5:=⟨hok.id0,by have:=hok.id1;omega⟩;have hid:0<=d.id/\d.id<5:=by rw[hA.id];exact hidn
 have hre:∀r∈d.recs,0<=r.E/\r.E<=10000000000000:=by
  intro r hr9;rw[hA.recs]at hr9;obtain⟨i,hi,rfl⟩:=List.getElem_of_mem hr9;have:=hok.ep i hi;omega
 have hst:∀d',d'=d->cC d' n/\BD (t+1) d':=fun d' hd=>by subst hd;exact⟨hA,hB.next⟩
 have hsn:=hA.seen;have hla:=hA.last;have hm1:=(kA _ _ _ _ _ _ _ _ _).1 hm;have he9:=hm1.1;have hq9:=hm1.2.1;have hz4:zs.length<=4:=hD.len;have hbk1:=hok.b1;have hbk4:=hok.b4;have hfi:=@sS n 7 n7 zs (by omega);have ham:=KG n.id n1 n6 hidn he9 hq9
 have hO:n.recvO 7 f n1 n2 n6 n7 zs 0=if cL n 7 n7 zs then n.storedO 7 f n1 n6 else none:=by
  unfold RN.recvO;rw[if_neg (by omega),if_neg (by omega)]
 have hNN:n.recvN 7 f n1 n2 n4 n5 n6 n7 n8 zs 0=if cL n 7 n7 zs then(if hZ n n1 n6 then n else n.wrote 7 n1 n6 n7 n8 zs) else n:=by unfold RN.recvN;rw[if_neg (by omega),if_neg (by omega),if_neg (by omega)]
 rw[hNN,hO]
 by_cases h7:cL n 7 n7 zs
 ·rw[if_pos h7,if_pos h7];have hft:=hfi.2 h7;have hfit:gG 7 n7 zs.length:=by unfold cL at h7;unfold gG;omega
  by_cases h2:hZ n n1 n6
  ·rw[if_pos h2]
   by_cases c1:n1<n.seen
   ·by_cases c2:n1<n.lastR.E
    ·obtain⟨E,rfl⟩:=Int.eq_ofNat_of_zero_le he9.1;have hrc:=hok.rc (E+1);exact(AN low Nd St d vr Mp D H S va fs (aQ t) n.id n.nodes (n.blocks.length:Int) n.act bs vb f n2 n3 n4 n5 n6 n7 n8 E zs w hn h hk ht hr hD hff hno hNd2 hSt2 hMp2 hS2 hl2 hn5 hF0 hf2 hne hlt hft (by omega) (by omega) (nF n.id E _ _ hidn he9 (by rw[hA.recs];exact hrc.1) (by rw[hA.recs];exact hrc.2))).mono fun r w' ⟨l,hl,hq⟩=>⟨l,hl,hq.up rfl hc0 hst (by unfold RN.storedO;rw[if_neg (by omega),if_pos c1,if_pos c2,hA.recs,Int.toNat_natCast])⟩
    ·exact(xZ low Nd St d vr Mp D H S va fs (aQ t) n.id n.nodes (n.blocks.length:Int) n.act bs vb f n1 n2 n3 n4 n5 n6 n7 n8 zs w hn h hk ht hr hD hff hno hNd2 hSt2 hMp2 hS2 hl2 hn5 hF0 hf2 hne hlt hft (by omega) (by omega)).mono fun r w' ⟨l,hl,hq⟩=>⟨l,hl,hq.up rfl hc0 hst (by unfold RN.storedO;rw[if_neg (by omega),if_pos c1,if_neg c2])⟩
   ·have hes:n1=n.seen:=by rcases h2 with h2|h2|h2<;>omega
    by_cases c3:n.act=true
    ·exact(qQ low Nd St d vr Mp D H S va fs (aQ t) n.id n.nodes (n.blocks.length:Int) n.act bs vb f n1 n2 n3 n4 n5 n6 n7 n8 zs w hn h hk ht hr hD hff hno hNd2 hSt2 hMp2 hS2 hl2 hn5 hF0 hf2 hne hlt hft (by omega) (.inl c3)).mono fun r w' ⟨l,hl,hq⟩=>⟨l,hl,hq.up rfl hc0 hst (by unfold RN.storedO;rw[if_pos ⟨c3,hes⟩])⟩
    ·have hq:n6<=n.last:=by
      rcases h2 with h2|h2|h2
      ·exact absurd h2.1 c3
      ·omega
      ·exact h2.2
     by_cases c4:n6<n.last
     ·exact(qQ low Nd St d vr Mp D H S va fs (aQ t) n.id n.nodes (n.blocks.length:Int) n.act bs vb f n1 n2 n3 n4 n5 n6 n7 n8 zs w hn h hk ht hr hD hff hno hNd2 hSt2 hMp2 hS2 hl2 hn5 hF0 hf2 hne hlt hft (by omega) (.inr (by omega))).mono fun r w' ⟨l,hl,hq⟩=>⟨l,hl,hq.up rfl hc0 hst (by unfold RN.storedO;rw[if_neg (fun hh=>c3 hh.1),if_neg c1,if_pos ⟨hes,c4⟩])⟩
     ·exact(yA low Nd St d vr Mp D H S va fs (aQ t) n.id n.nodes (n.blocks.length:Int) n.act bs vb f n1 n2 n3 n4 n5 n6 n7 n8 zs w hn h hk ht hr hD hff hno hNd2 hSt2 hMp2 hS2 hl2 hn5 hF0 hf2 hne hlt hft (by simpa using c3) (by omega) (by omega) ham).mono fun r w' ⟨l,hl,hq⟩=>⟨l,hl,hq.up rfl hc0 hst (by unfold RN.storedO;rw[if_neg (fun hh=>c3 hh.1),if_neg c1,if_neg (by omega)];rfl)⟩
  ·rw[if_neg h2];have h3:¬(n.act=true/\n1=n.seen)/\¬n1<n.seen/\¬(n1=n.seen/\n6<=n.last):=⟨fun x=>h2 (.inl x),fun x=>h2 (.inr (.inl x)),fun x=>h2 (.inr (.inr x))⟩
   have ho:some (f,aT 8 n.id n1 0 0 0 0 n6 0 0 [])=n.storedO 7 f n1 n6:=by
    unfold RN.storedO;rw[if_neg h3.1,if_neg h3.2.1,if_neg (by omega)];rfl
   by_cases h4:n1=n.seen
   ·have hac:n.act=false:=by
     cases hh:n.act
     ·rfl
     ·exact absurd ⟨hh,h4⟩ h3.1
    exact(yB hSO hBW hBS low Nd St d vr Mp D H S va fs (aQ t) n.id n.nodes (n.blocks.length:Int) n.act bs vb f n1 n2 n3 n4 n5 n6 n7 n8 zs w hn h hk ht hr hD hff hno hNd2 hSt2 hMp2 hS2 hl2 hn5 hF0 hf2 hne hlt hlow hL hlv hln hre hid he9 hfit hft hac (by omega) (by omega) ham).mono fun r w' ⟨l,hl,hq⟩=>⟨l,hl,hq.up (by show _=if n1=n.seen then n.act else false;rw[if_pos h4]) hc (fun d' ⟨ln,h8,hd⟩=>by subst hd;exact⟨(hA.lines ln).wrote7 n1 n2 n4 n5 n6 n7 n8 zs (by omega) (by unfold cL at h7;omega),hB.step h8 _ _ _ _ _ _ _ _ _⟩) ho⟩
   ·exact(yC hSO hBW hBS low Nd St d vr Mp D H S va fs (aQ t) n.id n.nodes (n.blocks.length:Int) n.act bs vb f n1 n2 n3 n4 n5 n6 n7 n8 zs w hn h hk ht hr hD hff hno hNd2 hSt2 hMp2 hS2 hl2 hn5 hF0 hf2 hne hlt hlow hL hlv hln hre hid he9 hfit hft (by omega) ham).mono fun r w' ⟨l,hl,hq⟩=>⟨l,hl,hq.up (by show _=if n1=n.seen then n.act else false;rw[if_neg h4]) hc (fun d' ⟨ln,h8,hd⟩=>by subst hd;exact⟨(hA.lines ln).wrote7 n1 n2 n4 n5 n6 n7 n8 zs (by omega) (by unfold cL at h7;omega),hB.step h8 _ _ _ _ _ _ _ _ _⟩) ho⟩
 ·rw[if_neg h7,if_neg h7];exact(wH low Nd St d vr Mp D H S va fs (aQ t) n.id n.nodes (n.blocks.length:Int) n.act bs vb f n1 n2 n3 n4 n5 n6 n7 n8 zs w hn h hk ht hr hD hff hno hNd2 hSt2 hMp2 hS2 hl2 hn5 hF0 hf2 hne hlt (by cases h9:eC 7 (n.blocks.length:Int) n7 zs.length<;>first|rfl|exact absurd (hfi.1 h9) h7)).mono fun r w' ⟨l,hl,hq⟩=>⟨l,hl,hq.up rfl hc0 hst rfl⟩
theorem IZ(hSO:cU)(hBW:cV)(hBS:cS)(low Nd St:Nat)(d:SD)(vr:Value)(Mp D H S:Nat)(va:Value)(fs:List FD)(t:Nat)(n:RN)(bs:List UInt8)(vb:Value)(f n1 n2 n3 n4 n5 n6 n7 n8:Int)(zs:List Int)(w:World)(hn:aI w Nd n.id n.nodes (n.blocks.length:Int) St n.act)(h:aF w low St d vr Mp D)(hk:aL w low D H S va fs (aQ t))(ht:aJ w)(hr:aR w w.heap.size vb bs)(hD:bD bs 9 f n1 n2 n3 n4 n5 n6 n7 n8 zs 0)(hf1:f≠n.id)(hf2:f<n.nodes)(hNd2:2<=Nd)(hSt2:2<=St)(hMp2:2<=Mp)(hS2:2<=S)(hl2:2<=low)(hlow:low<=w.heap.size)(hA:cC d n)(hok:n.ok)(hB:BD t d)(ht9:t<=1200000):
  Calls pG 143 #[P0 (Y ⟨Nd,0,Z⟩),vb] w fun r w'=>∃l,r=.returned l/\aZ w low Nd n.id n.nodes (n.blocks.length:Int) (n.recvN 9 f n1 n2 n4 n5 n6 n7 n8 zs 0).act St vr Mp D H S va (aQ (t+1)) (fun d'=>cC d' (n.recvN 9 f n1 n2 n4 n5 n6 n7 n8 zs 0)/\BD (t+1) d') (n.recvO 9 f n1 n2 n6 n7 zs 0) l w':=by
 have hff:(f==n.id)=false:=by simp[hf1]
 have hno:decide (n.nodes<=f)=false:=by simp;omega
 have hn5:=hok.nodes5;obtain⟨hm,_,hF0,_⟩:=hD.isM;have hEl:=hok.lastE;have hrl:d.recs.length=n.recs.length:=by rw[hA.recs]
 have hne:0<d.recs.length:=by have:=hok.ne;omega
 have hb1:=hB.recs;have hb2:=hB.vts;have hb3:=hB.l0;have hb4:=hB.l1;have hlt:d.recs.length<=1300000:=by omega
 have hlv:d.vts.length<=1300000:=by omega
 have hln:0<=d.lines/\d.lines<=100000000:=by omega
 have hL:aQ t<=1200000000:=by unfold aQ;omega
 have hc:=hB.cap;have hc0:aQ t<=aQ (t+1):=by unfold aQ;omega
 have hidn:0<=n.id/\n.id<5:=⟨hok.id0,by have:=hok.id1;omega⟩;have hid:0<=d.id/\d.id<5:=by rw[hA.id];exact hidn
 have hre:∀r∈d.recs,0<=r.E/\r.E<=10000000000000:=by
  intro r hr9;rw[hA.recs]at hr9;obtain⟨i,hi,rfl⟩:=List.getElem_of_mem hr9;have:=hok.ep i hi;omega
 have hst:∀d',d'=d->cC d' n/\BD (t+1) d':=fun d' hd=>by subst hd;exact⟨hA,hB.next⟩
 have hsn:=hA.seen;have hla:=hA.last;have hm1:=(kB _ _ _ _ _ _ _ _ _).1 hm;have he9:=hm1.1;have hq9:=hm1.2.1;have hz4:zs.length<=4:=hD.len;have hbk1:=hok.b1;have hbk4:=hok.b4;have hfi:=@sS n 9 n7 zs (by omega);have ham:=JG n.id n1 n6 hidn he9 hq9
 have hO:n.recvO 9 f n1 n2 n6 n7 zs 0=if cL n 9 n7 zs then n.storedO 9 f n1 n6 else none:=by
  unfold RN.recvO;rw[if_neg (by omega),if_neg (by omega)]
 have hNN:n.recvN 9 f n1 n2 n4 n5 n6 n7 n8 zs 0=if cL n 9 n7 zs then(if hZ n n1 n6 then n else n.wrote 9 n1 n6 n7 n8 zs) else n:=by unfold RN.recvN;rw[if_neg (by omega),if_neg (by omega),if_neg (by omega)]
 rw[hNN,hO]
 by_cases h7:cL n 9 n7 zs
 ·rw[if_pos h7,if_pos h7];have hft:=hfi.2 h7;have hfit:gG 9 n7 zs.length:=by unfold cL at h7;unfold gG;omega
  by_cases h2:hZ n n1 n6
  ·rw[if_pos h2]
   by_cases c1:n1<n.seen
   ·by_cases c2:n1<n.lastR.E
    ·obtain⟨E,rfl⟩:=Int.eq_ofNat_of_zero_le he9.1;have hrc:=hok.rc (E+1);exact(AO low Nd St d vr Mp D H S va fs (aQ t) n.id n.nodes (n.blocks.length:Int) n.act bs vb f n2 n3 n4 n5 n6 n7 n8 E zs w hn h hk ht hr hD hff hno hNd2 hSt2 hMp2 hS2 hl2 hn5 hF0 hf2 hne hlt hft (by omega) (by omega) (nF n.id E _ _ hidn he9 (by rw[hA.recs];exact hrc.1) (by rw[hA.recs];exact hrc.2))).mono fun r w' ⟨l,hl,hq⟩=>⟨l,hl,hq.up rfl hc0 hst (by unfold RN.storedO;rw[if_neg (by omega),if_pos c1,if_pos c2,hA.recs,Int.toNat_natCast])⟩
    ·exact(yD low Nd St d vr Mp D H S va fs (aQ t) n.id n.nodes (n.blocks.length:Int) n.act bs vb f n1 n2 n3 n4 n5 n6 n7 n8 zs w hn h hk ht hr hD hff hno hNd2 hSt2 hMp2 hS2 hl2 hn5 hF0 hf2 hne hlt hft (by omega) (by omega)).mono fun r w' ⟨l,hl,hq⟩=>⟨l,hl,hq.up rfl hc0 hst (by unfold RN.storedO;rw[if_neg (by omega),if_pos c1,if_neg c2])⟩
   ·have hes:n1=n.seen:=by rcases h2 with h2|h2|h2<;>omega
    by_cases c3:n.act=true
    ·exact(qR low Nd St d vr Mp D H S va fs (aQ t) n.id n.nodes (n.blocks.length:Int) n.act bs vb f n1 n2 n3 n4 n5 n6 n7 n8 zs w hn h hk ht hr hD hff hno hNd2 hSt2 hMp2 hS2 hl2 hn5 hF0 hf2 hne hlt hft (by omega) (.inl c3)).mono fun r w' ⟨l,hl,hq⟩=>⟨l,hl,hq.up rfl hc0 hst (by unfold RN.storedO;rw[if_pos ⟨c3,hes⟩])⟩
    ·have hq:n6<=n.last:=by
      rcases h2 with h2|h2|h2
      ·exact absurd h2.1 c3
      ·omega
      ·exact h2.2
     by_cases c4:n6<n.last
     ·exact(qR low Nd St d vr Mp D H S va fs (aQ t) n.id n.nodes (n.blocks.length:Int) n.act bs vb f n1 n2 n3 n4 n5 n6 n7 n8 zs w hn h hk ht hr hD hff hno hNd2 hSt2 hMp2 hS2 hl2 hn5 hF0 hf2 hne hlt hft (by omega) (.inr (by omega))).mono fun r w' ⟨l,hl,hq⟩=>⟨l,hl,hq.up rfl hc0 hst (by unfold RN.storedO;rw[if_neg (fun hh=>c3 hh.1),if_neg c1,if_pos ⟨hes,c4⟩])⟩
     ·exact(yE low Nd St d vr Mp D H S va fs (aQ t) n.id n.nodes (n.blocks.length:Int) n.act bs vb f n1 n2 n3 n4 n5 n6 n7 n8 zs w hn h hk ht hr hD hff hno hNd2 hSt2 hMp2 hS2 hl2 hn5 hF0 hf2 hne hlt hft (by simpa using c3) (by omega) (by omega) ham).mono fun r w' ⟨l,hl,hq⟩=>⟨l,hl,hq.up rfl hc0 hst (by unfold RN.storedO;rw[if_neg (fun hh=>c3 hh.1),if_neg c1,if_neg (by omega)];rfl)⟩
  ·rw[if_neg h2];have h3:¬(n.act=true/\n1=n.seen)/\¬n1<n.seen/\¬(n1=n.seen/\n6<=n.last):=⟨fun x=>h2 (.inl x),fun x=>h2 (.inr (.inl x)),fun x=>h2 (.inr (.inr x))⟩
   have ho:some (f,aT 10 n.id n1 0 0 0 0 n6 0 0 [])=n.storedO 9 f n1 n6:=by
    unfold RN.storedO;rw[if_neg h3.1,if_neg h3.2.1,if_neg (by omega)];rfl
   by_cases h4:n1=n.seen
   ·have hac:n.act=false:=by
     cases hh:n.act
     ·rfl
     ·exact absurd ⟨hh,h4⟩ h3.1
    exact(yF hSO hBW hBS low Nd St d vr Mp D H S va fs (aQ t) n.id n.nodes (n.blocks.length:Int) n.act bs vb f n1 n2 n3 n4 n5 n6 n7 n8 zs w hn h hk ht hr hD hff hno hNd2 hSt2 hMp2 hS2 hl2 hn5 hF0 hf2 hne hlt hlow hL hlv hln hre hid he9 hfit hft hac (by omega) (by omega) ham).mono fun r w' ⟨l,hl,hq⟩=>⟨l,hl,hq.up (by show _=if n1=n.seen then n.act else false;rw[if_pos h4]) hc (fun d' ⟨ln,h8,hd⟩=>by subst hd;exact⟨(hA.lines ln).wrote9 n1 n2 n4 n5 n6 n7 n8 zs (by unfold cL at h7;omega),hB.step h8 _ _ _ _ _ _ _ _ _⟩) ho⟩
   ·exact(yG hSO hBW hBS low Nd St d vr Mp D H S va fs (aQ t) n.id n.nodes (n.blocks.length:Int) n.act bs vb f n1 n2 n3 n4 n5 n6 n7 n8 zs w hn h hk ht hr hD hff hno hNd2 hSt2 hMp2 hS2 hl2 hn5 hF0 hf2 hne hlt hlow hL hlv hln hre hid he9 hfit hft (by omega) ham).mono fun r w' ⟨l,hl,hq⟩=>⟨l,hl,hq.up (by show _=if n1=n.seen then n.act else false;rw[if_neg h4]) hc (fun d' ⟨ln,h8,hd⟩=>by subst hd;exact⟨(hA.lines ln).wrote9 n1 n2 n4 n5 n6 n7 n8 zs (by unfold cL at h7;omega),hB.step h8 _ _ _ _ _ _ _ _ _⟩) ho⟩
 ·rw[if_neg h7,if_neg h7];exact(wI low Nd St d vr Mp D H S va fs (aQ t) n.id n.nodes (n.blocks.length:Int) n.act bs vb f n1 n2 n3 n4 n5 n6 n7 n8 zs w hn h hk ht hr hD hff hno hNd2 hSt2 hMp2 hS2 hl2 hn5 hF0 hf2 hne hlt (by cases h9:eC 9 (n.blocks.length:Int) n7 zs.length<;>first|rfl|exact absurd (hfi.1 h9) h7)).mono fun r w' ⟨l,hl,hq⟩=>⟨l,hl,hq.up rfl hc0 hst rfl⟩
theorem KH(hSO:cU)(hBW:cV)(hBS:cS)(low Nd St:Nat)(d:SD)(vr:Value)(Mp D H S:Nat)(va:Value)(fs:List FD)(t:Nat)(n:RN)(bs:List UInt8)(vb:Value)(k f n1 n2 n3 n4 n5 n6 n7 n8:Int)(zs:List Int)(ec:Int)(w:World)(hn:aI w Nd n.id n.nodes (n.blocks.length:Int) St n.act)(h:aF w low St d vr Mp D)(hk:aL w low D H S va fs (aQ t))(ht:aJ w)(hr:aR w w.heap.size vb bs)(hD:bD bs k f n1 n2 n3 n4 n5 n6 n7 n8 zs ec)(hNd2:2<=Nd)(hSt2:2<=St)(hMp2:2<=Mp)(hS2:2<=S)(hl2:2<=low)(hlow:low<=w.heap.size)(hA:cC d n)(hok:n.ok)(hB:BD t d)(ht9:t<=1200000):
  Calls pG 143 #[P0 (Y ⟨Nd,0,Z⟩),vb] w fun r w'=>∃l,r=.returned l/\aZ w low Nd n.id n.nodes (n.blocks.length:Int) (n.recvN k f n1 n2 n4 n5 n6 n7 n8 zs ec).act St vr Mp D H S va (aQ (t+1)) (fun d'=>cC d' (n.recvN k f n1 n2 n4 n5 n6 n7 n8 zs ec)/\BD (t+1) d') (n.recvO k f n1 n2 n6 n7 zs ec) l w':=by
 have hc0:aQ t<=aQ (t+1):=by unfold aQ;omega
 have hst:∀d',d'=d->cC d' n/\BD (t+1) d':=fun d' hd=>by subst hd;exact⟨hA,hB.next⟩
 by_cases h0:¬ec=0∨f=n.id∨n.nodes<=f
 ·have hN:n.recvN k f n1 n2 n4 n5 n6 n7 n8 zs ec=n:=by unfold RN.recvN;rw[if_pos h0]
  have hO:n.recvO k f n1 n2 n6 n7 zs ec=none:=by unfold RN.recvO;rw[if_pos h0]
  rw[hN,hO];rcases hD.two with rfl|rfl
  ·by_cases h1:f=n.id
   ·exact(yI low Nd St d vr Mp D H S va fs (aQ t) n.id n.nodes (n.blocks.length:Int) n.act bs vb k f n1 n2 n3 n4 n5 n6 n7 n8 zs w hn h hk ht hr hD (by simp[h1])).mono fun r w' ⟨l,hl,hq⟩=>⟨l,hl,hq.up rfl hc0 hst rfl⟩
   ·exact(AR low Nd St d vr Mp D H S va fs (aQ t) n.id n.nodes (n.blocks.length:Int) n.act bs vb k f n1 n2 n3 n4 n5 n6 n7 n8 zs w hn h hk ht hr hD (by simp[h1]) (by simp;omega)).mono fun r w' ⟨l,hl,hq⟩=>⟨l,hl,hq.up rfl hc0 hst rfl⟩
  ·exact(yH low Nd St d vr Mp D H S va fs (aQ t) n.id n.nodes (n.blocks.length:Int) n.act bs vb k f n1 n2 n3 n4 n5 n6 n7 n8 zs w hn h hk ht hr hD).mono fun r w' ⟨l,hl,hq⟩=>⟨l,hl,hq.up rfl hc0 hst rfl⟩
 obtain rfl:ec=0:=by omega
 have hf1:f≠n.id:=by omega
 have hf2:f<n.nodes:=by omega
 have hn5:=hok.nodes5;obtain⟨hm,hk9,hF0,_⟩:=hD.isM;have hff:(f==n.id)=false:=by simp[hf1]
 have hno:decide (n.nodes<=f)=false:=by simp;omega
 have hrl:d.recs.length=n.recs.length:=by rw[hA.recs]
 have hne:0<d.recs.length:=by have:=hok.ne;omega
 have hlt:d.recs.length<=1300000:=by have:=hB.recs;omega
 have hk10:k=1∨k=2∨k=3∨k=4∨k=5∨k=6∨k=7∨k=8∨k=9∨k=10:=by omega
 have hN:∀j:Int,(j=2∨j=4∨j=5∨j=8∨j=10)->n.recvN j f n1 n2 n4 n5 n6 n7 n8 zs 0=n:=by
  intro j hj;unfold RN.recvN;rw[if_neg (by omega),if_neg (by omega),if_neg (by omega),if_neg (by unfold cL;omega)]
 have hO:∀j:Int,(j=2∨j=4∨j=5∨j=8∨j=10)->n.recvO j f n1 n2 n6 n7 zs 0=none:=by
  intro j hj;unfold RN.recvO;rw[if_neg (by omega),if_neg (by omega),if_neg (by omega)]
 rcases hk10 with rfl|rfl|rfl|rfl|rfl|rfl|rfl|rfl|rfl|rfl
 ·exact IV hSO hBW hBS low Nd St d vr Mp D H S va fs t n bs vb f n1 n2 n3 n4 n5 n6 n7 n8 zs w hn h hk ht hr hD hf1 hf2 hNd2 hSt2 hMp2 hS2 hl2 hlow hA hok hB ht9
 ·rw[hN 2 (by omega),hO 2 (by omega)];exact(EG low Nd St d vr Mp D H S va fs (aQ t) n.id n.nodes (n.blocks.length:Int) n.act bs vb f n1 n2 n3 n4 n5 n6 n7 n8 zs w hn h hk ht hr hD hff hno hNd2 hSt2 hMp2 hS2 hl2 hn5 hF0 hf2 hne hlt).mono fun r w' ⟨l,hl,hq⟩=>⟨l,hl,hq.up rfl hc0 hst rfl⟩
 ·exact IW hSO hBW hBS low Nd St d vr Mp D H S va fs t n bs vb f n1 n2 n3 n4 n5 n6 n7 n8 zs w hn h hk ht hr hD hf1 hf2 hNd2 hSt2 hMp2 hS2 hl2 hlow hA hok hB ht9
 ·rw[hN 4 (by omega),hO 4 (by omega)];exact(EH low Nd St d vr Mp D H S va fs (aQ t) n.id n.nodes (n.blocks.length:Int) n.act bs vb f n1 n2 n3 n4 n5 n6 n7 n8 zs w hn h hk ht hr hD hff hno hNd2 hSt2 hMp2 hS2 hl2 hn5 hF0 hf2 hne hlt).mono fun r w' ⟨l,hl,hq⟩=>⟨l,hl,hq.up rfl hc0 hst rfl⟩
 ·rw[hN 5 (by omega),hO 5 (by omega)];exact(EI low Nd St d vr Mp D H S va fs (aQ t) n.id n.nodes (n.blocks.length:Int) n.act bs vb f n1 n2 n3 n4 n5 n6 n7 n8 zs w hn h hk ht hr hD hff hno hNd2 hSt2 hMp2 hS2 hl2 hn5 hF0 hf2 hne hlt).mono fun r w' ⟨l,hl,hq⟩=>⟨l,hl,hq.up rfl hc0 hst rfl⟩
 ·exact IX hSO hBW hBS low Nd St d vr Mp D H S va fs t n bs vb f n1 n2 n3 n4 n5 n6 n7 n8 zs w hn h hk ht hr hD hf1 hf2 hNd2 hSt2 hMp2 hS2 hl2 hlow hA hok hB ht9
 ·exact IY hSO hBW hBS low Nd St d vr Mp D H S va fs t n bs vb f n1 n2 n3 n4 n5 n6 n7 n8 zs w hn h hk ht hr hD hf1 hf2 hNd2 hSt2 hMp2 hS2 hl2 hlow hA hok hB ht9
 ·rw[hN 8 (by omega),hO 8 (by omega)];exact(EJ low Nd St d vr Mp D H S va fs (aQ t) n.id n.nodes (n.blocks.length:Int) n.act bs vb f n1 n2 n3 n4 n5 n6 n7 n8 zs w hn h hk ht hr hD hff hno hNd2 hSt2 hMp2 hS2 hl2 hn5 hF0 hf2 hne hlt).mono fun r w' ⟨l,hl,hq⟩=>⟨l,hl,hq.up rfl hc0 hst rfl⟩
 ·exact IZ hSO hBW hBS low Nd St d vr Mp D H S va fs t n bs vb f n1 n2 n3 n4 n5 n6 n7 n8 zs w hn h hk ht hr hD hf1 hf2 hNd2 hSt2 hMp2 hS2 hl2 hlow hA hok hB ht9
 ·rw[hN 10 (by omega),hO 10 (by omega)];exact(CC low Nd St d vr Mp D H S va fs (aQ t) n.id n.nodes (n.blocks.length:Int) n.act bs vb f n1 n2 n3 n4 n5 n6 n7 n8 zs w hn h hk ht hr hD hff hno hNd2 hSt2 hMp2 hS2 hl2 hn5 hF0 hf2 hne hlt).mono fun r w' ⟨l,hl,hq⟩=>⟨l,hl,hq.up rfl hc0 hst rfl⟩
theorem cD.shiftR{ext ext':Nat->Prop}{w w':World}{base R:Nat}{v:Nat->Value}{es:Nat->List bU}(h:cD ext w base R v es)(hs:w.heap.size<=w'.heap.size)(hb:∀g,g<w.heap.size->¬ext g->g≠R->w'.heap[g]?=w.heap[g]?)(hc:∀k,k<5->w'.cell? ⟨R,4+k,Z⟩=w.cell? ⟨R,4+k,Z⟩)(hf:∀i,w'.frozen? ⟨R,i,Z⟩=false)(he:∀g,g<w.heap.size->ext' g->ext g):cD ext' w' base R v es:=by
 have hR:R<w.heap.size:=Nat.lt_of_lt_of_le h.lt h.le;have hlt:=h.lt;refine⟨fun k hk=>(hc k hk).trans (h.cell k hk),hf,h.lt,Nat.le_trans h.le hs,fun k hk=>?_,h.ne,h.num,fun k hk e hE=>?_,fun k hk g hg hx=>?_,fun hx=>h.exR (he R hR hx),h.small⟩
 ·exact aH (h.own k hk) (fun g hg=>hb g ((h.own k hk).lt g hg).2 (h.ex k hk g hg) (by have:=((h.own k hk).lt g hg).1;omega))
 ·refine(h.ok k hk e hE).kept hs (fun g h0 h1 h2=>⟨hb g h1 (fun hx=>h2 (.inr hx)) (by omega),?_⟩);rintro(h3|h3)
  ·exact h2 (.inl h3)
  ·exact h2 (.inr (he g h1 h3))
 ·exact h.ex k hk g hg (he g ((h.own k hk).lt g hg).2 hx)
theorem l8{w:World}{base:Nat}{e:TypeId}{size n:Nat}{v:Value}{xs:List Value}(h:w.ownsRow base e size v n xs){g:Nat}(hg:v.ownBlock=Y g):∃cur,aB w g cur e:=by
 rcases h.2 with⟨rfl,_⟩|⟨g',cap,cur,rfl,_,h1,_⟩
 ·simp[Value.ownBlock]at hg
 ·simp[Value.ownBlock]at hg;subst hg;exact⟨cur,⟨h1⟩⟩
def cY(n:RN)(a b c:Value):List Value:=[I T n.id,I T n.nodes,a,b,c,I T n.seen,I T n.last,.bool n.act,J Z 0 0,J Z 0 0,I T n.ops,J Z 0 0,.bool false,J Z 0 0]
structure HD where
 hb:Nat
 Kn:Nat
 Nd:Nat
 St:Nat
 Mp:Nat
 D:Nat
 H:Nat
 S:Nat
 vr:Value
 va:Value
 vm:Value
 rr:Value
 rv:Value
 rb:Value
 d:SD
 fs:List FD
 n:RN
def HD.all(x:HD)(g:Nat):Prop:=g=x.hb∨g=x.Kn∨g=x.Nd∨g=x.D∨g=x.H∨eH x.St x.vr x.Mp x.S x.va g∨x.vm.ownBlock=Y g∨x.rr.ownBlock=Y g∨x.rv.ownBlock=Y g∨x.rb.ownBlock=Y g
structure cG(w:World)(base t:Nat)(x:HD):Prop where
 host:aB w x.hb #[P0 (Y ⟨x.Kn,0,Z⟩),P0 (Y ⟨x.D,0,Z⟩),P0 (Y ⟨x.H,0,Z⟩),x.vm] 144
 kn:aB w x.Kn #[Value.int IntKind.i32 0,Value.int IntKind.u32 0,P0 (Y ⟨x.Nd,0,Z⟩)] 134
 nd:aI w x.Nd x.n.id x.n.nodes (x.n.blocks.length:Int) x.St x.n.act
 st:aF w base x.St x.d x.vr x.Mp x.D
 dk:aL w base x.D x.H x.S x.va x.fs (aQ t)
 may:w.ownsRow base 225 14 x.vm 1 (cY x.n x.rr x.rv x.rb)
 rr:w.ownsRow base 66 3 x.rr x.n.recs.length (x.n.recs.flatMap aM.cells)
 rv:w.ownsRow base 275 5 x.rv x.n.votes.length (x.n.votes.flatMap aS.cells)
 rb:w.ownsRow base 3 1 x.rb x.n.blocks.length (x.n.blocks.map (Value.int .i64))
 alike:cC x.d x.n
 ok:x.n.ok
 bd:BD t x.d
 vl:x.n.votes.length<=t
 low:∀g,x.all g->base<=g
 sep:∀g,x.rr.ownBlock=Y g->x.vr.ownBlock≠some g
section
variable {w w' : World} {base t : Nat} {x : HD}
theorem cG.lt(h:cG w base t x){g:Nat}(hg:x.all g):g<w.heap.size:=by
 rcases hg with rfl|rfl|rfl|rfl|rfl|hg|hg|hg|hg|hg
 ·exact h.host.lt
 ·exact h.kn.lt
 ·exact h.nd.blk.lt
 ·exact(Array.getElem?_eq_some_iff.1 h.dk.hands.d).1
 ·exact(Array.getElem?_eq_some_iff.1 h.dk.hands.h).1
 ·exact i9 h.st h.dk hg
 ·exact(h.may.lt g hg).2
 ·exact(h.rr.lt g hg).2
 ·exact(h.rv.lt g hg).2
 ·exact(h.rb.lt g hg).2
theorem cG.kept(h:cG w base t x)(hb:∀g,x.all g->w'.heap[g]?=w.heap[g]?):cG w' base t x where
 host:=h.host.same (hb _ (.inl rfl))
 kn:=h.kn.same (hb _ (.inr (.inl rfl)))
 nd:=⟨h.nd.blk.same (hb _ (.inr (.inr (.inl rfl))))⟩
 st:=⟨h.st.blk.same (hb _ (.inr (.inr (.inr (.inr (.inr (.inl (.inl rfl)))))))),aH h.st.rcs (fun g hg=>hb g (.inr (.inr (.inr (.inr (.inr (.inl (.inr (.inr (.inl hg)))))))))),h.st.vot.same (hb _ (.inr (.inr (.inr (.inr (.inr (.inl (.inr (.inl rfl)))))))))⟩
 dk:=⟨⟨(hb _ (.inr (.inr (.inr (.inl rfl))))).trans h.dk.hands.d,(hb _ (.inr (.inr (.inr (.inr (.inl rfl)))))).trans h.dk.hands.h⟩,h.dk.ds.kept (hb _ (.inr (.inr (.inr (.inr (.inr (.inl (.inr (.inr (.inr (.inl rfl))))))))))) (fun g hg=>hb g (.inr (.inr (.inr (.inr (.inr (.inl (.inr (.inr (.inr (.inr hg))))))))))),h.dk.dS,h.dk.hS,h.dk.one,h.dk.bd⟩
 may:=aH h.may (fun g hg=>hb g (.inr (.inr (.inr (.inr (.inr (.inr (.inl hg))))))))
 rr:=aH h.rr (fun g hg=>hb g (.inr (.inr (.inr (.inr (.inr (.inr (.inr (.inl hg)))))))))
 rv:=aH h.rv (fun g hg=>hb g (.inr (.inr (.inr (.inr (.inr (.inr (.inr (.inr (.inl hg))))))))))
 rb:=aH h.rb (fun g hg=>hb g (.inr (.inr (.inr (.inr (.inr (.inr (.inr (.inr (.inr hg))))))))))
 alike:=h.alike
 ok:=h.ok
 bd:=h.bd
 vl:=h.vl
 low:=h.low
 sep:=h.sep
theorem cG.later(h:cG w base t x)(hb:Below w.heap.size w w'):cG w' base t x:=h.kept (fun g hg=>hb.block g (h.lt hg))
theorem sF{a b:Nat}(h:a<=b):aQ a<=aQ b:=by unfold aQ;omega
theorem BD.mono{a b:Nat}{d:SD}(h:BD a d)(hab:a<=b):BD b d:=⟨by have:=h.recs;omega,by have:=h.vts;omega,h.l0,by have:=h.l1;omega⟩
theorem cG.up{t':Nat}(h:cG w base t x)(ht:t<=t'):cG w base t' x:=⟨h.host,h.kn,h.nd,h.st,h.dk.mono (sF ht),h.may,h.rr,h.rv,h.rb,h.alike,h.ok,h.bd.mono ht,Nat.le_trans h.vl ht,h.low,h.sep⟩
theorem cG.off(h:cG w base t x){b' sz m:Nat}{e:TypeId}{v:Value}{xs:List Value}(ho:w.ownsRow b' e sz v m xs)(hne:e≠144/\e≠134/\e≠192/\e≠100/\e≠102/\e≠200/\e≠98/\e≠107/\e≠66/\e≠225/\e≠275/\e≠3){g:Nat}(hg:x.all g):v.ownBlock≠some g:=by
 intro hv;obtain⟨cur,hB⟩:=l8 ho hv;obtain⟨n1,n2,n3,n4,n5,n6,n7,n8,n9,n10,n11,n12⟩:=hne;rcases hg with hg|hg|hg|hg|hg|(hg|hg|hg|hg|hg)|hg|hg|hg|hg
 ·exact h.host.ne hB (Ne.symm n1) hg.symm
 ·exact h.kn.ne hB (Ne.symm n2) hg.symm
 ·exact h.nd.blk.ne hB (Ne.symm n3) hg.symm
 ·exact(aB.mk h.dk.hands.d).ne hB (Ne.symm n4) hg.symm
 ·exact(aB.mk h.dk.hands.h).ne hB (Ne.symm n5) hg.symm
 ·exact h.st.blk.ne hB (Ne.symm n6) hg.symm
 ·exact h.st.vot.ne hB hg.symm
 ·exact aW h.st.rcs hB.blk n9 hg
 ·exact(aB.mk h.dk.ds.st).ne hB (Ne.symm n7) hg.symm
 ·exact aW h.dk.ds.row hB.blk n8 hg
 ·exact aW h.may hB.blk n10 hg
 ·exact aW h.rr hB.blk n9 hg
 ·exact aW h.rv hB.blk n11 hg
 ·exact aW h.rb hB.blk n12 hg
end
def nG(hs:List HD)(vh vs:Value)(g:Nat):Prop:=(∃x∈hs,x.all g)∨vh.ownBlock=Y g∨vs.ownBlock=Y g
structure cX(base R t:Nat)(w:World)(ao:Option Addr)(c:Nat)(ms:List aU)(vh vs:Value)(hs:List HD)(ss:List (List UInt8))(v:Nat->Value)(es:Nat->List bU):Prop where
 two:2<=R
 tabs:aJ w
 c0:w.cell? ⟨R,0,Z⟩=Y (J ao ms.length c)
 goods:i8 base R w ao ms
 mok:∀m∈ms,m.ok
 mlen:ms.length<=9223372036854775807
 c2:w.cell? ⟨R,2,Z⟩=Y vh
 c3:w.cell? ⟨R,3,Z⟩=Y vs
 hrow:w.ownsRow base 141 1 vh hs.length (hs.map (fun x=>P0 (Y ⟨x.hb,0,Z⟩)))
 srow:w.ownsRow base 9 1 vs ss.length (ss.map (fun s=>Value.string (aC s)))
 slen:∀s∈ss,s.length<=300
 hosts:∀x∈hs,cG w base t x
 apart:∀i j (hi:i<hs.length) (hj:j<hs.length),i≠j->∀g,hs[i].all g->¬hs[j].all g
 led:cD (nG hs vh vs) w base R v es
 hlen:hs.length<=t
 sl:ss.length<=t
 el:∀k,k<5->(es k).length<=t
def dB(base R t:Nat)(w:World):Prop:=∃ao c ms vh vs hs ss v es,cX base R t w ao c ms vh vs hs ss v es
section
variable {base R t : Nat} {w w' : World} {ao : Option Addr} {c : Nat} {ms : List aU} {vh vs : Value} {hs : List HD} {ss : List (List UInt8)} {v : Nat → Value} {es : Nat → List bU}
theorem cX.low(h:cX base R t w ao c ms vh vs hs ss v es):R<base/\base<=w.heap.size:=⟨h.led.lt,h.led.le⟩
theorem cX.later(h:cX base R t w ao c ms vh vs hs ss v es)(hb:Below w.heap.size w w'){t':Nat}(ht:t<=t'):cX base R t' w' ao c ms vh vs hs ss v es:=by
 have hl:=h.low;have hR:R<w.heap.size:=by omega
 exact⟨h.two,h.tabs.below (hb.mono (B':=2) (by have:=h.two;omega)) (Nat.le_refl _),(hb.cell (p:=⟨R,0,Z⟩) hR).trans h.c0,h.goods.saved (bM.of_below hb hl.2),h.mok,h.mlen,(hb.cell (p:=⟨R,2,Z⟩) hR).trans h.c2,(hb.cell (p:=⟨R,3,Z⟩) hR).trans h.c3,aH h.hrow (fun g hg=>hb.block g (h.hrow.lt g hg).2),aH h.srow (fun g hg=>hb.block g (h.srow.lt g hg).2),h.slen,fun x hx=>((h.hosts x hx).later hb).up ht,h.apart,h.led.later hb,by have:=h.hlen;omega,by have:=h.sl;omega,fun k hk=>Nat.le_trans (h.el k hk) ht⟩
theorem cX.save(h:cX base R t w ao c ms vh vs hs ss v es)(hb:Below w.heap.size w w'):bM base R w w':=bM.of_below hb h.low.2
end
end Go.Proofs.YtdcainmlcpafbaaGreatDoor
