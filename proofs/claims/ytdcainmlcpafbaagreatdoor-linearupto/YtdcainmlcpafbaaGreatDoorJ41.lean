import Derived.Test.YtdcainmlcpafbaaGreatDoorJ40
set_option linter.all false
set_option maxHeartbeats 8000000
set_option maxRecDepth 20000
namespace Go.Proofs.YtdcainmlcpafbaaGreatDoor
open Go.RowKit
open Value renaming slice->J,pointer->P0
open Tryz
open Tryz renaming prog->pG
open IntKind renaming i64->T
open Option renaming none->Z,some->Y
open Obj renaming cells->G
open Value (bool)
def IN(hLO:jN)(hUO:jL)(hSO:fA)(hBW:fC)(hBS:fD)(a b:Int)(W:Option Addr)(cm:Nat)(ms:List mG)(w:World)(hT:dW w)(ha:i_ a)(hb:i_ b)(ak:ms.length<=300000)(L:∀m∈ms,m.ok)(M:tD w W ms):Calls pG 9 #[.agg #[I a,I b],J W ms.length cm] w λq w'=>q=.returned (Value.bool true)/\Below w.heap.size w w':=by
 have h4:0<=eZ a%4:=Int.emod_nonneg (eZ a) (show(4:Int)≠0 by decide);obtain⟨n,hn⟩:∃n:Nat,eZ a%4=(n:Int)-2:=⟨(eZ a%4+2).toNat,oG⟩;have HA:=dA ha;have HB:=dA hb;have HN:=dA hn;have HT:=dA hT;have ab:=dA M;have a3:=dA L;have R:=a_ w (G #[I a,I b] 47);have x:=dA (dC.new w #[I a,I b] 47);have o:=dA R;clear R ha hb hn h4 M L;go_enter func9,ntmps9;go_upto_region 1 with fail;generalize hX:w.heap.size=X at*;generalize World.alloc _ _=W1 at*;have ah:dW W1:=HT.below o (by rw[←hX];exact HT.two);have ae:X<=W1.heap.size:=by have:=x.lt;omega
 have x0:=x.cell 0;have x1:=x.cell 1;simp at x0 x1;have O:tD W1 W ms:=by
  rcases ab.out with h9|⟨g,off,e1,e2,e3⟩;·exact .inl h9
  ·exact .inr ⟨g,off,e1,oG,λj hj i hi=>by rw[o.cell (p:=⟨g,off+j*3+i,none⟩) (by rw[←hX];exact e2)];exact e3 j hj i hi⟩
 have an:=dA O;clear O;go_wp2_with fail;refine(LS hLO hUO hSO hBW hBS a b n (eZ b%4+1) W cm ms W1 ah HA HB HN oG ak a3 an).mono ?_;rintro q w2 ⟨Wc,base,t,hs,s,rfl,⟨v,c⟩,hO,_,a1,S⟩;have C:Hid (Below X w w2):=o.trans (S.mono ae);obtain⟨sn,g,u,hg⟩:=hO.gs;obtain⟨y,hy⟩:=(hg 0).li;have a9:=(hg 0).bd;obtain⟨a7,c7,e7⟩:=dZ (c.row 7 dG);obtain⟨a8,c8,e8⟩:=dZ (c.row 8 dG);have k7:=c.cell (k:=7) dG;have k8:=c.cell (k:=8) dG;have r7:=eL.gy (c.row 7 dG);have r8:=eL.gy (c.row 8 dG);rw[e7]at k7 r7;rw[e8]at k8 r8;have k4:=c.blk.cell 4;simp at k4;have ar:=c.nb;have Q:=c.blk.lt;have ad:Hid (w2.cell? ⟨Wc,7,Z⟩=Y (J a7 s.rs.length c7)):=k7;have a0:Hid (w2.cell? ⟨Wc,8,Z⟩=Y (J a8 s.rd.length c8)):=k8;have ai:Hid (eL w2 (J a7 s.rs.length c7) s.rs.length (s.rs.flatMap dJ.cells)):=r7;have aq:Hid (eL w2 (J a8 s.rd.length c8) s.rd.length (s.rd.map bool)):=r8;have HY:=dA hy;have ag:=dA k4;have F:s.rs.length<=100000000:=oG;generalize s.nb=nb at*;generalize s.rs=rs at*;generalize s.rd=rd at*;clear S x0 x1 c hO hg a9 e7 e8 k7 k8 r7 r8 k4 hy a1;go_wp2_with fail;refine(K5 Wc a7 a8 c7 c8 rs rd w2 Q ad a0 ai aq HY.rl.1 F HY.dis).mono ?_;rintro q w3 ⟨ix,s5,s6,rfl,N,U,d⟩;obtain⟨a5,c5,rfl⟩:=dZ d.l;obtain⟨a6,c6,rfl⟩:=dZ d.r;have aj:=dA N;have f:=dA d;have ao:=dA U;clear N d U;go_upto_region 8 with fail;go_loopw [9] (λs9 wx=>∃k:Nat,(k:Int)<=nb/\s9=I (k:Int)/\Below w3.heap.size w3 wx) (λs9 wx=>nb.toNat - (intOf s9).toNat);case atStart=>exact⟨0,oG,rfl,Below.refl _ _⟩
 case round=>
  obtain⟨k,hk,rfl,e⟩:=hrel;have E:=f.b;have o4:wr.cell? ⟨Wc,4,Z⟩=Y (I nb):=(e.cell (p:=⟨Wc,4,Z⟩) (by have:=E.size;show Wc<_;omega)).trans ((E.cell (p:=⟨Wc,4,Z⟩) Q).trans ag);have H:=dA (f.later e);have A:=dA e;clear e E;by_cases ac:(k:Int)<nb
  ·have aa:decide ((k:Int)<nb)=true:=by simp;omega
   have rl:=eL.gy H.l;have rr:=eL.gy H.r;have B:(gR rs ix).length=ix.length:=by unfold gR;simp
   have D:(gB rd ix).length=ix.length:=by unfold gB;simp
   have h:=HY.row aj (b:=(k:Int)) oG ac;have af:Hid (eL wr (J a5 (gR rs ix).length c5) (gR rs ix).length ((gR rs ix).flatMap dJ.cells)):=by unfold Hid;rw[B];exact rl
   have al:Hid (eL wr (J a6 (gB rd ix).length c6) (gB rd ix).length ((gB rd ix).map bool)):=by unfold Hid;rw[D];exact rr
   have a2:Hid (AG.rowsF (k:Int) ((gR rs ix).zip (gB rd ix)) [0] 0=true):=h;have z:=dA B;have K:=dA D;have hC:=NT a5 a6 c5 c6 (gR rs ix) (gB rd ix) (k:Int) wr af al (by rw[z.out,K.out]) (by rw[z.out,ao.out];exact F) a2;rw[z.out,K.out]at hC;have ap:=dA hC;clear rl rr B D h hC;go_wp2_with fail;refine ap.mono ?_;rintro q w4 ⟨rfl,V⟩;have a4:Hid (Below w3.heap.size w3 w4):=A.trans (V.mono A.size);clear V;go_wp2_with fail;go_roundw;case rel=>exact⟨k+1,oG,by go_num,a4⟩
   case measure=>simp[intOf];omega
  have aa:decide ((k:Int)<nb)=false:=by simp;omega
  go_wp2_with fail;refine bodyPost_ret (v:=.bool true) (by simp[results,results9,go_sem]) rfl ?_;refine⟨rfl,?_⟩;have h9:Below X w wr:=C.trans ((f.b.mono (by have:=C.size;rw[←hX];exact this)).trans (A.mono (by have:=f.b.size;have:=C.size;omega)));first|exact h9|(rw[hX];exact h9)
end Go.Proofs.YtdcainmlcpafbaaGreatDoor
