import Derived.Test.YtdcainmlcpafbaaGreatDoorJ08
import Derived.Test.YtdcainmlcpafbaaGreatDoorJ09
set_option linter.all false
set_option maxHeartbeats 8000000
set_option maxRecDepth 20000
namespace Go.Proofs.YtdcainmlcpafbaaGreatDoor
open Go.RowKit
open Value renaming slice->J,pointer->P0
open Tryz
open Tryz renaming prog->pG
open IntKind renaming i64->T
open Option renaming none->Z,some->Y
open Obj renaming cells->G
open Value (bool)
def pD(k f e b wa p s q bl v:Int)(zs:List Int):List UInt8:=if fH k f [0,e,b,wa,p,s,q,bl,v,(zs.length:Int)]=true then kB k.toNat f.toNat [0,e,b,wa,p,s,q,bl,v,(zs.length:Int)] zs else[]
def lF(k f e b wa p s q bl v:Int)(zs:List Int):List UInt8:=UInt8.ofNat (pD k f e b wa p s q bl v zs).length::pD k f e b wa p s q bl v zs
def NK(k f e b wa p s q bl v:Int)(a:Option Addr)(d:List Int)(c:Nat)(w:World)(h:dW w)(m:fB w a d):Calls pG 157 #[.agg (mA k f e b wa p s q bl v (J a d.length c))] w λr w'=>∃x j,r=.returned (.tuple #[x,I j])/\gH w' w.heap.size x (pD k f e b wa p s q bl v d)/\(pD k f e b wa p s q bl v d).length<=300/\Below w.heap.size w w':=by
 unfold pD;cases hm:fH k f [0,e,b,wa,p,s,q,bl,v,(d.length:Int)] with
 |true=>refine(vN k f e b wa p s q bl v a d c w h m hm).mono ?_;rintro r w' ⟨x,rfl,i,g⟩;obtain⟨o,n,_,_,l⟩:=qT hm;exact⟨x,0,rfl,i,AJ _ _ _ _ oG l,g⟩
 |false=>refine(vQ k f e b wa p s q bl v a d.length c w h hm).mono ?_;rintro r w' ⟨rfl,g⟩;exact⟨_,1,rfl,World.ownsRow_nil _ _ _ _,sG,g⟩
def CM(k f e b wa p s q bl v:Int)(a:Option Addr)(d:List Int)(c:Nat)(w:World)(O:dW w)(z:2<=w.heap.size)(R:fB w a d):Calls pG 259 #[.agg (mA k f e b wa p s q bl v (J a d.length c))] w λr w'=>r=.returned (.string (dE (lF k f e b wa p s q bl v d)))/\(lF k f e b wa p s q bl v d).length<=301/\Below w.heap.size w w':=by
 obtain⟨i0,M,y,A,C⟩:=info_parts NE;unfold lF;generalize S:pD k f e b wa p s q bl v d=bs;have HE:=dA S;clear S;have h:=a_ w (G (mA k f e b wa p s q bl v (J a d.length c)) 136);have HM:=dA (dC.new w (mA k f e b wa p s q bl v (J a d.length c)) 136);have Q:=dA h;have HT:=dA (O.below h z);have K:=dA (R.later h);clear O R h;go_enter func259,ntmps259;go_upto_region 1 with fail;generalize (w.alloc (G (mA k f e b wa p s q bl v (J a d.length c)) 136))=N at*;have a0:=HM.cell;go_wp2_with fail;refine(NK k f e b wa p s q bl v a d c N HT K).mono ?_;rintro r w1 ⟨x,ec,rfl,i,H,j⟩;rw[HE.out]at i H;obtain⟨X,xc,rfl⟩:=dZ i;have E:=dA i;have o:Hid (Below w.heap.size w w1):=Q.trans (j.mono Q.size);have U:N.heap.size<=w1.heap.size:=j.size;clear j i;go_wp2_with(at_builtin;go_loud (refine vE rfl _ _ 148 rfl w1.heap.size 5 i0 (.int .u8 0) 1 1 underlying148 M y A C rfl dG (J (Y ⟨w1.heap.size,0,Z⟩) 1 1) 1 _ rfl (World.ownsRow_lit w1 _ 1 r_ xG rfl) (J X bs.length xc) bs.length (iA bs) rfl ((eL.gy E).later (a_ w1 _)) ?cl ?c1 ?c2 ?c3 ?c4 ?_));case cl=>simp[iA]
 case c1=>intro u V;simp[iA]at V;obtain⟨x,_,rfl⟩:=V;rfl
 case c2=>unfold maxLen;omega
 case c3=>omega
 case c4=>simp
 intro v' w2 l n;have t:(bs.length:Int)%256=((UInt8.ofNat bs.length).toNat:Int):=by rw[UInt8.toNat_ofNat'];omega
 obtain⟨va,vc,rfl⟩:=dZ l;have B:Hid (gH w2 w1.heap.size (J va (1+bs.length) vc) (UInt8.ofNat bs.length::bs)):=by unfold Hid gH;rw[List.length_cons,Nat.add_comm bs.length 1];have W:=l;rw[t]at W;simpa[iA] using W
 have L:=o.size;have F:Hid (Below w.heap.size w w2):=(Below.alloc o L _).grown n (by simp;omega) (λg hg=>by simp[Value.ownBlock]at hg;omega);have a1:=tM B.ja;have D:(UInt8.ofNat bs.length::bs).length<=301:=by simp;omega
 generalize m:UInt8.ofNat bs.length::bs=bz at*;have K:=dA m;clear l n t m;go_wp2;go_ret;show _/\(UInt8.ofNat bs.length::bs).length<=301/\_;rw[K.out];exact⟨rfl,D,F⟩
def pE(fs:List FD)(left:Int)(dt:List UInt8):List FD:=if left=0 then fs else if left=1 then eO fs eS dt else fM (eO fs eS dt) eS
def mI{l:Int}(h:i_ l):-9223372036854775808<=dL l/\dL l<=9223372036854775807:=by unfold dL;split<;>omega
def fQ.did{low:Nat}{w w':World}{D H S:Nat}{v:Value}{fs:List FD}{l:Int}(c:fQ w D H S)(g:D≠S)(j:H≠S)(m:DS 98 107 low w S v fs l)(h:fU (λb=>b=S∨some b=v.ownBlock) w w'):fQ w' D H S:=by
 have i:some D≠v.ownBlock:=by intro a;obtain⟨f,e⟩:=m.rowAt a.symm;rw[c.d]at e;simp at e
 have k:some H≠v.ownBlock:=by intro a;obtain⟨f,e⟩:=m.rowAt a.symm;rw[c.h]at e;simp at e
 exact c.later (h.block D (Array.getElem?_eq_some_iff.1 c.d).1 (λa=>a.elim g i)) (h.block H (Array.getElem?_eq_some_iff.1 c.h).1 (λa=>a.elim j k))
def eC.fore{low S:Nat}{w w1 w2:World}{v:Value}{fs:List FD}{l:Int}(a:Below w.heap.size w w1)(h:eC 98 107 low w1 S v fs l w2):eC 98 107 low w S v fs l w2:=by obtain⟨e,j,b,d⟩:=h;exact⟨e,j,⟨b.os.trans a.os,b.tape.trans a.tape,b.output.trans a.output,Nat.le_trans a.size b.size,λk c m=>(b.block k (Nat.lt_of_lt_of_le c a.size) m).trans (a.block k c)⟩,λg f=>(d g f).imp id (λi=>Nat.le_trans a.size i)⟩
def IE(low D H S:Nat)(va:Value)(fs:List FD)(left:Int)(L:Nat)(k f e b wa p s q bl v:Int)(a:Option Addr)(n:List Int)(c:Nat)(w:World)(ht:dW w)(a0:2<=w.heap.size)(hz:fB w a n)(W:fQ w D H S)(t:D≠S)(a5:H≠S)(hd:DS 98 107 low w S va fs left)(K:i_ left)(m:low<=w.heap.size)(ab:fs.length<=2000000000)(N:∀f∈fs,f.d.length<=L)(hL:L<=2000000000):Calls pG 256 #[P0 (Y ⟨D,0,Z⟩),.agg (mA k f e b wa p s q bl v (J a n.length c))] w λr w'=>r=.returned (.bool (decide (left≠0/\left≠1)))/\eC 98 107 low w S va (pE fs left (lF k f e b wa p s q bl v n)) (dL (dL left)) w':=by
 generalize hE:lF k f e b wa p s q bl v n=dt;have HE:=dA hE;clear hE;have HM:=dA (dC.new w (mA k f e b wa p s q bl v (J a n.length c)) 136);have l:=a_ w (G (mA k f e b wa p s q bl v (J a n.length c)) 136);have HB:=dA l;have HT:=dA (ht.below l a0);have HZ:=dA (hz.later l);have C:=dA N;have a1:=dA hd;have a9:=dA W;have a7:D<w.heap.size:=(Array.getElem?_eq_some_iff.1 W.d).1;have a2:H<w.heap.size:=(Array.getElem?_eq_some_iff.1 W.h).1;clear ht hz l N hd W;have hc:left=0∨left=1∨(left≠0/\left≠1):=oG;have HC:=dA hc;have a8:(decide (left≠0)=false)∨(decide (left≠0)=true/\decide (dL left≠0)=false)∨(decide (left≠0)=true/\decide (dL left≠0)=true):=by
  unfold dL;rcases hc with i|i|i;·subst i;exact .inl rfl
  ·subst i;exact .inr (.inl ⟨rfl,rfl⟩)
  ·refine .inr (.inr ⟨by simpa using i.1,?_⟩);split;·simp;omega
   ·simpa using i.1
 have F:=dA K;clear hc K;rcases a8 with y|⟨y,h2⟩|⟨y,h2⟩;all_goals
  go_enter func256,ntmps256
  go_upto_region 1 with fail
  generalize (w.alloc (G (mA k f e b wa p s q bl v (J a n.length c)) 136))=W0 at*
  have aa:=HM.cell
  have a6:=HB.size
  go_wp2_with fail
  refine(CM k f e b wa p s q bl v a n c W0 HT oG HZ).mono ?_
  rintro r w1 ⟨rfl,X,R⟩
  rw[HE.out]at X⊢
  have g:Hid (Below w.heap.size w w1):=HB.trans (R.mono a6)
  have U:=dA (a1.later g)
  have M:Hid (fQ w1 D H S):=a9.later (g.block D a7) (g.block H a2)
  clear R
  go_wp2_with fail
  refine(vH low D H S va fs left eS dt w1 M t U F oG (Nat.le_trans m g.size) (λf hf=>by have:=C.out f hf;omega) oG).mono ?_
  rintro r w2 ⟨Q,z,A,x,V⟩
  rw[y]at Q
  subst Q
  have a4:=dA (M.did t a5 U x)
  have B:=dA A
  have u:=dA x
  have O:=dA V
  have o:=dA (uD C eS dt)
  clear A x V
  first
  | have i:=h2
    go_wp2_with fail
    refine(vT low D H S z (eO fs eS dt) (dL left) eS w2 a4 t (by have j:=B.out;rw[if_neg (by simpa using y)]at j;exact j) (mI F) (by have:=o.2;omega) (Nat.le_trans m (Nat.le_trans g.size u.size)) (λf hf=>by have:=o.1 f hf;omega)).mono ?_
    rintro r w3 ⟨Q,E⟩
    rw[h2]at Q
    subst Q
    have a3:=dA (eC.fore g (eC.then u O E))
    clear E
    go_wp2
    go_ret
    have hD:=a3.out
    rcases HC.out with j|j|j
    · rw[j]at y;simp at y
    · subst j
      first
      |exact⟨rfl,hD⟩
      |exact absurd i dG
    · have h7:dL left≠0:=by unfold dL;split<;>omega
      first
      | rw[decide_eq_false_iff_not]at i
        exact absurd h7 i
      | refine⟨by simp[j,i],?_⟩
        unfold pE
        rw[if_neg j.1,if_neg j.2]
        rw[if_neg h7]at hD
        exact hD
  | go_wp2
    go_ret
    obtain rfl:left=0:=by simpa using y
    exact⟨rfl,eC.fore g ⟨z,B,u,O⟩⟩
def FT(low D H S:Nat)(v:Value)(fs:List FD)(e:List UInt8)(w:World)(c:fQ w D H S)(h:DS 98 107 low w S v fs 0):Calls pG 38 #[.pointer (some ⟨D,0,none⟩),.string (dE e)] w λr w'=>r=.returned (.bool false)/\eC 98 107 low w S v fs (dL 0) w':=by have cd:=c.cd;clear c;go_enter func38,ntmps38;go_wp2_with fail;refine(oQ low S v fs 0 w h oG).mono ?_;rintro r w1 ⟨rfl,b⟩;obtain⟨d,a,f⟩:=oU h dG w1 b;clear b;rw[show decide ((0:Int)≠0)=false from rfl];have g:Hid _:=eC.same d a;clear d a h;go_wp2;go_ret;exact⟨rfl,g⟩
set_option maxHeartbeats 4000000 in
set_option maxRecDepth 20000 in
def IF(low D H S:Nat)(v:Value)(fs:List FD)(left:Int)(j:List UInt8)(w:World)(s:fQ w D H S)(t:D≠S)(h:DS 98 107 low w S v fs left)(N:left≠0)(u:i_ left)(U:fs.length<=3000000000)(E:low<=w.heap.size):Calls pG 38 #[.pointer (some ⟨D,0,none⟩),.string (dE j)] w λr w'=>r=.returned (.bool true)/\eC 98 107 low w S v (eB fs j) (dL left) w':=by
 have cd:=s.cd;have m:D<w.heap.size:=(Array.getElem?_eq_some_iff.1 s.d).1;have y:=s.d;clear s;go_enter func38,ntmps38;go_wp2_with fail;refine(oQ low S v fs left w h u).mono ?_;rintro r w1 ⟨rfl,q⟩;obtain⟨n,i,R⟩:=oU h dG w1 q;clear q;rw[show decide (left≠0)=true by simpa using N];have C:w1.cell? ⟨D,0,none⟩=some (.pointer (some ⟨S,0,none⟩)):=(World.cell?_of_block (w:=w) (a:=⟨D,0,none⟩) (i.block D m t)).trans cd;have p:=n.cell 0;have A:=n.free 0;simp at p;have L:Hid (DS 98 107 low w1 S v fs (dL left)):=n;have W:Hid (fU (λb=>b=S) w w1):=i;have o:=n.lt;have z:D<w1.heap.size:=oG;clear h n i cd y;go_wp2_with fail;go_region_held3 (λw'=>w'.cell? ⟨D,0,none⟩=some (.pointer (some ⟨S,0,none⟩))) (first|assumption|(rw[World.cell?_setCell_other _ _ _ _ (by intro B;have X:=congrArg Addr.block B;simp at X;omega)];assumption)|go_keep) (first|(go_at_call 80;refine(tL low S v fs (dL left) j w1.drew L.drew U).mono ?_;rintro r w2 ⟨v2,rfl,f,c⟩;obtain⟨M,K,rfl,_⟩:=lL f;have kd:w2.cell? ⟨D,0,none⟩=some (.pointer (some ⟨S,0,none⟩)):=(c.cell (by exact z)).trans C;have ks:w2.cell? ⟨S,0,none⟩=some v:=(c.cell (by exact o)).trans p;have kf:w2.frozen? ⟨S,0,none⟩=false:=(c.frozen (by exact o)).trans A));all_goals
  have F:DS 98 107 low w2 S v fs (dL left):=L.drew.later c
  have e:∀g,Value.ownBlock (.slice M (eB fs j).length K)=some g->w1.heap.size<=g:=λg x=>(World.ownsRow.lt f g x).1
  have V:=c.size
  have l:fU (λb=>b=S∨some b=v.ownBlock) w1 w2:=⟨c.os,c.tape,c.output,c.size,λk Q _=>c.block k Q⟩
  have O:Hid (eC 98 107 low w S v (eB fs j) (dL left) (w2.setCell ⟨S,0,none⟩ (.slice M (eB fs j).length K))):=eC.pre W ⟨_,DS.store (low:=low) (low':=w1.heap.size) F.st f oG (λB=>by have:=e S B;omega),l.trans (fU.set w2 S 0 _) (λb _ u=>.inl u),λg x=>.inr (e g x)⟩
  clear F f c e l
 all_goals go_wp2
 all_goals go_ret
 all_goals exact⟨rfl,O⟩
def GL(low D H S:Nat)(v:Value)(fs:List FD)(left:Int)(b:List UInt8)(w:World)(f:fQ w D H S)(e:D≠S)(h:DS 98 107 low w S v fs left)(i:i_ left)(g:fs.length<=3000000000)(a:low<=w.heap.size):Calls pG 38 #[.pointer (some ⟨D,0,none⟩),.string (dE b)] w λr w'=>r=.returned (.bool (decide (left≠0)))/\eC 98 107 low w S v (if left=0 then fs else eB fs b) (dL left) w':=by
 by_cases c:left=0;·subst c;refine(FT low D H S v fs b w f h).mono ?_;rintro r w' ⟨rfl,d⟩;exact⟨rfl,d⟩
 ·refine(IF low D H S v fs left b w f e h c i g a).mono ?_;rintro r w' ⟨rfl,d⟩;refine⟨?_,?_⟩;·rw[show decide (left≠0)=true by simpa using c]
  ·rw[if_neg c];exact d
def fY(f:List FD->List FD)(st:Bool×List FD×Int):Bool×List FD×Int:=if st.1=true then(decide (st.2.2≠0),if st.2.2=0 then st.2.1 else f st.2.1,dL st.2.2) else st
def iS(fs:List FD)(left:Int):Bool×List FD×Int:=if(dX fs dT).isSome=true then fY (λz=>eB z dT) (true,fs,left) else(true,fs,left)
def gD(fs:List FD)(left:Int)(l:List UInt8):Bool×List FD×Int:=fY (λz=>iU z dT eS) (fY (λz=>fM z dT) (fY (λz=>eO z dT l) (iS fs left)))
def eT(m:dK):List UInt8:=lF m.k m.f m.e m.b m.wa m.p m.s m.q m.bl m.v m.zs
def sP{fs:List FD}{L:Nat}(h:∀f∈fs,f.d.length<=L)(a:List UInt8):(∀f∈eB fs a,f.d.length<=L)/\(eB fs a).length<=fs.length:=⟨λf b=>h f (List.mem_filter.1 b).1,List.length_filter_le _ _⟩
def IsB.kept{B b:Nat}{a:List Value}{w w':World}{A:Nat->Prop}(h:Lib.IsBuilder 352 5 B b a w)(i:fU A w w')(j:∀g,A g->g<B)(m:B<=b):Lib.IsBuilder 352 5 B b a w':=by
 have one:∀p,Lib.BuilderAt 352 5 B b p a w->Lib.BuilderAt 352 5 B b p a w':=by rintro p ⟨l,v,e,d,k⟩;exact⟨l,v,(i.block b (Array.getElem?_eq_some_iff.1 e).1 (λc=>by have:=j b c;omega)).trans e,dQ d (λg f=>i.block g (d.lt g f).2 (λc=>by have:=j g c;have:=(d.lt g f).1;omega)),k⟩
 exact h.imp (one _) (one _)
def fD:Prop:=∀(B b:Nat) (l:List UInt8) (w:World),Lib.IsBuilder 352 5 B b (iA l) w->l≠[]->Calls pG 265 #[P0 (Y ⟨b,0,Z⟩)] w λe w'=>e=.returned (.string (dE l))/\∃g cur,B<=g/\w.heap[g]?=Y (.cells cur 5 (0,0))/\dI g w w'
def eC.other{low S:Nat}{w w1 w2:World}{v:Value}{fs:List FD}{l:Int}(h:eC 98 107 low w S v fs l w1){g:Nat}{b:Array Value}(m:w.heap.size<=g)(f:w1.heap[g]?=Y (.cells b 5 (0,0)))(a:dI g w1 w2):eC 98 107 low w S v fs l w2:=by
 obtain⟨v1,d,k,o⟩:=h;refine⟨v1,⟨(a.block S (λc=>?_)).trans d.st,dQ d.row (λx e=>a.block x (λc=>?_))⟩,⟨a.os.trans k.os,a.tape.trans k.tape,a.output.trans k.output,by rw[a.size];exact k.size,λx e j=>(a.block x oG).trans (k.block x e j)⟩,o⟩;·subst c;have:=f.symm.trans d.st;simp at this
 ·subst c;obtain⟨n,i⟩:=d.rowAt e;rw[f]at i;simp at i
def eC.hands{low D H S:Nat}{w w1:World}{v:Value}{fs a:List FD}{l g:Int}(h:eC 98 107 low w S v a g w1)(f:fQ w D H S)(b:D≠S)(c:H≠S)(e:DS 98 107 low w S v fs l):fQ w1 D H S:=by obtain⟨v1,d,k,o⟩:=h;exact f.did b c e k
def eC.size{low S:Nat}{w w1:World}{v:Value}{fs:List FD}{l:Int}(h:eC 98 107 low w S v fs l w1):w.heap.size<=w1.heap.size:=by obtain⟨v1,d,k,o⟩:=h;exact k.size
def GM(hBW:fC)(hBS:fD)(low D H S:Nat)(A:Value)(fs:List FD)(left:Int)(L:Nat)(ms:List dK)(ao:Option Addr)(c:Nat)(w:World)(ht:dW w)(aS:2<=w.heap.size)(ap:eL w (J ao ms.length c) ms.length (ms.flatMap dK.cells))(aP:∀m∈ms,fB w m.a m.zs)(bd:ms.length<=4000000)(b5:0<ms.length)(hH:fQ w D H S)(y:D≠S)(a3:H≠S)(B:DS 98 107 low w S A fs left)(aE:i_ left)(C:low<=w.heap.size)(aI:fs.length<=2000000000)(aG:∀f∈fs,f.d.length<=L)(hL:L<=1200000000):Calls pG 258 #[P0 (Y ⟨D,0,Z⟩),J ao ms.length c] w λr w'=>r=.returned (.bool (gD fs left (ms.flatMap eT)).1)/\eC 98 107 low w S A (gD fs left (ms.flatMap eT)).2.1 (gD fs left (ms.flatMap eT)).2.2 w':=by
 have HT:=dA ht;have b3:=dA aP;have aL:=dA ap;have HH:=dA hH;have HD:=dA B;have av:=dA aG;have aw:=dA aE;have aU:=dA (Lib.fresh_isBuilder 352 5 w);have b0:Hid (Below w.heap.size w (w.alloc (G #[P0 none,J Z 0 0] 352))):=a_ w _;clear ht aP ap hH B aG aE;go_enter func258,ntmps258;go_wp2;generalize (w.alloc (G #[P0 none,J Z 0 0] 352))=W1 at*;go_loopw [10] (λs10 wr=>∃(t:Nat) (l:List UInt8),t<=ms.length/\s10=I (t:Int)/\l.length<=301*t/\l=(ms.take t).flatMap eT/\Lib.IsBuilder 352 5 w.heap.size w.heap.size (iA l) wr/\Below w.heap.size w wr) (λs10 wr=>ms.length - (intOf s10).toNat);case atStart=>exact⟨0,[],Nat.zero_le _,rfl,Nat.le_refl _,sG,aU,b0⟩
 case round=>
  obtain⟨t,l,bc,rfl,be,aA,aj,F⟩:=hrel;have ag:=dA aA;clear aA;by_cases ax:t<ms.length
  ·obtain⟨g,bf,U,hg,hc⟩:=aL.at oG;cases U;have n:∀k,k<11->wr.cell? ⟨g,t*11+k,Z⟩=Y ((dK.cells ms[t]).getD k undef):=by intro k hk;exact(F.cell (p:=⟨g,t*11+k,Z⟩) hg).trans (hc _ _ (kE dK.cells 11 EQ ms t ax k hk))
   have j0:=n 0 oG;have j1:=n 1 oG;have j2:=n 2 oG;have j3:=n 3 oG;have j4:=n 4 oG;have j5:=n 5 oG;have j6:=n 6 oG;have j7:=n 7 oG;have j8:=n 8 oG;have j9:=n 9 oG;have aX:=n 10 oG;simp[dK.cells]at j0 j1 j2 j3 j4 j5 j6 j7 j8 j9 aX;have aQ:=b3.out ms[t] (List.getElem_mem ax);have b1:Hid ((ms.take (t+1)).flatMap eT=l++eT ms[t]):=by unfold Hid;rw[List.take_succ_eq_append_getElem ax,List.flatMap_append,←ag.out];simp
   clear ag;generalize ms[t]=M at*;have ba:(t:Int)<(ms.length:Int):=oG;have hz:=F.size;have al:Hid (Below w.heap.size w (wr.alloc (G (mA M.k M.f M.e M.b M.wa M.p M.s M.q M.bl M.v (J M.a M.zs.length M.c)) 136))):=F.alloc hz _;have aV:=dA (HT.below al aS);have b2:=dA (aQ.later al);have bb:Hid (Lib.IsBuilder 352 5 w.heap.size w.heap.size (iA l) (wr.alloc (G (mA M.k M.f M.e M.b M.wa M.p M.s M.q M.bl M.v (J M.a M.zs.length M.c)) 136))):=IsB.later aj (a_ _ _);have aR:=dA (dC.new wr (mA M.k M.f M.e M.b M.wa M.p M.s M.q M.bl M.v (J M.a M.zs.length M.c)) 136);have aF:w.heap.size<=(wr.alloc (G (mA M.k M.f M.e M.b M.wa M.p M.s M.q M.bl M.v (J M.a M.zs.length M.c)) 136)).heap.size:=al.size;clear n aQ aj F;go_upto_region 5 with fail;generalize (wr.alloc (G (mA M.k M.f M.e M.b M.wa M.p M.s M.q M.bl M.v (J M.a M.zs.length M.c)) 136))=W2 at*;have bg:=aR.cell;go_wp2_with fail;refine(CM M.k M.f M.e M.b M.wa M.p M.s M.q M.bl M.v M.a M.zs M.c W2 aV oG b2).mono ?_;rintro r w3 ⟨rfl,aZ,ar⟩;have b7:Hid (lF M.k M.f M.e M.b M.wa M.p M.s M.q M.bl M.v M.zs=eT M):=rfl;rw[b7.out]at aZ⊢;have aO:=dA (IsB.later bb ar);have am:Hid (Below w.heap.size w w3):=al.trans (ar.mono aF);have aT:=am.size;clear ar;go_wp2_with fail;refine(hBW w.heap.size w.heap.size l (dE (eT M)) w3 aO (by rw[nN];omega) aT).mono ?_;rintro r w4 ⟨rfl,aH,b9⟩;rw[zW]at aH;have aD:=dA (am.trans b9);go_wp2_with fail;go_roundw;case rel=>exact⟨t+1,l++eT M,oG,by go_num,by simp;omega,b1.symm,aH,aD⟩
   case measure=>simp[intOf];omega
  ·have ba:¬(t:Int)<(ms.length:Int):=oG;have bh:l.length<=1204000000:=oG;have HL:Hid (ms.flatMap eT=l):=by unfold Hid;rw[ag.out,List.take_of_length_le oG]
   have hz:=F.size;have aY:D<w.heap.size:=(Array.getElem?_eq_some_iff.1 HH.d).1;have b4:H<w.heap.size:=(Array.getElem?_eq_some_iff.1 HH.h).1;have ak:Hid (fQ wr D H S):=HH.later (F.block D aY) (F.block H b4);have ab:=dA (HD.later F);have ah:=dA aj;have a2:=dA F;have az:low<=wr.heap.size:=Nat.le_trans C hz;clear aj F ag;go_wp2_with fail;refine(KI low D H S A fs left dT wr ak ab oG).mono ?_;rintro r wb ⟨u,rfl⟩;obtain⟨bo,aq⟩:∃b,b=(dX fs dT).isSome:=⟨_,rfl⟩;rw[←aq]at u;subst u;have a7:=dA aq;clear aq;have aM:∀g,(g=S∨some g=A.ownBlock)->g<w.heap.size:=by
    rintro g (hh|hh);·subst hh;exact(Array.getElem?_eq_some_iff.1 HD.st).1
    ·exact(HD.row.lt g hh.symm).2
   have b8:=dA aM;clear aM;have ai:Hid (eC 98 107 low w S A fs left wb):=⟨A,ab,⟨a2.os,a2.tape,a2.output,a2.size,λk hk _=>a2.block k hk⟩,λg hg=>.inl hg⟩;have an:l≠[]:=by rw[←HL.out];intro hh;have h9:=List.flatMap_eq_nil_iff.1 hh ms[0] (List.getElem_mem b5);unfold eT lF at h9;simp at h9
   have aK:=dA an;clear an;cases bo;rotate_left;go_wp2_with fail;refine(GL low D H S A fs left dT wb ak y ab aw oG az).mono ?_;rintro r wc ⟨u,B⟩;have aJ:Hid (Lib.IsBuilder 352 5 w.heap.size w.heap.size (iA l) wc):=by obtain⟨v1,d,k,o⟩:=B;exact IsB.kept ah k b8 r_
   have au:Hid (eC 98 107 low w S A (if left=0 then fs else eB fs dT) (dL left) wc):=by obtain⟨v1,d,k,o⟩:=ai.out;exact eC.then (v1:=A) k (λg hg=>.inl hg) B
   clear B;by_cases h0:left=0
   ·rw[show decide (left≠0)=false by simp[h0]]at u;subst u;have z:Hid ((gD fs left (ms.flatMap eT))=(false,fs,dL left)):=by unfold Hid gD iS;rw[←a7.out];simp[fY,h0]
    have b6:Hid (eC 98 107 low w S A fs (dL left) wc):=by have:=au.out;rw[if_pos h0]at this;exact this
    clear h0;go_wp2;go_ret;rw[z.out];exact⟨rfl,b6⟩
   ·rw[show decide (left≠0)=true by simp[h0]]at u;subst u;have HI:=aJ;obtain⟨j,i,z⟩:∃j i,Hid (iS fs left=(true,j,i)/\eC 98 107 low w S A j i wc/\j.length<=2000000000/\(∀f∈j,f.d.length<=L)/\(i_ i)):=⟨eB fs dT,dL left,by unfold iS;rw[←a7.out];simp[fY,h0],by have:=au.out;rw[if_neg h0]at this;exact this,Nat.le_trans (sP av dT).2 aI,(sP av dT).1,mI aw⟩;clear h0 au ai a7 ah aJ ab ak a2;go_wp2_with fail;refine(hBS w.heap.size w.heap.size l _ HI aK).mono ?_;rintro r wa ⟨rfl,g5,aB,a9,af,a6⟩;have K:=dA (z.2.1.other a9 af a6);clear a9 af a6 HI;obtain⟨v1,d1,k1,o1⟩:=K.out;have aW:=z.2.2.1;have a5:=dA d1;have aa:=dA k1;have ac:=dA o1;clear d1 k1 o1;go_wp2_with fail;refine(vH low D H S v1 j i dT l wa (K.hands HH y a3 HD) y a5 z.2.2.2.2 oG (Nat.le_trans C K.size) (λf hf=>by have:=z.2.2.2.1 f hf;omega) oG).mono ?_;rintro r E ⟨u,B⟩;have x:=dA (eC.then aa ac B);clear B;by_cases U:i=0
    ·rw[show decide (i≠0)=false by simp[U]]at u;subst u;have W:Hid ((gD fs left (ms.flatMap eT))=(false,j,dL (i))):=by unfold Hid gD;rw[z.1,HL.out];simp[fY,U]
     have X:Hid (eC 98 107 low w S A j (dL (i)) E):=by have:=x.out;rw[if_pos U]at this;exact this
     clear x;go_wp2;go_ret;rw[W.out];exact⟨rfl,X⟩
    rw[show decide (i≠0)=true by simp[U]]at u;subst u;have N:Hid (eC 98 107 low w S A (eO j dT l) (dL (i)) E):=by have:=x.out;rw[if_neg U]at this;exact this
    have a1:=dA U;obtain⟨v2,d2,k2,o2⟩:=N.out;have O:=dA d2;have Q:=dA k2;have R:=dA o2;clear d2 k2 o2 x U;have a0:=dA (uD z.2.2.2.1 dT l);have aC:=a0.2;go_wp2_with fail;refine(vT low D H S v2 (eO j dT l) (dL i) dT E (N.hands HH y a3 HD) y O (mI z.2.2.2.2) oG (Nat.le_trans C N.size) (λf hf=>by have:=a0.1 f hf;omega)).mono ?_;clear K a5 aa ac;rintro r E ⟨u,B⟩;have x:=dA (eC.then Q R B);clear B;by_cases h2:dL i=0
    ·rw[show decide (dL i≠0)=false by simp[h2]]at u;subst u;have W:Hid ((gD fs left (ms.flatMap eT))=(false,(eO j dT l),dL (dL i))):=by unfold Hid gD;rw[z.1,HL.out];simp[fY,a1.out,h2]
     have X:Hid (eC 98 107 low w S A ((eO j dT l)) (dL (dL i)) E):=by have:=x.out;rw[if_pos h2]at this;exact this
     clear x;go_wp2;go_ret;rw[W.out];exact⟨rfl,X⟩
    rw[show decide (dL i≠0)=true by simp[h2]]at u;subst u;have V:Hid (eC 98 107 low w S A (fM (eO j dT l) dT) (dL (dL i)) E):=by have:=x.out;rw[if_neg h2]at this;exact this
    have a8:=dA h2;obtain⟨v3,d3,k3,o3⟩:=V.out;have a4:=dA d3;have ad:=dA k3;have ae:=dA o3;clear d3 k3 o3 x h2;have ay:=dA (sN a0.1 dT);have aN:=ay.2;go_wp2_with fail;refine(zJ low D H S v3 (fM (eO j dT l) dT) (dL (dL i)) dT eS E (V.hands HH y a3 HD) y a4 (mI (mI z.2.2.2.2)) oG (Nat.le_trans C V.size)).mono ?_;clear N O Q R;rintro r E ⟨u,B⟩;have x:=dA (eC.then ad ae B);clear B;by_cases h3:dL (dL i)=0
    ·rw[show decide (dL (dL i)≠0)=false by simp[h3]]at u;subst u;have W:Hid ((gD fs left (ms.flatMap eT))=(false,(fM (eO j dT l) dT),dL (dL (dL i)))):=by unfold Hid gD;rw[z.1,HL.out];simp[fY,a1.out,a8.out,h3]
     have X:Hid (eC 98 107 low w S A ((fM (eO j dT l) dT)) (dL (dL (dL i))) E):=by have:=x.out;rw[if_pos h3]at this;exact this
     clear x;go_wp2;go_ret;rw[W.out];exact⟨rfl,X⟩
    rw[show decide (dL (dL i)≠0)=true by simp[h3]]at u;subst u;have W:Hid ((gD fs left (ms.flatMap eT))=(true,iU (fM (eO j dT l) dT) dT eS,dL (dL (dL i)))):=by unfold Hid gD;rw[z.1,HL.out];simp[fY,a1.out,a8.out,h3]
    have X:Hid (eC 98 107 low w S A (iU (fM (eO j dT l) dT) dT eS) (dL (dL (dL i))) E):=by have:=x.out;rw[if_neg h3]at this;exact this
    clear x;go_wp2;go_ret;rw[W.out];exact⟨rfl,X⟩
   ·have HI:=ah;obtain⟨j,i,z⟩:∃j i,Hid (iS fs left=(true,j,i)/\eC 98 107 low w S A j i wb/\j.length<=2000000000/\(∀f∈j,f.d.length<=L)/\(i_ i)):=⟨fs,left,by unfold iS;rw[←a7.out];rfl,ai,aI,av,aw⟩;clear ai a7 ah ab ak a2;go_wp2_with fail;refine(hBS w.heap.size w.heap.size l _ HI aK).mono ?_;rintro r wa ⟨rfl,g5,aB,a9,af,a6⟩;have K:=dA (z.2.1.other a9 af a6);clear a9 af a6 HI;obtain⟨v1,d1,k1,o1⟩:=K.out;have aW:=z.2.2.1;have a5:=dA d1;have aa:=dA k1;have ac:=dA o1;clear d1 k1 o1;go_wp2_with fail;refine(vH low D H S v1 j i dT l wa (K.hands HH y a3 HD) y a5 z.2.2.2.2 oG (Nat.le_trans C K.size) (λf hf=>by have:=z.2.2.2.1 f hf;omega) oG).mono ?_;rintro r E ⟨u,B⟩;have x:=dA (eC.then aa ac B);clear B;by_cases U:i=0
    ·rw[show decide (i≠0)=false by simp[U]]at u;subst u;have W:Hid ((gD fs left (ms.flatMap eT))=(false,j,dL (i))):=by unfold Hid gD;rw[z.1,HL.out];simp[fY,U]
     have X:Hid (eC 98 107 low w S A j (dL (i)) E):=by have:=x.out;rw[if_pos U]at this;exact this
     clear x;go_wp2;go_ret;rw[W.out];exact⟨rfl,X⟩
    rw[show decide (i≠0)=true by simp[U]]at u;subst u;have N:Hid (eC 98 107 low w S A (eO j dT l) (dL (i)) E):=by have:=x.out;rw[if_neg U]at this;exact this
    have a1:=dA U;obtain⟨v2,d2,k2,o2⟩:=N.out;have O:=dA d2;have Q:=dA k2;have R:=dA o2;clear d2 k2 o2 x U;have a0:=dA (uD z.2.2.2.1 dT l);have aC:=a0.2;go_wp2_with fail;refine(vT low D H S v2 (eO j dT l) (dL i) dT E (N.hands HH y a3 HD) y O (mI z.2.2.2.2) oG (Nat.le_trans C N.size) (λf hf=>by have:=a0.1 f hf;omega)).mono ?_;clear K a5 aa ac;rintro r E ⟨u,B⟩;have x:=dA (eC.then Q R B);clear B;by_cases h2:dL i=0
    ·rw[show decide (dL i≠0)=false by simp[h2]]at u;subst u;have W:Hid ((gD fs left (ms.flatMap eT))=(false,(eO j dT l),dL (dL i))):=by unfold Hid gD;rw[z.1,HL.out];simp[fY,a1.out,h2]
     have X:Hid (eC 98 107 low w S A ((eO j dT l)) (dL (dL i)) E):=by have:=x.out;rw[if_pos h2]at this;exact this
     clear x;go_wp2;go_ret;rw[W.out];exact⟨rfl,X⟩
    rw[show decide (dL i≠0)=true by simp[h2]]at u;subst u;have V:Hid (eC 98 107 low w S A (fM (eO j dT l) dT) (dL (dL i)) E):=by have:=x.out;rw[if_neg h2]at this;exact this
    have a8:=dA h2;obtain⟨v3,d3,k3,o3⟩:=V.out;have a4:=dA d3;have ad:=dA k3;have ae:=dA o3;clear d3 k3 o3 x h2;have ay:=dA (sN a0.1 dT);have aN:=ay.2;go_wp2_with fail;refine(zJ low D H S v3 (fM (eO j dT l) dT) (dL (dL i)) dT eS E (V.hands HH y a3 HD) y a4 (mI (mI z.2.2.2.2)) oG (Nat.le_trans C V.size)).mono ?_;clear N O Q R;rintro r E ⟨u,B⟩;have x:=dA (eC.then ad ae B);clear B;by_cases h3:dL (dL i)=0
    ·rw[show decide (dL (dL i)≠0)=false by simp[h3]]at u;subst u;have W:Hid ((gD fs left (ms.flatMap eT))=(false,(fM (eO j dT l) dT),dL (dL (dL i)))):=by unfold Hid gD;rw[z.1,HL.out];simp[fY,a1.out,a8.out,h3]
     have X:Hid (eC 98 107 low w S A ((fM (eO j dT l) dT)) (dL (dL (dL i))) E):=by have:=x.out;rw[if_pos h3]at this;exact this
     clear x;go_wp2;go_ret;rw[W.out];exact⟨rfl,X⟩
    rw[show decide (dL (dL i)≠0)=true by simp[h3]]at u;subst u;have W:Hid ((gD fs left (ms.flatMap eT))=(true,iU (fM (eO j dT l) dT) dT eS,dL (dL (dL i)))):=by unfold Hid gD;rw[z.1,HL.out];simp[fY,a1.out,a8.out,h3]
    have X:Hid (eC 98 107 low w S A (iU (fM (eO j dT l) dT) dT eS) (dL (dL (dL i))) E):=by have:=x.out;rw[if_neg h3]at this;exact this
    clear x;go_wp2;go_ret;rw[W.out];exact⟨rfl,X⟩
def EG{w:World}{low n:Nat}{vr:Value}{xs:List Value}(h:w.ownsRow low 66 3 vr n xs){g:Nat}(b:vr.ownBlock=Y g):∃a,w.heap[g]?=Y (.cells a 66 (0,0)):=by
 rcases h.2 with⟨rfl,_⟩|⟨g',c,a,rfl,_,d,_⟩;·simp[Value.ownBlock]at b
 ·have:g'=g:=by simpa[Value.ownBlock] using b
  subst this;exact⟨a,d⟩
def dW.butT{w w':World}{B:Nat}(h:dW w)(b:dI B w w')(a:2<=B):dW w':=h.below (b.below a) (Nat.le_refl 2)
def dW.qm{w:World}(h:dW w):dW w.drew:=⟨h.lu,h.lim,h.two⟩
def fB.butI{w w':World}{B:Nat}{a:Option Addr}{c:List Int}(h:fB w a c)(d:dI B w w')(k:∀e,a=Y e->e.block≠B):fB w' a c:=by
 rcases h with h|⟨g,off,b,f,l⟩;·exact .inl h
 ·exact .inr ⟨g,off,b,by rw[d.size];exact f,λj i=>(d.cell (p:=⟨g,off+j,Z⟩) (show g≠B from k _ b)).trans (l j i)⟩
def fB.qw{w:World}{a:Option Addr}{b:List Int}(h:fB w a b):fB w.drew a b:=h
def fQ.drewH{w:World}{D H S:Nat}(h:fQ w D H S):fQ w.drew D H S:=⟨h.d,h.h⟩
def DS.drewD{ty e:TypeId}{low:Nat}{w:World}{S:Nat}{v:Value}{fs:List FD}{left:Int}(h:DS ty e low w S v fs left):DS ty e low w.drew S v fs left:=⟨h.st,h.row.drew⟩
def zX(low St:Nat)(d:SD)(vr:Value)(Mp D:Nat)(w:World)(h:eE w low St d vr Mp D)(i:d.recs.length<=100000000)(k:d.dw.length<=100000000):Calls pG 255 #[P0 (Y ⟨St,0,Z⟩)] w λr w'=>r=.returned (I ((d.recs.length:Int)+2*(d.dw.length:Int)))/\∃n,w'=w.drewN n:=by
 obtain⟨m,cr,e⟩:=dZ h.rcs;subst e;obtain⟨es,c,a,b⟩:=h.jb.size;have l:=h.blk.cell 1;have g:=h.blk.cell 2;simp at l g;have f:∀ty n,(Builtin.len_ #[193] ty #[.map (Y Mp)]).run pG (w.drewN n)=.ok (I (d.dw.length:Int)) (w.drewN n):=by intro ty n;have j:(w.drewN n).heap[Mp]?=Y (.map es c):=((below_drewN b_ n).block Mp h.jb.lt).trans a;unfold Builtin.len_;simp only[List.getElem?_toArray,List.getElem?_cons_zero,Sem.run_bind,run_underlying underlying193,Result.andThen_ok,nW j,Sem.run_pure];rw[b];rfl
 clear h b a;go_enter func255,ntmps255;go_wp2_with fail;go_quiet (fail);go_wp2;go_ret;exact⟨rfl,_,rfl⟩
structure fV(w:World)(low D H S:Nat)(va:Value)(fs:List FD)(left:Int)(L:Nat):Prop where
 hands:fQ w D H S
 ds:DS 98 107 low w S va fs left
 dS:D≠S
 hS:H≠S
 lf:i_ left
 fl:fs.length<=L
 bd:∀f∈fs,f.d.length<=L
def fV.later{w w':World}{low D H S:Nat}{b:Value}{fs:List FD}{left:Int}{L:Nat}(h:fV w low D H S b fs left L)(a:Below w.heap.size w w'):fV w' low D H S b fs left L:=⟨h.hands.later (a.block D (Array.getElem?_eq_some_iff.1 h.hands.d).1) (a.block H (Array.getElem?_eq_some_iff.1 h.hands.h).1),h.ds.later a,h.dS,h.hS,h.lf,h.fl,h.bd⟩
def fV.but{w w':World}{low D H S:Nat}{c:Value}{fs:List FD}{left:Int}{L B:Nat}{cs:Array Value}{ty:TypeId}(h:fV w low D H S c fs left L)(p:dC w B cs ty)(o:ty≠100)(f:ty≠102)(j:ty≠98)(n:ty≠107)(k:dI B w w'):fV w' low D H S c fs left L:=by
 have e:∀(g:Nat) (a:Array Value) (t':TypeId),w.heap[g]?=Y (G a t' (0,0))->ty≠t'->w'.heap[g]?=w.heap[g]?:=by intro g a t' b l;refine k.block g (λi=>?_);subst i;have:=p.blk.symm.trans b;simp at this;exact l this.2
 exact⟨h.hands.later (e D _ _ h.hands.d o) (e H _ _ h.hands.h f),⟨(e S _ _ h.ds.st j).trans h.ds.st,dQ h.ds.row (λg b=>by obtain⟨a,m⟩:=h.ds.rowAt b;exact e g a 107 m n)⟩,h.dS,h.hS,h.lf,h.fl,h.bd⟩
def DS.apart{w w':World}{low S:Nat}{f:Value}{fs:List FD}{left:Int}(e:DS 98 107 low w S f fs left)(d:fU (λb=>b=S∨some b=f.ownBlock) w w')(g:Nat)(k:g<w.heap.size)(j:∀a,w.heap[g]?≠some (.cells a 98 (0,0)))(i:∀a,w.heap[g]?≠some (.cells a 107 (0,0))):w'.heap[g]?=w.heap[g]?:=by
 refine d.block g k (λc=>?_);rcases c with c|c;·subst c;exact j _ e.st
 ·obtain⟨a,h⟩:=e.rowAt c.symm;exact i a h
def eE.pz{w w':World}{low St:Nat}{d:SD}{vr:Value}{Mp D S:Nat}{l:Value}{fs:List FD}{left:Int}(h:eE w low St d vr Mp D)(j:DS 98 107 low w S l fs left)(f:fU (λb=>b=S∨some b=l.ownBlock) w w'):eE w' low St d vr Mp D:=by
 refine⟨h.blk.same (j.apart f St h.blk.lt (λa c=>?_) (λa c=>?_)),dQ h.rcs (λg i=>j.apart f g (h.rcs.lt g i).2 (λa c=>?_) (λa c=>?_)),h.jb.same (j.apart f Mp h.jb.lt (λa c=>?_) (λa c=>?_))⟩;·have:=h.blk.blk.symm.trans c;simp at this
 ·have:=h.blk.blk.symm.trans c;simp at this
 ·obtain⟨m,e⟩:=EG h.rcs i;have:=e.symm.trans c;simp at this
 ·obtain⟨m,e⟩:=EG h.rcs i;have:=e.symm.trans c;simp at this
 ·obtain⟨es,k,e,_⟩:=h.jb.obj;have:=e.symm.trans c;simp at this
 ·obtain⟨es,k,e,_⟩:=h.jb.obj;have:=e.symm.trans c;simp at this
def dC.pz{w w':World}{low B S:Nat}{cs:Array Value}{ty:TypeId}{e:Value}{fs:List FD}{left:Int}(h:dC w B cs ty)(i:ty≠98)(f:ty≠107)(g:DS 98 107 low w S e fs left)(d:fU (λb=>b=S∨some b=e.ownBlock) w w'):dC w' B cs ty:=by
 refine h.same (g.apart d B h.lt (λa c=>?_) (λa c=>?_));·have:=h.blk.symm.trans c;simp at this;exact i this.2
 ·have:=h.blk.symm.trans c;simp at this;exact f this.2
def CN(k f e b wa p s q bl v:Int)(a:List Int):(lF k f e b wa p s q bl v a).length<=301:=by
 unfold lF pD;split
 ·next hm=>
  obtain⟨g,d,_,_,c⟩:=qT hm;have:=AJ k.toNat f.toNat [0,e,b,wa,p,s,q,bl,v,(a.length:Int)] a oG c;simp;omega
 ·simp
def IG(low St:Nat)(d:SD)(vr:Value)(Mp D H S:Nat)(V:Value)(fs:List FD)(left:Int)(L:Nat)(k f e b wa p s q bl v:Int)(a:Option Addr)(o:List Int)(c:Nat)(w:World)(h:eE w low St d vr Mp D)(hk:fV w low D H S V fs left L)(ht:dW w)(hz:fB w a o)(af:2<=w.heap.size)(aq:low<=w.heap.size)(hL:L<=1200000000)(ax:d.recs.length<=1300000)(az:d.dw.length<=1300000)(aw:0<=d.lines/\d.lines<=100000000)(a0:2<=St)(ap:∀ad,a=Y ad->ad.block≠St)(ah:d.wh=true)(z:d.lines<64+2*((d.recs.length:Int)+2*(d.dw.length:Int))):Calls pG 236 #[P0 (Y ⟨St,0,Z⟩),.agg (mA k f e b wa p s q bl v (J a o.length c))] w λr w'=>r=.returned (.bool (decide (left≠0/\left≠1)))/\∃a6,eE w' low St {d with lines:=d.lines+1} vr Mp D/\fV w' low D H S a6 (pE fs left (lF k f e b wa p s q bl v o)) (dL (dL left)) (L+301)/\(∀g,a6.ownBlock=Y g->V.ownBlock=Y g∨w.heap.size<=g)/\dM (λg=>g=St∨g=S∨V.ownBlock=Y g) w w':=by
 have av:decide (d.lines<64+2*((d.recs.length:Int)+2*(d.dw.length:Int)))=true:=by simpa using z
 have t:=a_ w (G (mA k f e b wa p s q bl v (J a o.length c)) 136);have HM:=dA (dC.new w (mA k f e b wa p s q bl v (J a o.length c)) 136);have HB:=dA t;have HT:=dA (ht.below t af);have HZ:=dA (hz.later t);have C:=dA (h.later t);have HK:=dA (hk.later t);have ar:=h.blk.lt;clear ht hz t h hk;go_enter func236,ntmps236;go_upto_region 1 with fail;generalize (w.alloc (G (mA k f e b wa p s q bl v (J a o.length c)) 136))=N at*;have B:=C.blk.cell 9;have x:=C.blk.cell 10;have c11:=C.blk.cell 11;simp at B x c11;rw[ah]at c11;have F:=C.blk.lt;have a4:=HB.size;go_quiet ((go_at_call 255;exact Calls.quiet_of (zX low St d vr Mp D _ (C.later (below_drewN b_ _)) oG oG)));have n:Below N.heap.size N (N.drewN nq):=below_drewN b_ _;have ab:=dA (HM.later n);have y:Hid (Below w.heap.size w (N.drewN nq)):=HB.trans (n.mono a4);have a1:Hid (dW (N.drewN nq)):=HT.below n oG;have a9:=dA (HZ.later n);have j:=dA (C.later n);have R:=dA (HK.later n);generalize N.drewN nq=W1 at*;clear n B x c11 HM HB HT HZ C HK F a4;have B:=j.blk.cell 9;have x:=j.blk.cell 10;have c11:=j.blk.cell 11;simp at B x c11;have W:=j.blk.free 10;have F:=j.blk.lt;have U:=y.size;have ac:Hid (dC (W1.setCell ⟨St,10,Z⟩ (I (d.lines+1))) St #[I d.id,vr,Value.map (Y Mp),I d.b0,I d.b1,I d.b2,I d.b3,I d.seen,I d.last,P0 (Y ⟨D,0,Z⟩),I (d.lines+1),bool d.wh] 200):=by have E:=j.blk.set 10 (I (d.lines+1));unfold Hid;simpa using E
 have l:Hid (dI St W1 (W1.setCell ⟨St,10,Z⟩ (I (d.lines+1)))):=dI.setCell W1 ⟨St,10,Z⟩ _;have a5:Hid (eE (W1.setCell ⟨St,10,Z⟩ (I (d.lines+1))) low St {d with lines:=d.lines+1} vr Mp D):=⟨ac,dQ j.rcs (λg hg=>l.block g (λhh=>jM j.rcs j.blk.blk dG (by rw[←hh];exact hg))),j.jb.same (l.block Mp (j.jb.ne j.blk))⟩;have i:=dA (R.but j.blk dG dG dG dG l);have a3:Hid (dC (W1.setCell ⟨St,10,Z⟩ (I (d.lines+1))) w.heap.size (mA k f e b wa p s q bl v (J a o.length c)) 136):=ab.setO oG _ _;have aj:=dA (a1.butT l a0);have am:=dA (a9.butI l ap);have aa:(W1.setCell ⟨St,10,Z⟩ (I (d.lines+1))).heap.size=W1.heap.size:=BF _ _ _ _;go_upto_region 3 with fail;generalize (W1.setCell ⟨St,10,Z⟩ (I (d.lines+1)))=W2 at*;clear B x c11 ab a1 a9 j R ac W F;have B:=a5.blk.cell 9;simp at B;obtain⟨m0,m1,m2,m3,m4,m5,m6,m7,m8,m9,an⟩:=a3.c11;have a8:2<=W2.heap.size:=oG;have X:low<=W2.heap.size:=oG;refine wp_region_held_drew (S:=(λw'=>w'.cell? ⟨St,9,Z⟩=Y (P0 (Y ⟨D,0,Z⟩))/\w'.cell? ⟨w.heap.size,0,Z⟩=Y (I k)/\w'.cell? ⟨w.heap.size,1,Z⟩=Y (I f)/\w'.cell? ⟨w.heap.size,2,Z⟩=Y (I e)/\w'.cell? ⟨w.heap.size,3,Z⟩=Y (I b)/\w'.cell? ⟨w.heap.size,4,Z⟩=Y (I wa)/\w'.cell? ⟨w.heap.size,5,Z⟩=Y (I p)/\w'.cell? ⟨w.heap.size,6,Z⟩=Y (I s)/\w'.cell? ⟨w.heap.size,7,Z⟩=Y (I q)/\w'.cell? ⟨w.heap.size,8,Z⟩=Y (I bl)/\w'.cell? ⟨w.heap.size,9,Z⟩=Y (I v)/\w'.cell? ⟨w.heap.size,10,Z⟩=Y (J a o.length c))) kG ⟨B,m0,m1,m2,m3,m4,m5,m6,m7,m8,m9,an⟩ (λ_=>?_);refine tk 0 ?_;refine tk 1 ?_;refine tk 2 ?_;refine tk 3 ?_;refine tk 4 ?_;refine dF 5 λK hK=>?_;(try go_simp);go_at_call 256;refine(IE low D H S V fs left L k f e b wa p s q bl v a o c W2.drew aj.qm (by exact a8) am.qw i.hands.drewH i.dS i.hS i.ds.drewD i.lf (by exact X) (Nat.le_trans i.fl oG) i.bd oG).mono ?_;rintro r w4 ⟨rfl,ak,a2,u,a7⟩;have m:Hid (fU (λb=>b=S∨some b=V.ownBlock) W2 w4):=⟨u.os,u.tape,u.output,u.size,u.block⟩;have ag:=dA (a3.pz dG dG i.ds m);have O:=dA (a5.pz i.ds m);have ai:=dA a2;have ao:=dA a7;have al:=dA (i.hands.did i.dS i.hS i.ds m);clear a2 u a7;obtain⟨z0,z1,z2,z3,z4,z5,z6,z7,z8,z9,Q⟩:=ag.c11;have y9:=O.blk.cell 9;simp at y9;refine k1 hK (λ_=>?_) ⟨y9,z0,z1,z2,z3,z4,z5,z6,z7,z8,z9,Q⟩;clear hK K;refine dF 6 λK hK=>?_;(try go_simp);refine k1 hK (λ_=>?_) ⟨y9,z0,z1,z2,z3,z4,z5,z6,z7,z8,z9,Q⟩;clear hK K;refine dn ?_;go_wp2;go_ret;have hx:(∀M∈pE fs left (lF k f e b wa p s q bl v o),M.d.length<=L+301)/\(pE fs left (lF k f e b wa p s q bl v o)).length<=L+301:=by
  have ay:=CN k f e b wa p s q bl v o;have hA:=uD i.bd eS (lF k f e b wa p s q bl v o);have ae:=sN hA.1 eS;have au:=i.fl;unfold pE;split;·exact⟨λM E=>by have:=i.bd M E;omega,oG⟩
  ·split;·exact⟨λM E=>by have:=hA.1 M E;omega,oG⟩
   ·exact⟨λM E=>by have:=ae.1 M E;omega,oG⟩
 refine⟨by show Ending.returned (Value.bool (!decide (left=0)&&!decide (left=1)))=_;simp,ak,O,⟨al,ai,i.dS,i.hS,mI (mI i.lf),hx.2,hx.1⟩,λg hg=>?_,?_⟩
 ·rcases ao.out g hg with A|A;·exact .inl A
  ·exact .inr (Nat.le_trans U (by rw[←aa];exact A))
 ·refine⟨m.os.trans (l.os.trans y.os),m.tape.trans (l.tape.trans y.tape),m.output.trans (l.output.trans y.output),Nat.le_trans U (Nat.le_trans oG m.size),λg hg hA=>?_⟩;exact(m.block g oG (λhh=>hA (hh.elim (λA=>.inr (.inl A)) (λA=>.inr (.inr A.symm))))).trans ((l.block g (λA=>hA (.inl A))).trans (y.block g hg))
end Go.Proofs.YtdcainmlcpafbaaGreatDoor
