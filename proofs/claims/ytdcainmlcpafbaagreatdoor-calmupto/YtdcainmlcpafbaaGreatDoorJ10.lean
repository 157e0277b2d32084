import Derived.Test.YtdcainmlcpafbaaGreatDoorJ08
import Derived.Test.YtdcainmlcpafbaaGreatDoorJ09
set_option linter.all false
set_option maxHeartbeats 8000000
set_option maxRecDepth 20000
namespace Go.Proofs.YtdcainmlcpafbaaGreatDoor
open Go.RowKit
open Value renaming slice->J,pointer->P0
open Tryz
open Tryz renaming prog->pG
open IntKind renaming i64->T
open Option renaming none->Z,some->Y
open Obj renaming cells->G
open Value (bool)
def pR(k f e b wa p s q bl v:Int)(zs:List Int):List UInt8:=if fP k f [0,e,b,wa,p,s,q,bl,v,(zs.length:Int)]=true then kE k.toNat f.toNat [0,e,b,wa,p,s,q,bl,v,(zs.length:Int)] zs else[]
def lO(k f e b wa p s q bl v:Int)(zs:List Int):List UInt8:=UInt8.ofNat (pR k f e b wa p s q bl v zs).length::pR k f e b wa p s q bl v zs
def PJ(k f e b wa p s q bl v:Int)(a:Option Addr)(d:List Int)(c:Nat)(w:World)(h:dY w)(m:fK w a d):Calls pG 157 #[.agg (mA k f e b wa p s q bl v (J a d.length c))] w λr w'=>∃x j,r=.returned (.tuple #[x,I j])/\gJ w' w.1.size x (pR k f e b wa p s q bl v d)/\(pR k f e b wa p s q bl v d).length<=300/\Bw w w':=by
 unfold pR;cases hm:fP k f [0,e,b,wa,p,s,q,bl,v,(d.length:Int)] with
 |true=>refine(wL k f e b wa p s q bl v a d c w h m hm).mono ?_;rintro r w' ⟨x,rfl,i,g⟩;obtain⟨o,n,_,_,l⟩:=rD hm;exact⟨x,0,rfl,i,BO _ _ _ _ oG l,g⟩
 |false=>refine(wN k f e b wa p s q bl v a d.length c w h hm).mono ?_;rintro r w' ⟨rfl,g⟩;exact⟨_,1,rfl,World.ownsRow_nil _ _ _ _,sG,g⟩
def DR(k f e b wa p s q bl v:Int)(a:Option Addr)(d:List Int)(c:Nat)(w:World)(O:dY w)(z:2<=w.1.size)(R:fK w a d):Calls pG 259 #[.agg (mA k f e b wa p s q bl v (J a d.length c))] w λr w'=>r=.returned (.string (dL (lO k f e b wa p s q bl v d)))/\(lO k f e b wa p s q bl v d).length<=301/\Bw w w':=by
 obtain⟨i0,M,y,A,C⟩:=info_parts PC;unfold lO;generalize S:pR k f e b wa p s q bl v d=bs;have HE:=dF S;clear S;have h:=(Below.refl w.1.size w).alloc r_ (G (mA k f e b wa p s q bl v (J a d.length c)) 136);have HM:=dF (dI.new w (mA k f e b wa p s q bl v (J a d.length c)) 136);have Q:=dF h;have HT:=dF (O.below h z);have K:=dF (R.later h);clear O R h;go_enter func259,ntmps259;go_upto_region 1 with fail;generalize (w.alloc (G (mA k f e b wa p s q bl v (J a d.length c)) 136))=N at*;have a0:=HM.cell;go_wp2_with fail;refine(PJ k f e b wa p s q bl v a d c N HT K).mono ?_;rintro r w1 ⟨x,ec,rfl,i,H,j⟩;rw[HE.out]at i H;obtain⟨X,xc,rfl⟩:=eK i;have E:=dF i;have o:Hid (Bw w w1):=Q.trans (j.mono Q.size);have U:N.1.size<=w1.1.size:=j.size;clear j i;go_wp2_with(at_builtin;go_loud (refine wD rfl _ _ 148 rfl w1.1.size 5 i0 (.int .u8 0) 1 1 underlying148 M y A C rfl dG (J (Y ⟨w1.1.size,0,Z⟩) 1 1) 1 _ rfl (World.ownsRow_lit w1 _ 1 r_ xG rfl) (J X bs.length xc) bs.length (iD bs) rfl ((fM.ig E).later ((Below.refl w1.1.size w1).alloc r_ _)) ?cl ?c1 ?c2 ?c3 ?c4 ?_));case cl=>simp[iD]
 case c1=>intro u V;simp[iD]at V;obtain⟨x,_,rfl⟩:=V;rfl
 case c2=>unfold maxLen;omega
 case c3=>omega
 case c4=>simp
 intro v' w2 l n;have t:(bs.length:Int)%256=((UInt8.ofNat bs.length).toNat:Int):=by rw[UInt8.toNat_ofNat'];omega
 obtain⟨va,vc,rfl⟩:=eK l;have B:Hid (gJ w2 w1.1.size (J va (1+bs.length) vc) (UInt8.ofNat bs.length::bs)):=by unfold Hid gJ;rw[List.length_cons,Nat.add_comm bs.length 1];have W:=l;rw[t]at W;simpa[iD] using W
 have L:=o.size;have F:Hid (Bw w w2):=(Below.alloc o L _).grown n nG (λg hg=>by simp[Value.ownBlock]at hg;omega);have a1:=t7 B.je;have D:(UInt8.ofNat bs.length::bs).length<=301:=nG;generalize m:UInt8.ofNat bs.length::bs=bz at*;have K:=dF m;clear l n t m;go_wp2;go_ret;show _/\(UInt8.ofNat bs.length::bs).length<=301/\_;rw[K.out];exact⟨rfl,D,F⟩
def pS(fs:List FD)(left:Int)(dt:List UInt8):List FD:=if left=0 then fs else if left=1 then fJ fs eY dt else gK (fJ fs eY dt) eY
def pH{l:Int}(h:i_ l):-9223372036854775808<=eA l/\eA l<=9223372036854775807:=by unfold eA;split<;>omega
def fW.did{low:Nat}{w w':World}{D H S:Nat}{v:Value}{fs:List FD}{l:Int}(c:fW w D H S)(g:D≠S)(j:H≠S)(m:DS 98 107 low w S v fs l)(h:gA (λb=>b=S∨some b=v.ownBlock) w w'):fW w' D H S:=by
 have i:some D≠v.ownBlock:=by intro a;obtain⟨f,e⟩:=m.rowAt a.symm;rw[c.d]at e;simp at e
 have k:some H≠v.ownBlock:=by intro a;obtain⟨f,e⟩:=m.rowAt a.symm;rw[c.h]at e;simp at e
 exact c.later (h.block D (Array.getElem?_eq_some_iff.1 c.d).1 (λa=>a.elim g i)) (h.block H (Array.getElem?_eq_some_iff.1 c.h).1 (λa=>a.elim j k))
def eL.fore{low S:Nat}{w w1 w2:World}{v:Value}{fs:List FD}{l:Int}(a:Bw w w1)(h:eL 98 107 low w1 S v fs l w2):eL 98 107 low w S v fs l w2:=by obtain⟨e,j,b,d⟩:=h;exact⟨e,j,⟨b.os.trans a.os,b.tape.trans a.tape,b.output.trans a.output,Nat.le_trans a.size b.size,λk c m=>(b.block k (Nat.lt_of_lt_of_le c a.size) m).trans (a.block k c)⟩,λg f=>(d g f).imp id (λi=>Nat.le_trans a.size i)⟩
def JL(low D H S:Nat)(va:Value)(fs:List FD)(left:Int)(L:Nat)(k f e b wa p s q bl v:Int)(a:Option Addr)(n:List Int)(c:Nat)(w:World)(ht:dY w)(a0:2<=w.1.size)(hz:fK w a n)(W:fW w D H S)(t:D≠S)(a5:H≠S)(hd:DS 98 107 low w S va fs left)(K:i_ left)(m:low<=w.1.size)(ab:fs.length<=40000000000)(N:∀f∈fs,f.d.length<=L)(hL:L<=40000000000):Calls pG 256 #[P0 (Y ⟨D,0,Z⟩),.agg (mA k f e b wa p s q bl v (J a n.length c))] w λr w'=>r=.returned (.bool (decide (left≠0/\left≠1)))/\eL 98 107 low w S va (pS fs left (lO k f e b wa p s q bl v n)) (eA (eA left)) w':=by
 generalize hE:lO k f e b wa p s q bl v n=dt;have HE:=dF hE;clear hE;have HM:=dF (dI.new w (mA k f e b wa p s q bl v (J a n.length c)) 136);have l:=(Below.refl w.1.size w).alloc r_ (G (mA k f e b wa p s q bl v (J a n.length c)) 136);have HB:=dF l;have HT:=dF (ht.below l a0);have HZ:=dF (hz.later l);have C:=dF N;have a1:=dF hd;have a9:=dF W;have a7:D<w.1.size:=(Array.getElem?_eq_some_iff.1 W.d).1;have a2:H<w.1.size:=(Array.getElem?_eq_some_iff.1 W.h).1;clear ht hz l N hd W;have hc:left=0∨left=1∨(left≠0/\left≠1):=oG;have HC:=dF hc;have a8:(decide (left≠0)=false)∨(decide (left≠0)=true/\decide (eA left≠0)=false)∨(decide (left≠0)=true/\decide (eA left≠0)=true):=by
  unfold eA;rcases hc with i|i|i;·subst i;exact .inl rfl
  ·subst i;exact .inr (.inl ⟨rfl,rfl⟩)
  ·refine .inr (.inr ⟨by simpa using i.1,?_⟩);split;·simp;omega
   ·simpa using i.1
 have F:=dF K;clear hc K;rcases a8 with y|⟨y,h2⟩|⟨y,h2⟩;all_goals
  go_enter func256,ntmps256
  go_upto_region 1 with fail
  generalize (w.alloc (G (mA k f e b wa p s q bl v (J a n.length c)) 136))=W0 at*
  have aa:=HM.cell
  have a6:=HB.size
  go_wp2_with fail
  refine(DR k f e b wa p s q bl v a n c W0 HT oG HZ).mono ?_
  rintro r w1 ⟨rfl,X,R⟩
  rw[HE.out]at X⊢
  have g:Hid (Bw w w1):=HB.trans (R.mono a6)
  have U:=dF (a1.later g)
  have M:Hid (fW w1 D H S):=a9.later (g.block D a7) (g.block H a2)
  clear R
  go_wp2_with fail
  refine(AJ low D H S va fs left eY dt w1 M t U F oG (Nat.le_trans m g.size) (λf hf=>by have:=C.out f hf;omega) oG).mono ?_
  rintro r w2 ⟨Q,z,A,x,V⟩
  rw[y]at Q
  subst Q
  have a4:=dF (M.did t a5 U x)
  have B:=dF A
  have u:=dF x
  have O:=dF V
  have o:=dF (xO C eY dt)
  clear A x V
  first
  | have i:=h2
    go_wp2_with fail
    refine(BN low D H S z (fJ fs eY dt) (eA left) eY w2 a4 t (by have j:=B.out;rw[if_neg (by simpa using y)]at j;exact j) (pH F) (by have:=o.2;omega) (Nat.le_trans m (Nat.le_trans g.size u.size)) (λf hf=>by have:=o.1 f hf;omega)).mono ?_
    rintro r w3 ⟨Q,E⟩
    rw[h2]at Q
    subst Q
    have a3:=dF (eL.fore g (eL.then u O E))
    clear E
    go_wp2
    go_ret
    have hD:=a3.out
    rcases HC.out with j|j|j
    · rw[j]at y;simp at y
    · subst j
      first
      |exact⟨rfl,hD⟩
      |exact absurd i dG
    · have h7:eA left≠0:=by unfold eA;split<;>omega
      first
      | rw[decide_eq_false_iff_not]at i
        exact absurd h7 i
      | refine⟨by simp[j,i],?_⟩
        unfold pS
        rw[if_neg j.1,if_neg j.2]
        rw[if_neg h7]at hD
        exact hD
  | go_wp2
    go_ret
    obtain rfl:left=0:=by simpa using y
    exact⟨rfl,eL.fore g ⟨z,B,u,O⟩⟩
def G8(low D H S:Nat)(v:Value)(fs:List FD)(e:List UInt8)(w:World)(c:fW w D H S)(h:DS 98 107 low w S v fs 0):Calls pG 38 #[.pointer (some ⟨D,0,none⟩),.string (dL e)] w λr w'=>r=.returned (.bool false)/\eL 98 107 low w S v fs (eA 0) w':=by have cd:=c.cd;clear c;go_enter func38,ntmps38;go_wp2_with fail;refine(oY low S v fs 0 w h oG).mono ?_;rintro r w1 ⟨rfl,b⟩;obtain⟨d,a,f⟩:=pA h dG w1 b;clear b;rw[show decide ((0:Int)≠0)=false from rfl];have g:Hid _:=eL.same d a;clear d a h;go_wp2;go_ret;exact⟨rfl,g⟩
set_option maxHeartbeats 4000000 in
set_option maxRecDepth 20000 in
def JM(low D H S:Nat)(v:Value)(fs:List FD)(left:Int)(j:List UInt8)(w:World)(s:fW w D H S)(t:D≠S)(h:DS 98 107 low w S v fs left)(N:left≠0)(u:i_ left)(U:fs.length<=60000000000)(E:low<=w.1.size):Calls pG 38 #[.pointer (some ⟨D,0,none⟩),.string (dL j)] w λr w'=>r=.returned (.bool true)/\eL 98 107 low w S v (eC fs j) (eA left) w':=by
 have cd:=s.cd;have m:D<w.1.size:=(Array.getElem?_eq_some_iff.1 s.d).1;have y:=s.d;clear s;go_enter func38,ntmps38;go_wp2_with fail;refine(oY low S v fs left w h u).mono ?_;rintro r w1 ⟨rfl,q⟩;obtain⟨n,i,R⟩:=pA h dG w1 q;clear q;rw[show decide (left≠0)=true by simpa using N];have C:w1.cell? ⟨D,0,none⟩=some (.pointer (some ⟨S,0,none⟩)):=(World.cell?_of_block (w:=w) (a:=⟨D,0,none⟩) (i.block D m t)).trans cd;have p:=n.cell 0;have A:=n.free 0;simp at p;have L:Hid (DS 98 107 low w1 S v fs (eA left)):=n;have W:Hid (gA (λb=>b=S) w w1):=i;have o:=n.lt;have z:D<w1.1.size:=oG;clear h n i cd y;go_wp2_with fail;go_region_held3 (λw'=>w'.cell? ⟨D,0,none⟩=some (.pointer (some ⟨S,0,none⟩))) (first|assumption|(rw[World.cell?_setCell_other _ _ _ _ (by intro B;have X:=congrArg Addr.block B;simp at X;omega)];assumption)|go_keep) (first|(go_at_call 80;refine(t6 low S v fs (eA left) j w1.drew L.drew U).mono ?_;rintro r w2 ⟨v2,rfl,f,c⟩;obtain⟨M,K,rfl,_⟩:=lT f;have kd:w2.cell? ⟨D,0,none⟩=some (.pointer (some ⟨S,0,none⟩)):=(c.cell (by exact z)).trans C;have ks:w2.cell? ⟨S,0,none⟩=some v:=(c.cell (by exact o)).trans p;have kf:w2.frozen? ⟨S,0,none⟩=false:=(c.frozen (by exact o)).trans A));all_goals
  have F:DS 98 107 low w2 S v fs (eA left):=L.drew.later c
  have e:∀g,Value.ownBlock (.slice M (eC fs j).length K)=some g->w1.1.size<=g:=λg x=>(World.ownsRow.lt f g x).1
  have V:=c.size
  have l:gA (λb=>b=S∨some b=v.ownBlock) w1 w2:=⟨c.os,c.tape,c.output,c.size,λk Q _=>c.block k Q⟩
  have O:Hid (eL 98 107 low w S v (eC fs j) (eA left) (w2.setCell ⟨S,0,none⟩ (.slice M (eC fs j).length K))):=eL.pre W ⟨_,DS.store (low:=low) (low':=w1.1.size) F.st f oG (λB=>by have:=e S B;omega),l.trans (gA.set w2 S 0 _) (λb _ u=>.inl u),λg x=>.inr (e g x)⟩
  clear F f c e l
 all_goals go_wp2
 all_goals go_ret
 all_goals exact⟨rfl,O⟩
def IP(low D H S:Nat)(v:Value)(fs:List FD)(left:Int)(b:List UInt8)(w:World)(f:fW w D H S)(e:D≠S)(h:DS 98 107 low w S v fs left)(i:i_ left)(g:fs.length<=60000000000)(a:low<=w.1.size):Calls pG 38 #[.pointer (some ⟨D,0,none⟩),.string (dL b)] w λr w'=>r=.returned (.bool (decide (left≠0)))/\eL 98 107 low w S v (if left=0 then fs else eC fs b) (eA left) w':=by
 by_cases c:left=0;·subst c;refine(G8 low D H S v fs b w f h).mono ?_;rintro r w' ⟨rfl,d⟩;exact⟨rfl,d⟩
 ·refine(JM low D H S v fs left b w f e h c i g a).mono ?_;rintro r w' ⟨rfl,d⟩;refine⟨?_,?_⟩;·rw[show decide (left≠0)=true by simpa using c]
  ·rw[if_neg c];exact d
def gN(f:List FD->List FD)(st:Bool×List FD×Int):Bool×List FD×Int:=if st.1=true then(decide (st.2.2≠0),if st.2.2=0 then st.2.1 else f st.2.1,eA st.2.2) else st
def iW(fs:List FD)(left:Int):Bool×List FD×Int:=if(dX fs eJ).isSome=true then gN (λz=>eC z eJ) (true,fs,left) else(true,fs,left)
def iE(fs:List FD)(left:Int)(l:List UInt8):Bool×List FD×Int:=gN (λz=>jF z eJ eY) (gN (λz=>gK z eJ) (gN (λz=>fJ z eJ l) (iW fs left)))
def fE(m:dN):List UInt8:=lO m.k m.f m.e m.b m.wa m.p m.s m.q m.bl m.v m.zs
def tH{fs:List FD}{L:Nat}(h:∀f∈fs,f.d.length<=L)(a:List UInt8):(∀f∈eC fs a,f.d.length<=L)/\(eC fs a).length<=fs.length:=⟨λf b=>h f (List.mem_filter.1 b).1,List.length_filter_le _ _⟩
def IsB.kept{B b:Nat}{a:List Value}{w w':World}{A:Nat->Prop}(h:Lib.IsBuilder 352 5 B b a w)(i:gA A w w')(j:∀g,A g->g<B)(m:B<=b):Lib.IsBuilder 352 5 B b a w':=by
 have one:∀p,Lib.BuilderAt 352 5 B b p a w->Lib.BuilderAt 352 5 B b p a w':=by rintro p ⟨l,v,e,d,k⟩;exact⟨l,v,(i.block b (Array.getElem?_eq_some_iff.1 e).1 (λc=>by have:=j b c;omega)).trans e,dW d (λg f=>i.block g (d.lt g f).2 (λc=>by have:=j g c;have:=(d.lt g f).1;omega)),k⟩
 exact h.imp (one _) (one _)
def fI:Prop:=∀(B b:Nat) (l:List UInt8) (w:World),Lib.IsBuilder 352 5 B b (iD l) w->l≠[]->Calls pG 265 #[P0 (Y ⟨b,0,Z⟩)] w λe w'=>e=.returned (.string (dL l))/\∃g cur,B<=g/\w.1[g]?=Y (.cells cur 5 (0,0))/\dM g w w'
def eL.other{low S:Nat}{w w1 w2:World}{v:Value}{fs:List FD}{l:Int}(h:eL 98 107 low w S v fs l w1){g:Nat}{b:Array Value}(m:w.1.size<=g)(f:w1.1[g]?=Y (.cells b 5 (0,0)))(a:dM g w1 w2):eL 98 107 low w S v fs l w2:=by
 obtain⟨v1,d,k,o⟩:=h;refine⟨v1,⟨(a.block S (λc=>?_)).trans d.st,dW d.row (λx e=>a.block x (λc=>?_))⟩,⟨a.os.trans k.os,a.tape.trans k.tape,a.output.trans k.output,by rw[a.size];exact k.size,λx e j=>(a.block x oG).trans (k.block x e j)⟩,o⟩;·subst c;have:=f.symm.trans d.st;simp at this
 ·subst c;obtain⟨n,i⟩:=d.rowAt e;rw[f]at i;simp at i
def eL.hands{low D H S:Nat}{w w1:World}{v:Value}{fs a:List FD}{l g:Int}(h:eL 98 107 low w S v a g w1)(f:fW w D H S)(b:D≠S)(c:H≠S)(e:DS 98 107 low w S v fs l):fW w1 D H S:=by obtain⟨v1,d,k,o⟩:=h;exact f.did b c e k
def eL.size{low S:Nat}{w w1:World}{v:Value}{fs:List FD}{l:Int}(h:eL 98 107 low w S v fs l w1):w.1.size<=w1.1.size:=by obtain⟨v1,d,k,o⟩:=h;exact k.size
def IQ(hBW:fH)(hBS:fI)(low D H S:Nat)(y:Value)(fs:List FD)(left:Int)(L:Nat)(ms:List dN)(ao:Option Addr)(c:Nat)(w:World)(ht:dY w)(aK:2<=w.1.size)(a6:fM w (J ao ms.length c) ms.length (ms.flatMap dN.cells))(aH:∀m∈ms,fK w m.a m.zs)(ba:ms.length<=80000000)(aX:0<ms.length)(hH:fW w D H S)(z:D≠S)(ab:H≠S)(A:DS 98 107 low w S y fs left)(am:i_ left)(C:low<=w.1.size)(ax:fs.length<=40000000000)(aq:∀f∈fs,f.d.length<=L)(hL:L<=24000000000):Calls pG 258 #[P0 (Y ⟨D,0,Z⟩),J ao ms.length c] w λr w'=>r=.returned (.bool (iE fs left (ms.flatMap fE)).1)/\eL 98 107 low w S y (iE fs left (ms.flatMap fE)).2.1 (iE fs left (ms.flatMap fE)).2.2 w':=by
 have HT:=dF ht;have aV:=dF aH;have aB:=dF a6;have HH:=dF hH;have HD:=dF A;have af:=dF aq;have ag:=dF am;have aM:=dF (Lib.fresh_isBuilder 352 5 w);have aR:Hid (Bw w (w.alloc (G #[P0 none,J Z 0 0] 352))):=(Below.refl w.1.size w).alloc r_ _;clear ht aH a6 hH A aq am;go_enter func258,ntmps258;go_wp2;generalize (w.alloc (G #[P0 none,J Z 0 0] 352))=W1 at*;go_loopw [10] (λs10 wr=>∃(t:Nat) (l:List UInt8),t<=ms.length/\s10=I (t:Int)/\l.length<=301*t/\l=(ms.take t).flatMap fE/\Lib.IsBuilder 352 5 w.1.size w.1.size (iD l) wr/\Bw w wr) (λs10 wr=>ms.length - (intOf s10).toNat);case atStart=>exact⟨0,[],Nat.zero_le _,rfl,Nat.le_refl _,sG,aM,aR⟩
 case round=>
  obtain⟨t,l,b8,rfl,bb,aj,W,x⟩:=hrel;have Q:=dF aj;clear aj;by_cases ah:t<ms.length
  ·obtain⟨g,bc,h1,hg,hc⟩:=aB.at oG;cases h1;have j:∀k,k<11->wr.cell? ⟨g,t*11+k,Z⟩=Y ((dN.cells ms[t]).getD k undef):=by intro k hk;exact(x.cell (p:=⟨g,t*11+k,Z⟩) hg).trans (hc _ _ (lY dN.cells 11 F3 ms t ah k hk))
   have j0:=j 0 oG;have j1:=j 1 oG;have j2:=j 2 oG;have j3:=j 3 oG;have j4:=j 4 oG;have j5:=j 5 oG;have j6:=j 6 oG;have j7:=j 7 oG;have j8:=j 8 oG;have j9:=j 9 oG;have aO:=j 10 oG;simp[dN.cells]at j0 j1 j2 j3 j4 j5 j6 j7 j8 j9 aO;have aI:=aV.out ms[t] (List.getElem_mem ah);have aS:Hid ((ms.take (t+1)).flatMap fE=l++fE ms[t]):=by unfold Hid;rw[List.take_succ_eq_append_getElem ah,List.flatMap_append,←Q.out];simp
   clear Q;generalize ms[t]=M at*;have b3:(t:Int)<(ms.length:Int):=oG;have hz:=x.size;have a1:Hid (Bw w (wr.alloc (G (mA M.k M.f M.e M.b M.wa M.p M.s M.q M.bl M.v (J M.a M.zs.length M.c)) 136))):=x.alloc hz _;have aN:=dF (HT.below a1 aK);have aU:=dF (aI.later a1);have b4:Hid (Lib.IsBuilder 352 5 w.1.size w.1.size (iD l) (wr.alloc (G (mA M.k M.f M.e M.b M.wa M.p M.s M.q M.bl M.v (J M.a M.zs.length M.c)) 136))):=IsB.later W (a_ _ _);have aJ:=dF (dI.new wr (mA M.k M.f M.e M.b M.wa M.p M.s M.q M.bl M.v (J M.a M.zs.length M.c)) 136);have ap:w.1.size<=(wr.alloc (G (mA M.k M.f M.e M.b M.wa M.p M.s M.q M.bl M.v (J M.a M.zs.length M.c)) 136)).1.size:=a1.size;clear j aI W x;go_upto_region 5 with fail;generalize (wr.alloc (G (mA M.k M.f M.e M.b M.wa M.p M.s M.q M.bl M.v (J M.a M.zs.length M.c)) 136))=W2 at*;have bd:=aJ.cell;go_wp2_with fail;refine(DR M.k M.f M.e M.b M.wa M.p M.s M.q M.bl M.v M.a M.zs M.c W2 aN oG aU).mono ?_;rintro r w3 ⟨rfl,aQ,ad⟩;have aZ:Hid (lO M.k M.f M.e M.b M.wa M.p M.s M.q M.bl M.v M.zs=fE M):=rfl;rw[aZ.out]at aQ⊢;have aF:=dF (IsB.later b4 ad);have a2:Hid (Bw w w3):=a1.trans (ad.mono ap);have aL:=a2.size;clear ad;go_wp2_with fail;refine(hBW w.1.size w.1.size l (dL (fE M)) w3 aF (by rw[oB];omega) aL).mono ?_;rintro r w4 ⟨rfl,av,b2⟩;rw[AX]at av;have al:=dF (a2.trans b2);go_wp2_with fail;go_roundw;case rel=>exact⟨t+1,l++fE M,oG,by go_num,nG,aS.symm,av,al⟩
   case measure=>simp[intOf];omega
  ·have b3:¬(t:Int)<(ms.length:Int):=oG;have be:l.length<=24080000000:=oG;have HL:Hid (ms.flatMap fE=l):=by unfold Hid;rw[Q.out,List.take_of_length_le oG]
   have hz:=x.size;have aP:D<w.1.size:=(Array.getElem?_eq_some_iff.1 HH.d).1;have aW:H<w.1.size:=(Array.getElem?_eq_some_iff.1 HH.h).1;have X:Hid (fW wr D H S):=HH.later (x.block D aP) (x.block H aW);have N:=dF (HD.later x);have R:=dF W;have B:=dF x;have ai:low<=wr.1.size:=Nat.le_trans C hz;clear W x Q;go_wp2_with fail;refine(LW low D H S y fs left eJ wr X N oG).mono ?_;rintro r wb ⟨u,rfl⟩;obtain⟨bo,a9⟩:∃b,b=(dX fs eJ).isSome:=⟨_,rfl⟩;rw[←a9]at u;subst u;have K:=dF a9;clear a9;have aC:∀g,(g=S∨some g=y.ownBlock)->g<w.1.size:=by
    rintro g (hh|hh);·subst hh;exact(Array.getElem?_eq_some_iff.1 HD.st).1
    ·exact(HD.row.lt g hh.symm).2
   have b0:=dF aC;clear aC;have V:Hid (eL 98 107 low w S y fs left wb):=⟨y,N,⟨B.os,B.tape,B.output,B.size,λk hk _=>B.block k hk⟩,λg hg=>.inl hg⟩;have a3:l≠[]:=by rw[←HL.out];intro hh;have h9:=List.flatMap_eq_nil_iff.1 hh ms[0] (List.getElem_mem aX);unfold fE lO at h9;simp at h9
   have aT:=dF a3;clear a3;cases bo;rotate_left;focus
    go_wp2_with fail
    refine(IP low D H S y fs left eJ wb X z N ag oG ai).mono ?_
    rintro r wc ⟨u,A⟩
    have az:Hid (Lib.IsBuilder 352 5 w.1.size w.1.size (iD l) wc):=by obtain⟨v1,d,k,o⟩:=A;exact IsB.kept R k b0 r_
    have ae:Hid (eL 98 107 low w S y (if left=0 then fs else eC fs eJ) (eA left) wc):=by obtain⟨v1,d,k,o⟩:=V.out;exact eL.then (v1:=y) k (λg hg=>.inl hg) A
    clear A
    by_cases h0:left=0
    ·rw[show decide (left≠0)=false by simp[h0]]at u
     subst u
     have E:Hid ((iE fs left (ms.flatMap fE))=(false,fs,eA left)):=by unfold Hid iE iW;rw[←K.out];simp[gN,h0]
     have aY:Hid (eL 98 107 low w S y fs (eA left) wc):=by have:=ae.out;rw[if_pos h0]at this;exact this
     clear h0
     go_wp2
     go_ret
     rw[E.out]
     exact⟨rfl,aY⟩
    rw[show decide (left≠0)=true by simp[h0]]at u
    subst u
    have HI:=az
    obtain⟨n,i,E⟩:∃n i,Hid (iW fs left=(true,n,i)/\eL 98 107 low w S y n i wc/\n.length<=40000000000/\(∀f∈n,f.d.length<=L)/\(i_ i)):=⟨eC fs eJ,eA left,by unfold iW;rw[←K.out];simp[gN,h0],by have:=ae.out;rw[if_neg h0]at this;exact this,Nat.le_trans (tH af eJ).2 ax,(tH af eJ).1,pH ag⟩
    clear h0 ae V K R az N X B
   rotate_left;focus
    have HI:=R
    obtain⟨n,i,E⟩:∃n i,Hid (iW fs left=(true,n,i)/\eL 98 107 low w S y n i wb/\n.length<=40000000000/\(∀f∈n,f.d.length<=L)/\(i_ i)):=⟨fs,left,by unfold iW;rw[←K.out];rfl,V,ax,af,ag⟩
    clear V K R N X B
   all_goals
    go_wp2_with fail
    refine(hBS w.1.size w.1.size l _ HI aT).mono ?_
    rintro r wa ⟨rfl,g5,b5,aw,aG,ar⟩
    have U:=dF (E.2.1.other aw aG ar)
    clear aw aG ar HI
    obtain⟨v1,d1,k1,o1⟩:=U.out
    have b9:=E.2.2.1
    have an:=dF d1
    have ay:=dF k1
    have aA:=dF o1
    clear d1 k1 o1
    go_wp2_with fail
    refine(AJ low D H S v1 n i eJ l wa (U.hands HH z ab HD) z an E.2.2.2.2 oG (Nat.le_trans C U.size) (λf hf=>by have:=E.2.2.2.1 f hf;omega) oG).mono ?_
    rintro r O ⟨u,A⟩
    have F:=dF (eL.then ay aA A)
    clear A
    by_cases h1:i=0
    ·rw[show decide (i≠0)=false by simp[h1]]at u
     subst u
     have H7:Hid ((iE fs left (ms.flatMap fE))=(false,n,eA (i))):=by unfold Hid iE;rw[E.1,HL.out];simp[gN,h1]
     have HF:Hid (eL 98 107 low w S y n (eA (i)) O):=by have:=F.out;rw[if_pos h1]at this;exact this
     clear F
     go_wp2
     go_ret
     rw[H7.out]
     exact⟨rfl,HF⟩
    rw[show decide (i≠0)=true by simp[h1]]at u
    subst u
    have a0:Hid (eL 98 107 low w S y (fJ n eJ l) (eA (i)) O):=by have:=F.out;rw[if_neg h1]at this;exact this
    have ac:=dF h1
    obtain⟨v2,d2,k2,o2⟩:=a0.out
    have a4:=dF d2
    have a5:=dF k2
    have a7:=dF o2
    clear d2 k2 o2 F h1
    have aa:=dF (xO E.2.2.2.1 eJ l)
    have b6:=aa.2
    go_wp2_with fail
    refine(BN low D H S v2 (fJ n eJ l) (eA i) eJ O (a0.hands HH z ab HD) z a4 (pH E.2.2.2.2) oG (Nat.le_trans C a0.size) (λf hf=>by have:=aa.1 f hf;omega)).mono ?_
    clear U an ay aA
    rintro r O ⟨u,A⟩
    have F:=dF (eL.then a5 a7 A)
    clear A
    by_cases h2:eA i=0
    ·rw[show decide (eA i≠0)=false by simp[h2]]at u
     subst u
     have H7:Hid ((iE fs left (ms.flatMap fE))=(false,(fJ n eJ l),eA (eA i))):=by unfold Hid iE;rw[E.1,HL.out];simp[gN,ac.out,h2]
     have HF:Hid (eL 98 107 low w S y ((fJ n eJ l)) (eA (eA i)) O):=by have:=F.out;rw[if_pos h2]at this;exact this
     clear F
     go_wp2
     go_ret
     rw[H7.out]
     exact⟨rfl,HF⟩
    rw[show decide (eA i≠0)=true by simp[h2]]at u
    subst u
    have a8:Hid (eL 98 107 low w S y (gK (fJ n eJ l) eJ) (eA (eA i)) O):=by have:=F.out;rw[if_neg h2]at this;exact this
    have au:=dF h2
    obtain⟨v3,d3,k3,o3⟩:=a8.out
    have ak:=dF d3
    have aD:=dF k3
    have aE:=dF o3
    clear d3 k3 o3 F h2
    have b1:=dF (uQ aa.1 eJ)
    have b7:=b1.2
    go_wp2_with fail
    refine(IK low D H S v3 (gK (fJ n eJ l) eJ) (eA (eA i)) eJ eY O (a8.hands HH z ab HD) z ak (pH (pH E.2.2.2.2)) oG (Nat.le_trans C a8.size)).mono ?_
    clear a0 a4 a5 a7
    rintro r O ⟨u,A⟩
    have F:=dF (eL.then aD aE A)
    clear A
    by_cases h3:eA (eA i)=0
    ·rw[show decide (eA (eA i)≠0)=false by simp[h3]]at u
     subst u
     have H7:Hid ((iE fs left (ms.flatMap fE))=(false,(gK (fJ n eJ l) eJ),eA (eA (eA i)))):=by unfold Hid iE;rw[E.1,HL.out];simp[gN,ac.out,au.out,h3]
     have HF:Hid (eL 98 107 low w S y ((gK (fJ n eJ l) eJ)) (eA (eA (eA i))) O):=by have:=F.out;rw[if_pos h3]at this;exact this
     clear F
     go_wp2
     go_ret
     rw[H7.out]
     exact⟨rfl,HF⟩
    rw[show decide (eA (eA i)≠0)=true by simp[h3]]at u
    subst u
    have H7:Hid ((iE fs left (ms.flatMap fE))=(true,jF (gK (fJ n eJ l) eJ) eJ eY,eA (eA (eA i)))):=by unfold Hid iE;rw[E.1,HL.out];simp[gN,ac.out,au.out,h3]
    have HF:Hid (eL 98 107 low w S y (jF (gK (fJ n eJ l) eJ) eJ eY) (eA (eA (eA i))) O):=by have:=F.out;rw[if_neg h3]at this;exact this
    clear F
    go_wp2
    go_ret
    rw[H7.out]
    exact⟨rfl,HF⟩
def FP{w:World}{low n:Nat}{vr:Value}{xs:List Value}(h:w.ownsRow low 66 3 vr n xs){g:Nat}(b:vr.ownBlock=Y g):∃a,w.1[g]?=Y (.cells a 66 (0,0)):=by
 rcases h.2 with⟨rfl,_⟩|⟨e,c,a,rfl,_,d,_⟩;·simp[Value.ownBlock]at b
 ·have:e=g:=by simpa[Value.ownBlock] using b
  subst this;exact⟨a,d⟩
def dY.butT{w w':World}{B:Nat}(h:dY w)(b:dM B w w')(a:2<=B):dY w':=h.below (b.below a) (Nat.le_refl 2)
def dY.qj{w:World}(h:dY w):dY w.drew:=⟨h.mh,h.lim,h.two⟩
def fK.butI{w w':World}{B:Nat}{a:Option Addr}{c:List Int}(h:fK w a c)(d:dM B w w')(k:∀e,a=Y e->e.block≠B):fK w' a c:=by
 rcases h with h|⟨g,off,b,f,l⟩;·exact .inl h
 ·exact .inr ⟨g,off,b,by rw[d.size];exact f,λj i=>(d.cell (p:=⟨g,off+j,Z⟩) (show g≠B from k _ b)).trans (l j i)⟩
def fK.qo{w:World}{a:Option Addr}{b:List Int}(h:fK w a b):fK w.drew a b:=h
def fW.drewH{w:World}{D H S:Nat}(h:fW w D H S):fW w.drew D H S:=⟨h.d,h.h⟩
def DS.drewD{ty e:TypeId}{low:Nat}{w:World}{S:Nat}{v:Value}{fs:List FD}{left:Int}(h:DS ty e low w S v fs left):DS ty e low w.drew S v fs left:=⟨h.st,h.row.drew⟩
def AY(low St:Nat)(d:SD)(vr:Value)(Mp D:Nat)(w:World)(h:eI w low St d vr Mp D)(i:d.recs.length<=100000000)(k:d.3.length<=100000000):Calls pG 255 #[P0 (Y ⟨St,0,Z⟩)] w λr w'=>r=.returned (I ((d.recs.length:Int)+2*(d.3.length:Int)))/\∃n,w'=w.drewN n:=by
 obtain⟨m,cr,e⟩:=eK h.ji;subst e;obtain⟨es,c,a,b⟩:=h.jg.size;have l:=h.blk.cell 1;have g:=h.blk.cell 2;simp at l g;have f:∀ty n,(Builtin.len_ #[193] ty #[.map (Y Mp)]).run pG (w.drewN n)=.ok (I (d.3.length:Int)) (w.drewN n):=by intro ty n;have j:(w.drewN n).1[Mp]?=Y (.map es c):=((below_drewN b_ n).block Mp h.jg.lt).trans a;unfold Builtin.len_;simp only[List.getElem?_toArray,List.getElem?_cons_zero,Sem.run_bind,run_underlying underlying193,Result.andThen_ok,oI j,Sem.run_pure];rw[b];rfl
 clear h b a;go_enter func255,ntmps255;go_wp2_with fail;go_quiet (fail);go_wp2;go_ret;exact⟨rfl,_,rfl⟩
structure gB(w:World)(low D H S:Nat)(va:Value)(fs:List FD)(left:Int)(L:Nat):Prop where
 hands:fW w D H S
 ds:DS 98 107 low w S va fs left
 dS:D≠S
 hS:H≠S
 lf:i_ left
 fl:fs.length<=L
 bd:∀f∈fs,f.d.length<=L
def gB.later{w w':World}{low D H S:Nat}{b:Value}{fs:List FD}{left:Int}{L:Nat}(h:gB w low D H S b fs left L)(a:Bw w w'):gB w' low D H S b fs left L:=⟨h.hands.later (a.block D (Array.getElem?_eq_some_iff.1 h.hands.d).1) (a.block H (Array.getElem?_eq_some_iff.1 h.hands.h).1),h.ds.later a,h.dS,h.hS,h.lf,h.fl,h.bd⟩
def gB.but{w w':World}{low D H S:Nat}{c:Value}{fs:List FD}{left:Int}{L B:Nat}{cs:Array Value}{ty:TypeId}(h:gB w low D H S c fs left L)(p:dI w B cs ty)(o:ty≠100)(f:ty≠102)(j:ty≠98)(n:ty≠107)(k:dM B w w'):gB w' low D H S c fs left L:=by
 have e:∀(g:Nat) (a:Array Value) (t':TypeId),w.1[g]?=Y (G a t' (0,0))->ty≠t'->w'.1[g]?=w.1[g]?:=by intro g a t' b l;refine k.block g (λi=>?_);subst i;have:=p.blk.symm.trans b;simp at this;exact l this.2
 exact⟨h.hands.later (e D _ _ h.hands.d o) (e H _ _ h.hands.h f),⟨(e S _ _ h.ds.st j).trans h.ds.st,dW h.ds.row (λg b=>by obtain⟨a,m⟩:=h.ds.rowAt b;exact e g a 107 m n)⟩,h.dS,h.hS,h.lf,h.fl,h.bd⟩
def DS.apart{w w':World}{low S:Nat}{f:Value}{fs:List FD}{left:Int}(e:DS 98 107 low w S f fs left)(d:gA (λb=>b=S∨some b=f.ownBlock) w w')(g:Nat)(k:g<w.1.size)(j:∀a,w.1[g]?≠some (.cells a 98 (0,0)))(i:∀a,w.1[g]?≠some (.cells a 107 (0,0))):w'.1[g]?=w.1[g]?:=by
 refine d.block g k (λc=>?_);rcases c with c|c;·subst c;exact j _ e.st
 ·obtain⟨a,h⟩:=e.rowAt c.symm;exact i a h
def eI.pu{w w':World}{low St:Nat}{d:SD}{vr:Value}{Mp D S:Nat}{l:Value}{fs:List FD}{left:Int}(h:eI w low St d vr Mp D)(j:DS 98 107 low w S l fs left)(f:gA (λb=>b=S∨some b=l.ownBlock) w w'):eI w' low St d vr Mp D:=by
 refine⟨h.blk.same (j.apart f St h.blk.lt (λa c=>?_) (λa c=>?_)),dW h.ji (λg i=>j.apart f g (h.ji.lt g i).2 (λa c=>?_) (λa c=>?_)),h.jg.same (j.apart f Mp h.jg.lt (λa c=>?_) (λa c=>?_))⟩;·have:=h.blk.blk.symm.trans c;simp at this
 ·have:=h.blk.blk.symm.trans c;simp at this
 ·obtain⟨m,e⟩:=FP h.ji i;have:=e.symm.trans c;simp at this
 ·obtain⟨m,e⟩:=FP h.ji i;have:=e.symm.trans c;simp at this
 ·obtain⟨es,k,e,_⟩:=h.jg.1;have:=e.symm.trans c;simp at this
 ·obtain⟨es,k,e,_⟩:=h.jg.1;have:=e.symm.trans c;simp at this
def dI.pu{w w':World}{low B S:Nat}{cs:Array Value}{ty:TypeId}{e:Value}{fs:List FD}{left:Int}(h:dI w B cs ty)(i:ty≠98)(f:ty≠107)(g:DS 98 107 low w S e fs left)(d:gA (λb=>b=S∨some b=e.ownBlock) w w'):dI w' B cs ty:=by
 refine h.same (g.apart d B h.lt (λa c=>?_) (λa c=>?_));·have:=h.blk.symm.trans c;simp at this;exact i this.2
 ·have:=h.blk.symm.trans c;simp at this;exact f this.2
def DT(k f e b wa p s q bl v:Int)(a:List Int):(lO k f e b wa p s q bl v a).length<=301:=by
 unfold lO pR;split
 ·next hm=>
  obtain⟨g,d,_,_,c⟩:=rD hm;have:=BO k.toNat f.toNat [0,e,b,wa,p,s,q,bl,v,(a.length:Int)] a oG c;simp;omega
 ·simp
def JN(low St:Nat)(d:SD)(vr:Value)(Mp D H S:Nat)(V:Value)(fs:List FD)(left:Int)(L:Nat)(k f e b wa p s q bl v:Int)(a:Option Addr)(o:List Int)(c:Nat)(w:World)(h:eI w low St d vr Mp D)(hk:gB w low D H S V fs left L)(ht:dY w)(hz:fK w a o)(af:2<=w.1.size)(ap:low<=w.1.size)(hL:L<=24000000000)(aw:d.recs.length<=26000000)(ay:d.3.length<=26000000)(av:0<=d.lines/\d.lines<=100000000)(a0:2<=St)(ao:∀ad,a=Y ad->ad.block≠St)(ah:d.wh=true)(z:d.lines<64+2*((d.recs.length:Int)+2*(d.3.length:Int))):Calls pG 236 #[P0 (Y ⟨St,0,Z⟩),.agg (mA k f e b wa p s q bl v (J a o.length c))] w λr w'=>r=.returned (.bool (decide (left≠0/\left≠1)))/\∃a6,eI w' low St {d with lines:=d.lines+1} vr Mp D/\gB w' low D H S a6 (pS fs left (lO k f e b wa p s q bl v o)) (eA (eA left)) (L+301)/\(∀g,a6.ownBlock=Y g->V.ownBlock=Y g∨w.1.size<=g)/\dQ (λg=>g=St∨g=S∨V.ownBlock=Y g) w w':=by
 have au:decide (d.lines<64+2*((d.recs.length:Int)+2*(d.3.length:Int)))=true:=by simpa using z
 have t:=(Below.refl w.1.size w).alloc r_ (G (mA k f e b wa p s q bl v (J a o.length c)) 136);have HM:=dF (dI.new w (mA k f e b wa p s q bl v (J a o.length c)) 136);have HB:=dF t;have HT:=dF (ht.below t af);have HZ:=dF (hz.later t);have C:=dF (h.later t);have HK:=dF (hk.later t);have aq:=h.blk.lt;clear ht hz t h hk;go_enter func236,ntmps236;go_upto_region 1 with fail;generalize (w.alloc (G (mA k f e b wa p s q bl v (J a o.length c)) 136))=N at*;have B:=C.blk.cell 9;have x:=C.blk.cell 10;have c11:=C.blk.cell 11;simp at B x c11;rw[ah]at c11;have F:=C.blk.lt;have a4:=HB.size;go_quiet ((go_at_call 255;exact Calls.quiet_of (AY low St d vr Mp D _ (C.later (below_drewN b_ _)) oG oG)));have n:Bw N (N.drewN nq):=below_drewN b_ _;have ab:=dF (HM.later n);have y:Hid (Bw w (N.drewN nq)):=HB.trans (n.mono a4);have a1:Hid (dY (N.drewN nq)):=HT.below n oG;have a9:=dF (HZ.later n);have j:=dF (C.later n);have R:=dF (HK.later n);generalize N.drewN nq=W1 at*;clear n B x c11 HM HB HT HZ C HK F a4;have B:=j.blk.cell 9;have x:=j.blk.cell 10;have c11:=j.blk.cell 11;simp at B x c11;have W:=j.blk.free 10;have F:=j.blk.lt;have U:=y.size;have ac:Hid (dI (W1.setCell ⟨St,10,Z⟩ (I (d.lines+1))) St #[I d.id,vr,Value.map (Y Mp),I d.b0,I d.b1,I d.b2,I d.b3,I d.seen,I d.last,P0 (Y ⟨D,0,Z⟩),I (d.lines+1),bool d.wh] 200):=by have E:=j.blk.set 10 (I (d.lines+1));unfold Hid;simpa using E
 have l:Hid (dM St W1 (W1.setCell ⟨St,10,Z⟩ (I (d.lines+1)))):=dM.setCell W1 ⟨St,10,Z⟩ _;have a5:Hid (eI (W1.setCell ⟨St,10,Z⟩ (I (d.lines+1))) low St {d with lines:=d.lines+1} vr Mp D):=⟨ac,dW j.ji (λg hg=>l.block g (λhh=>kK j.ji j.blk.blk dG (by rw[←hh];exact hg))),j.jg.same (l.block Mp (j.jg.ne j.blk))⟩;have i:=dF (R.but j.blk dG dG dG dG l);have a3:Hid (dI (W1.setCell ⟨St,10,Z⟩ (I (d.lines+1))) w.1.size (mA k f e b wa p s q bl v (J a o.length c)) 136):=ab.setO oG _ _;have aj:=dF (a1.butT l a0);have am:=dF (a9.butI l ao);have aa:(W1.setCell ⟨St,10,Z⟩ (I (d.lines+1))).1.size=W1.1.size:=CG _ _ _ _;go_upto_region 3 with fail;generalize (W1.setCell ⟨St,10,Z⟩ (I (d.lines+1)))=W2 at*;clear B x c11 ab a1 a9 j R ac W F;have B:=a5.blk.cell 9;simp at B;obtain⟨m0,m1,m2,m3,m4,m5,m6,m7,m8,m9,gF⟩:=a3.c11;have a8:2<=W2.1.size:=oG;have X:low<=W2.1.size:=oG;refine wp_region_held_drew (S:=(λw'=>w'.cell? ⟨St,9,Z⟩=Y (P0 (Y ⟨D,0,Z⟩))/\w'.cell? ⟨w.1.size,0,Z⟩=Y (I k)/\w'.cell? ⟨w.1.size,1,Z⟩=Y (I f)/\w'.cell? ⟨w.1.size,2,Z⟩=Y (I e)/\w'.cell? ⟨w.1.size,3,Z⟩=Y (I b)/\w'.cell? ⟨w.1.size,4,Z⟩=Y (I wa)/\w'.cell? ⟨w.1.size,5,Z⟩=Y (I p)/\w'.cell? ⟨w.1.size,6,Z⟩=Y (I s)/\w'.cell? ⟨w.1.size,7,Z⟩=Y (I q)/\w'.cell? ⟨w.1.size,8,Z⟩=Y (I bl)/\w'.cell? ⟨w.1.size,9,Z⟩=Y (I v)/\w'.cell? ⟨w.1.size,10,Z⟩=Y (J a o.length c))) kG ⟨B,m0,m1,m2,m3,m4,m5,m6,m7,m8,m9,gF⟩ (λ_=>?_);refine tk 0 ?_;refine tk 1 ?_;refine tk 2 ?_;refine tk 3 ?_;refine tk 4 ?_;refine dT 5 λK hK=>?_;(try go_simp);go_at_call 256;refine(JL low D H S V fs left L k f e b wa p s q bl v a o c W2.drew aj.qj (by exact a8) am.qo i.hands.drewH i.dS i.hS i.ds.drewD i.lf (by exact X) (Nat.le_trans i.fl oG) i.bd oG).mono ?_;rintro r w4 ⟨rfl,ak,a2,u,a7⟩;have m:Hid (gA (λb=>b=S∨some b=V.ownBlock) W2 w4):=⟨u.os,u.tape,u.output,u.size,u.block⟩;have ag:=dF (a3.pu dG dG i.ds m);have O:=dF (a5.pu i.ds m);have ai:=dF a2;have an:=dF a7;have al:=dF (i.hands.did i.dS i.hS i.ds m);clear a2 u a7;obtain⟨z0,z1,z2,z3,z4,z5,z6,z7,z8,z9,Q⟩:=ag.c11;have y9:=O.blk.cell 9;simp at y9;refine k1 hK (λ_=>?_) ⟨y9,z0,z1,z2,z3,z4,z5,z6,z7,z8,z9,Q⟩;clear hK K;refine dT 6 λK hK=>?_;(try go_simp);refine k1 hK (λ_=>?_) ⟨y9,z0,z1,z2,z3,z4,z5,z6,z7,z8,z9,Q⟩;clear hK K;refine dn ?_;go_wp2;go_ret;have hx:(∀M∈pS fs left (lO k f e b wa p s q bl v o),M.d.length<=L+301)/\(pS fs left (lO k f e b wa p s q bl v o)).length<=L+301:=by
  have ax:=DT k f e b wa p s q bl v o;have hA:=xO i.bd eY (lO k f e b wa p s q bl v o);have ae:=uQ hA.1 eY;have ar:=i.fl;unfold pS;split;·exact⟨λM E=>by have:=i.bd M E;omega,oG⟩
  ·split;·exact⟨λM E=>by have:=hA.1 M E;omega,oG⟩
   ·exact⟨λM E=>by have:=ae.1 M E;omega,oG⟩
 refine⟨by show Ending.returned (Value.bool (!decide (left=0)&&!decide (left=1)))=_;simp,ak,O,⟨al,ai,i.dS,i.hS,pH (pH i.lf),hx.2,hx.1⟩,λg hg=>?_,?_⟩
 ·rcases an.out g hg with A|A;·exact .inl A
  ·exact .inr (Nat.le_trans U (by rw[←aa];exact A))
 ·refine⟨m.os.trans (l.os.trans y.os),m.tape.trans (l.tape.trans y.tape),m.output.trans (l.output.trans y.output),Nat.le_trans U (Nat.le_trans oG m.size),λg hg hA=>?_⟩;exact(m.block g oG (λhh=>hA (hh.elim (λA=>.inr (.inl A)) (λA=>.inr (.inr A.symm))))).trans ((l.block g (λA=>hA (.inl A))).trans (y.block g hg))
end Go.Proofs.YtdcainmlcpafbaaGreatDoor
