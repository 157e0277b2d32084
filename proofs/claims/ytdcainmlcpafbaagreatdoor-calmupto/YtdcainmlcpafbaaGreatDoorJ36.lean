import Derived.Test.YtdcainmlcpafbaaGreatDoorJ37
import Derived.Test.YtdcainmlcpafbaaGreatDoorJ38
set_option linter.all false
set_option maxHeartbeats 8000000
set_option maxRecDepth 20000
namespace Go.Proofs.YtdcainmlcpafbaaGreatDoor
open Go.RowKit
open Value renaming slice->J,pointer->P0
open Tryz
open Tryz renaming prog->pG
open IntKind renaming i64->T
open Option renaming none->Z,some->Y
open Obj renaming cells->G
open Value (bool)
def AG.qh(y:AG.Nd)(m:AG.Ms)(h:y.on<=0)(c:y.res=[]):(y.receive m true).1.on<=0/\(y.receive m true).1.res=[]:=by
 by_cases b:m.k=8
 ·have e:(y.receive m true).1=y:=by
   unfold AG.Nd.receive;split;·rfl
   rw[b];show y.wrote m=y;unfold AG.Nd.wrote;rw[if_neg (λa=>oG)]
  rw[e];exact⟨h,c⟩
 ·have o:=AG.Opk.receive y m true b;refine⟨?_,by rw[o.res];exact c⟩;rcases o.on with a|a;·rw[a];exact Int.le_refl _
  ·rw[a.1];exact h
structure Qs(s:CS)(n:Nat):Prop where
 ns:s.ns.length=n
 q:∀k,k<n->(s.nd k).on<=0/\(s.nd k).res=[]
def kC(s s':CS):Prop:=s'.ops=s.ops/\s'.rs=s.rs/\s'.rd=s.rd/\s'.3=s.3/\s'.nb=s.nb
def kC.refl(s:CS):kC s s:=⟨rfl,rfl,rfl,rfl,rfl⟩
def kC.trans{a b c:CS}(h:kC a b)(k:kC b c):kC a c:=⟨k.1.trans h.1,k.2.1.trans h.2.1,k.2.2.1.trans h.2.2.1,k.2.2.2.1.trans h.2.2.2.1,k.2.2.2.2.trans h.2.2.2.2⟩
section
variable {s:CS} {n:Nat}
def FC{k:Nat}(c:k<s.ns.length)(b:(s.nd k).res=[]):(s.look k).xf=s.xf/\(s.look k).4=s.4/\kC s (s.look k)/\(s.look k).ns.length=s.ns.length/\∀j,(s.look k).nd j=s.nd j:=by
 have e:s.tell k=s:=by unfold CS.tell;rw[b]
 have a:(s.look k).xf=s.xf:=by
  have d:(s.look k).xf=AG.upd s.xf (k:Int) {s.nd k with res:=[]}:=pL c rfl;rw[d,AG.mq];rw[eE];have f:∀y:AG.Nd,y.res=[]->({y with res:=[]}:AG.Nd)=y:=by intro y hy;cases y;dsimp only at hy;subst hy;rfl
  exact f _ b
 refine⟨a,?_,?_,?_,λj=>?_⟩;·show(s.tell k).4=_;rw[e]
 ·unfold kC CS.look;rw[e];exact⟨rfl,rfl,rfl,rfl,rfl⟩
 ·show(s.ns.set k _).length=_;exact List.length_set
 ·rw[←eE,a,eE]
def zI(h:Qs s n){j:Nat}(i:j<n){r:AG.Nd×List (Int×AG.Ms)}(c:r.1.on<=0/\r.1.res=[]):((s.put j r).look j).xf=AG.upd s.xf (j:Int) r.1/\((s.put j r).look j).4=s.4++r.2/\kC s ((s.put j r).look j)/\Qs ((s.put j r).look j) n:=by
 have a:j<s.ns.length:=by rw[h.ns];exact i
 have ep:(s.put j r).xf=AG.upd s.xf (j:Int) r.1:=pL a rfl;have e:(s.put j r).nd j=r.1:=by rw[←eE,ep,AG.upd_self]
 have d:(s.put j r).ns.length=s.ns.length:=List.length_set;obtain⟨l,m,p,f,o⟩:=FC (s:=s.put j r) (k:=j) (by rw[d];exact a) (by rw[e];exact c.2);refine⟨l.trans ep,m,kC.trans ⟨rfl,rfl,rfl,rfl,rfl⟩ p,⟨(f.trans d).trans h.ns,λk g=>?_⟩⟩;rw[o];by_cases b:k=j;·subst b;rw[e];exact c
 ·have:(s.put j r).nd k=s.nd k:=by rw[←eE,ep,AG.upd_ne oG,eE]
  rw[this];exact h.q k g
def QJ(h:Qs s n){j:Nat}(a:j<n)(m:AG.Ms):(s.come j m true).xf=AG.upd s.xf (j:Int) ((s.xf (j:Int)).receive m true).1/\(s.come j m true).4=s.4++((s.xf (j:Int)).receive m true).2/\kC s (s.come j m true)/\Qs (s.come j m true) n:=by rw[eE];exact zI h a (AG.qh (s.nd j) m (h.q j a).1 (h.q j a).2)
def AG.qf(x:Int->AG.Nd)(l:List (Int×AG.Ms))(z:Int×AG.Ms):AG.passA x (l++[z])=AG.stepA (AG.passA x l) z:=by unfold AG.passA;rw[List.foldl_append];rfl
def FY(h:Qs s n)(d:∀z∈s.4,0<=z.1/\z.1<(n:Int)):∀k,k<=s.4.length->(s.lh k).xf=(AG.passA s.xf (s.4.take k)).1/\(s.lh k).4=s.4++(AG.passA s.xf (s.4.take k)).2/\kC s (s.lh k)/\Qs (s.lh k) n
 |0,_=>⟨rfl,(List.append_nil _).symm,.refl s,h⟩
 |k+1,hk=>by
  obtain⟨a1,c,l,f⟩:=FY h d k oG;have a:k<s.4.length:=oG;have o:(s.lh k).4[k]?=some s.4[k]:=by rw[c,List.getElem?_append_left a,List.getElem?_eq_getElem a]
  have q:=d _ (List.getElem_mem a);have g:s.lh (k+1)=(s.lh k).come s.4[k].1.toNat s.4[k].2 true:=by show(s.lh k).cm k=_;unfold CS.cm;rw[o]
  obtain⟨b,e,m,i⟩:=QJ f (j:=s.4[k].1.toNat) oG s.4[k].2;rw[show((s.4[k].1.toNat:Nat):Int)=s.4[k].1 by omega]at b e;rw[g];have p:s.4.take (k+1)=s.4.take k++[s.4[k]]:=by rw[List.take_add_one,List.getElem?_eq_getElem a];rfl
  rw[p,AG.qf];refine⟨?_,?_,l.trans m,i⟩;·rw[b,a1];rfl
  ·rw[e,a1,c,List.append_assoc];rfl
def FE(h:Qs s n)(d:∀z∈s.4,0<=z.1/\z.1<(n:Int)):s.pass.xf=(AG.passA s.xf s.4).1/\s.pass.4=(AG.passA s.xf s.4).2/\kC s s.pass/\Qs s.pass n:=by obtain⟨a1,b,c,a⟩:=FY h d s.4.length r_;rw[List.take_length]at a1 b;refine⟨a1,?_,c,⟨a.ns,a.q⟩⟩;show(s.lh s.4.length).4.drop s.4.length=_;rw[b,List.drop_left]
def jD:Nat->CS->Prop
 |0,_=>True
 |m+1,s=>s.4.length=0∨(s.4.length<=1000/\jD m s.pass)
def vN:∀(M:Nat) (s:CS) {x':Int->AG.Nd} {b:List (Int×AG.Ms)},Qs s n->AG.RunA (n:Int) M (s.xf,s.4) (x',b)->(CS.gu M s).xf=x'/\(CS.gu M s).4=b/\kC s (CS.gu M s)/\Qs (CS.gu M s) n/\jD M s
 |0,s,x',b,h,a=>by have a:(s.xf,s.4)=(x',b):=a;exact⟨congrArg Prod.fst a,congrArg Prod.snd a,.refl s,h,trivial⟩
 |M+1,s,x',b,h,a=>by
  rcases a with⟨c,d⟩|⟨c,d,m,f⟩
  ·have c:s.4=[]:=c;have e:CS.gu (M+1) s=s:=by show(bif decide (s.4.length=0) then s else _)=s;rw[c];rfl
   rw[e];exact⟨congrArg Prod.fst d,congrArg Prod.snd d,.refl s,h,.inl (by rw[c];rfl)⟩
  ·have l:s.4.length≠0:=λo=>c (List.length_eq_zero_iff.1 o);have e:CS.gu (M+1) s=CS.gu M s.pass:=by show(bif decide (s.4.length=0) then s else CS.gu M s.pass)=_;rw[decide_eq_false l];rfl
   obtain⟨j,p2,g,i⟩:=FE h m;have f:AG.RunA (n:Int) M (s.pass.xf,s.pass.4) (x',b):=by rw[j,p2];exact f
   obtain⟨p,r,q,k,t⟩:=vN M s.pass i f;rw[e];exact⟨p,r,g.trans q,k,.inr ⟨d,t⟩⟩
end
def CS.cnt:Nat->CS->Nat
 |0,_=>0
 |m+1,s=>bif decide (s.4.length=0) then 0 else s.4.length+CS.cnt m s.pass
def yZ{m:Nat}{s:CS}(h:s.4.length=0):CS.cnt (m+1) s=0:=by show(bif decide (s.4.length=0) then 0 else s.4.length+CS.cnt m s.pass)=0;rw[decide_eq_true h];rfl
def zA{m:Nat}{s:CS}(h:¬s.4.length=0):CS.cnt (m+1) s=s.4.length+CS.cnt m s.pass:=by show(bif decide (s.4.length=0) then 0 else s.4.length+CS.cnt m s.pass)=_;rw[decide_eq_false h];rfl
def FF:∀(m:Nat) (s:CS),jD m s->CS.cnt m s<=1000*m
 |0,_,_=>Nat.le_refl _
 |m+1,s,h=>by
  by_cases a:s.4.length=0;·rw[yZ a];exact Nat.zero_le _
  ·obtain⟨c,b⟩:=Or.resolve_left h a;have:=FF m s.pass b;rw[zA a];omega
def QK(s:CS)(k:Nat):s.4.length<=(s.cm k).4.length:=by
 unfold CS.cm;split;·exact Nat.le_refl _
 ·exact(E7 s _ _ _).2
def yF(s:CS):∀k,s.4.length<=(s.lh k).4.length
 |0=>Nat.le_refl _
 |k+1=>Nat.le_trans (yF s k) (QK _ k)
def Ok.sub{s:CS}{n N:Nat}(h:Ok s n N){l:List (Int×AG.Ms)}(d:∀z∈l,z∈s.4)(e:l.length<=s.4.length):Ok {s with net:=l} n N:=by obtain⟨sn,g,u,a⟩:=h.gs;refine⟨⟨sn,g,u,λj=>⟨(a j).1,(a j).ns,(a j).kn,?_,λz c=>(a j).nt z (d z c),(a j).bi⟩⟩,λz c=>h.ou z (d z c),h.3⟩;have b:=(a j).bd;exact⟨b.1,b.2.1,b.2.2.1,b.2.2.2.1,Nat.le_trans e b.2.2.2.2⟩
def RB(hLO:i8)(hUO:i6)(hSO:fB)(hBW:fH)(hBS:fI)(Wc base t n N:Nat)(hs:List Ho)(s:CS)(k:Nat)(w:World)(h:CA w Wc base t true hs s)(r:Qt hs)(b:Ok s n N)(i:k<s.4.length)(o:t+2<=20000000)(z:N+100<=500000000):Calls pG 57 #[P0 (Y ⟨Wc,0,Z⟩),I (k:Int)] w λq w'=>q=.returned (.tuple #[])/\∃hs',hs'.length=hs.length/\CA w' Wc base (t+1) true hs' (s.cm k)/\Ok (s.cm k) n (N+13)/\Below base w w'/\Qt hs':=by
 have a:=List.getElem_mem i;obtain⟨⟨y,x⟩,g⟩:=b.ou _ a;have d:s.4[k].1.toNat<n:=oG;have m:s.4[k]=((s.4[k].1.toNat:Int),s.4[k].2):=by rw[show((s.4[k].1.toNat:Nat):Int)=s.4[k].1 by omega]
 have c:(((s.4[k].1.toNat:Nat):Int),s.4[k].2)∈s.4:=by rw[←m];exact a
 have v:=(eX.bd b.gs).2.2.2.2;refine(EF hLO hUO hSO hBW hBS Wc base t hs s k s.4[k].1.toNat s.4[k].2 w h i m (by rw[b.gs.nn.2];exact d) g o oG (b.stR d c (mM g)) (λok=>(b.gs.receive d c (mM g) ok).lk d oG)).mono ?_;rintro q w' ⟨rfl,ok,hs',j,u,p,f⟩;obtain⟨rfl,l⟩:=f.1 r;have e:s.cm k=s.come s.4[k].1.toNat s.4[k].2 true:=by unfold CS.cm;rw[List.getElem?_eq_getElem i]
 rw[e];exact⟨rfl,hs',j,u,b.put d (b.gs.receive d c (mM g) true) f.2 oG,p,l⟩
def FG(hLO:i8)(hUO:i6)(hSO:fB)(hBW:fH)(hBS:fI)(Wc base t n0 N:Nat)(hs:List Ho)(s:CS)(M:Nat)(w:World)(h:CA w Wc base t true hs s)(hq:Qt hs)(hg:Ok s n0 N)(af:jD M s)(hM:M<=100)(ht:t+CS.cnt M s+2<=20000000)(hN:N+13*CS.cnt M s+100<=500000000):Calls pG 25 #[P0 (Y ⟨Wc,0,Z⟩),I (M:Int)] w λq w'=>q=.returned (.tuple #[])/\∃hs',hs'.length=hs.length/\CA w' Wc base (t+CS.cnt M s) true hs' (CS.gu M s)/\Below base w w'/\Qt hs'/\Ok (CS.gu M s) n0 (N+13*CS.cnt M s):=by
 obtain⟨i0,au,ah,ax,an⟩:=info_parts yA;have HH:=dF h;have HQ:=dF hq;have aQ:=dF af;have HG:=dF hg;clear h hq af hg;obtain⟨CT,K⟩:∃y,CS.cnt M s=y:=⟨_,rfl⟩;rw[K]at ht hN;have b0:=dF K;rw[K];clear K;go_enter func25,ntmps25;go_upto_region 0 with fail;go_loopw [1] (λs1 wr=>∃m:Nat,m<=M/\s1=I (m:Int)/\∃hs' t' s' N',hs'.length=hs.length/\CA wr Wc base t' true hs' s'/\Qt hs'/\(jD m s'/\Ok s' n0 N')/\CS.gu m s'=CS.gu M s/\(t'+CS.cnt m s'=t+CT/\N'+13*CS.cnt m s'=N+13*CT)/\Below base w wr) (λs1 wr=>(intOf s1).toNat);case atStart=>exact⟨M,oG,rfl,hs,t,s,N,rfl,HH,HQ,⟨aQ,HG⟩,rfl,by rw[b0.out];exact⟨rfl,rfl⟩,Below.refl _ _⟩
 case round=>
  obtain⟨m,be,rfl,hs',t',s',N',a0,⟨v,hc⟩,aq,⟨U,ai⟩,ay,o,al⟩:=hrel;obtain⟨a5,bb,x⟩:=eK (hc.row 5 dG);have c5:=hc.cell (k:=5) dG;rw[x]at c5;have r:rN hs' s' 5=s'.4.length:=rfl;rw[r]at c5;have HC:=dF hc;have L:=dF aq;have am:=dF U;have H:=dF ay;have O:=dF al;have a4:=dF ai;clear hc aq U ay al x r ai;by_cases aK:m=0;case pos=>subst aK;go_wp2;refine bodyPost_end (v:=.tuple #[]) (by simp[results,results25,go_sem]) rfl ?_;have h0:CS.cnt 0 s'=0:=rfl;rw[h0]at o;have e1:t'=t+CT:=oG;have e2:N'=N+13*CT:=oG;rw[←e1,←e2];exact⟨rfl,hs',a0,by rw[←H.out];exact⟨_,HC⟩,O,L,by rw[←H.out];exact a4⟩
  obtain⟨m2,A⟩:∃y,m=y+1:=⟨m-1,oG⟩;have ar:Hid (jD (m2+1) s'):=by unfold Hid;rw[←A];exact am
  have B:Hid (CS.gu (m2+1) s'=CS.gu M s):=by unfold Hid;rw[←A];exact H
  have bf:1<=m:=oG;have bc:=dF A;have aw:(m2:Int)=(m:Int) - 1:=oG;have aW:=dF aw;have b6:m2+1<=M:=oG;rw[A]at o;clear A aw am H;by_cases d:s'.4.length=0;case pos=>
   have HF:Hid (CS.gu M s=s'):=by unfold Hid;rw[←B.out,CS.gu,d];rfl
   have ak:decide ((0:Int)<(m:Int))=true:=by rw[decide_eq_true_eq];omega
   rw[yZ d]at o;rw[d]at c5;clear d;go_wp2;refine bodyPost_end (v:=.tuple #[]) (by simp[results,results25,go_sem]) rfl ?_;have e1:t'=t+CT:=oG;have e2:N'=N+13*CT:=oG;rw[←e1,←e2];exact⟨rfl,hs',a0,by rw[HF.out];exact⟨_,HC⟩,O,L,by rw[HF.out];exact a4⟩
  obtain⟨aC,av⟩:=ar.resolve_left d;rw[zA d]at o;have aa:=yF s' s'.4.length;obtain⟨n,R⟩:∃y,s'.4.length=y:=⟨_,rfl⟩;rw[R]at c5 aC aa d o;obtain⟨bh,a3⟩:∃y,CS.cnt m2 s'.pass=y:=⟨_,rfl⟩;rw[a3]at o;have aV:=dF a3;clear a3;have ak:decide ((0:Int)<(m:Int))=true:=by rw[decide_eq_true_eq];omega
  have aY:decide (0<n)=true:=by rw[decide_eq_true_eq];omega
  have aD:Hid (CS.gu m2 s'.pass=CS.gu M s):=by unfold Hid;rw[←B.out,CS.gu,R,decide_eq_false d];rfl
  have a6:=dF R;have aR:=dF av;clear R av B ar;go_upto_region 4 with fail;clear ak aY c5;go_loopw [5] (λs5 w2=>∃k:Nat,k<=n/\s5=I (k:Int)/\∃b,b.length=hs.length/\CA w2 Wc base (t'+k) true b (s'.lh k)/\Qt b/\Ok (s'.lh k) n0 (N'+13*k)/\Below base w w2) (λs5 w2=>n - (intOf s5).toNat);case atStart=>exact⟨0,oG,rfl,hs',a0,⟨v,HC⟩,L,a4,O⟩
  case round=>
  obtain⟨k,b4,rfl,b,b1,a2,F,C,D⟩:=hrel;by_cases aT:k<n
  ·have b8:decide ((k:Int)<(n:Int))=true:=nG;have aX:=dF (RB hLO hUO hSO hBW hBS Wc base (t'+k) n0 (N'+13*k) b (s'.lh k) k wr a2 F C (Nat.lt_of_lt_of_le aT (by have Q:=yF s' k;rw[a6.out]at Q;exact Q)) oG oG);have aM:=dF D;clear a2 F D C;go_wp2_with fail;refine aX.mono ?_;rintro q w3 ⟨rfl,aB,b3,aP,aI,aO,aE⟩;go_wp2_with fail;go_roundw;case rel=>exact⟨k+1,oG,rfl,aB,oG,aP,aE,aI,aM.trans aO⟩
   case measure=>simp[intOf];omega
  obtain rfl:k=n:=oG;have bg:decide ((k:Int)<(k:Int))=false:=sG;obtain⟨v6,E⟩:=a2;obtain⟨a,f⟩:∃y,(s'.lh k).4=y:=⟨_,rfl⟩;rw[f]at aa;have ba:a.length<=500000000:=by have Q:=(eX.bd C.gs).2.2.2.2;rw[f]at Q;omega
  have az:Hid (Ok s'.pass n0 (N'+13*k)):=by unfold Hid CS.pass;rw[a6.out];exact C.sub (λz hz=>List.mem_of_mem_drop hz) (by rw[List.length_drop];exact Nat.sub_le _ _)
  clear C;obtain⟨g5,i,x,c5,bi,a7⟩:=E.ones (k:=5) dG (show 0<(s'.lh k).4.length by rw[f];omega);have r:rN b (s'.lh k) 5=a.length:=by show(s'.lh k).4.length=_;rw[f]
  have ac:rX b (s'.lh k) 5=a.flatMap fG:=by show(s'.lh k).4.flatMap fG=_;rw[f]
  rw[r]at c5 x;rw[ac]at a7;have b2:a.length<=i/\i<=maxLen:=by
   have Q:=E.row 5 dG;rw[x,r]at Q;rcases Q.2 with⟨h8,_⟩|⟨g,c,b7,e1,_,_,e4,e5,_⟩;·cases h8
   ·cases e1;exact⟨e4,e5⟩
  have X:∀l:List (Int×AG.Ms),(l.flatMap fG).length=l.length*2:=λl=>wO fG 2 zR l;have ao:∀(l:List (Int×AG.Ms)) u,u∈l.flatMap fG->u.oneCell'=true:=by intro l u S;obtain⟨z,_,hz⟩:=List.mem_flatMap.1 S;simp[fG]at hz;rcases hz with rfl|rfl<;>rfl
  have ap:∀(j:Nat) (u:Value),((a.drop k).flatMap fG)[j]?=Y u->(a.flatMap fG)[k*2+j]?=Y u:=by
   intro j u S;have e:a.flatMap fG=(a.take k).flatMap fG++(a.drop k).flatMap fG:=by rw[←List.flatMap_append,List.take_append_drop]
   have aZ:((a.take k).flatMap fG).length=k*2:=by rw[X,List.length_take,Nat.min_eq_left oG]
   rw[e,List.getElem?_append_right oG,aZ,show k*2+j-k*2=j by omega];exact S
  have ag:=dF E;have aL:=dF F;have aG:=dF D;have aN:=dF a7;have aj:=dF X;have ae:=dF ao;have aF:=dF ap;have aH:=dF f;obtain⟨W6,aA⟩:∃y,y=wr:=⟨_,rfl⟩;subst aA;clear E F D a7 X ao ap f r ac x HC L O;by_cases b5:i=k;focus
   have aS:Hid (a.drop k=[]):=List.drop_eq_nil_of_le oG
   go_wp2_with(at_builtin;go_loud (refine wpList_append_own _ rfl _ _ 60 rfl W6.1.size 174 i0 (.agg #[I 0,.string ⟨#[]⟩]) 2 24 underlying60 au ah ax an rfl dG (J Z 0 0) 0 [] rfl ?c0 ⟨g5,0,Z⟩ (a.length - k) 0 ((a.drop k).flatMap fG) eG ?c1 ?c2 ?c3 ?c4 ?c5 ?c6 ?_))
   case c0=>exact World.ownsRow_nil _ _ _ _
   case c1=>rw[aj.out,List.length_drop]
   case c2=>intro j u S;rw[aS.out]at S;simp at S
   case c3=>exact ae.out _
   case c4=>unfold maxLen;omega
   case c5=>omega
   case c6=>exact Nat.le_refl _
  rotate_left;focus
   go_wp2_with(at_builtin;go_loud (refine wpList_append_own _ rfl _ _ 60 rfl W6.1.size 174 i0 (.agg #[I 0,.string ⟨#[]⟩]) 2 24 underlying60 au ah ax an rfl dG (J Z 0 0) 0 [] rfl ?c0 ⟨g5,k*2,Z⟩ (a.length - k) (i - k) ((a.drop k).flatMap fG) eG ?c1 ?c2 ?c3 ?c4 ?c5 ?c6 ?_))
   case c0=>exact World.ownsRow_nil _ _ _ _
   case c1=>rw[aj.out,List.length_drop]
   case c2=>intro j u S;rw[Go.WideShapes.add_plain];exact aN.out _ u (aF.out j u S)
   case c3=>exact ae.out _
   case c4=>unfold maxLen;omega
   case c5=>omega
   case c6=>exact Nat.le_refl _
  all_goals
   intro v1 w1 W p _
   obtain⟨a1,aU,rfl⟩:=eK W
   have a8:Bw W6 w1:=⟨p.os,p.tape,p.output,p.size,λg hg=>p.block g hg (by simp[Value.ownBlock])⟩
   have a9:w1.ownsRow W6.1.size 174 2 (J a1 (a.length - k) aU) (a.drop k).length ((a.drop k).flatMap fG):=by
    have e:(a.drop k).length=a.length - k:=sG
    rw[e];simpa using W
   have ad:=FV (s:=s'.lh k) (n:=k) ag a8 (by rw[aH.out];exact a9)
   have V:dI w1 Wc (jS v6 (s'.lh k).nb true) 63:=ag.blk.later a8
   have aJ:=V.cell 5;have b9:=V.free 5;simp at aJ
   have ab:=dF ad
   clear W a9 p a8 ad V
   go_wp2_with fail
   go_roundw
   case rel=>exact⟨m2,oG,by rw[aW.out],b,t'+k,s'.pass,N'+13*k,oG,⟨_,by show dU _ _ _ _ _ _ _ s'.pass;unfold CS.pass;rw[a6.out];have Q:=ab.1;exact Q⟩,aL,⟨aR,az⟩,aD,by rw[aV.out];omega,aG.trans ab.2⟩
   case measure=>simp[intOf];omega
section
variable {s:CS} {n N:Nat}
def FZ:∀(M:Nat) (s:CS) {x':Int->AG.Nd} {c:List (Int×AG.Ms)},Qs s n->AG.RunA (n:Int) M (s.xf,s.4) (x',c)->CS.cnt M s=AG.cntA M (s.xf,s.4)
 |0,_,_,_,_,_=>rfl
 |M+1,s,x',c,h,hr=>by
  by_cases a:s.4.length=0;·rw[yZ a];exact(if_pos a).symm
  ·rcases hr with⟨e,_⟩|⟨e,j,g,b⟩;·exact absurd (by rw[show s.4=[] from e];rfl) a
   ·obtain⟨d,p2,i,f⟩:=FE h g;have b:AG.RunA (n:Int) M (s.pass.xf,s.pass.4) (x',c):=by rw[d,p2];exact b
    rw[zA a,FZ M s.pass f b,d,p2];exact Eq.symm (show(if s.4.length=0 then 0 else s.4.length+AG.cntA M (AG.passA s.xf s.4))=_ from if_neg a)
def i5.still{k:Nat}(h:i5 s n k N)(e:k<n)(c:(s.nd k).res=[])(a:∀j,j<n->(s.nd j).d.ep<s.hi.length):eX s n N:=by obtain⟨sn,g,u,pend,h⟩:=h;have b:=h.1.res (j:=(k:Int)) oG oG;rw[eE,if_pos rfl,c]at b;subst b;refine⟨sn,g,u,λl=>⟨h.1.free (λj f i=>?_) _,h.ns,h.kn,h.bd,h.nt,h.bi⟩⟩;have:=a j.toNat oG;rw[←eE,show((j.toNat:Nat):Int)=j by omega]at this;exact this
structure Cal(s:CS)(n N:Nat):Prop where
 ok:Ok s n N
 nt:s.4=[]
 q:∀k:Int,0<=k->k<(n:Int)->AG.Qn (n:Int) k (s.xf k).d.ep (s.xf k)
def RC(c:s.ns.length=n)(b:∀k:Int,0<=k->k<(n:Int)->AG.Qn (n:Int) k (s.xf k).d.ep (s.xf k)):Qs s n:=⟨c,λk e=>by
 have a:=b (k:Int) oG oG
 rw[eE]at a
 exact⟨by rw[a.on];exact Int.le_refl _,a.rs⟩⟩
def Cal.qs(h:Cal s n N):Qs s n:=RC h.ok.gs.nn.2 h.q
def Ok.top(h:Ok s n N):(∀j:Int,0<=j->j<(n:Int)->0<=(s.xf j).d.ep/\(s.xf j).d.ep<s.hi.length)/\∃j:Int,(0<=j/\j<(n:Int))/\(s.xf j).d.ep=(s.hi.length:Int) - 1:=by
 obtain⟨sn,g,u,b⟩:=h.gs;have a:∀j:Int,0<=j->j<(n:Int)->0<=(s.xf j).d.ep/\(s.xf j).d.ep<s.hi.length:=λj c e=>by have f:=eX.lt b (j:=j.toNat) oG;rw[←eE,show((j.toNat:Nat):Int)=j by omega]at f;exact⟨((b 0).1.1.own c e).i0.2.2.2.2,f⟩
 refine⟨a,?_⟩;have i:=(b 0).1.hi0;obtain⟨_,j,c,e,k⟩:=(b 0).1.hik (s.hi.length-1) oG;have:=(a j c e).2;exact⟨j,⟨c,e⟩,oG⟩
def oQ(s:CS)(n:Nat)(j:Nat):List (Int×AG.Ms):=((List.range j).map Int.ofNat).flatMap λi=>(AG.oth (n:Int) i).map λk=>(k,AG.m1 i (s.xf i).d.ep 0)
def K7(s:CS)(n j:Nat):oQ s n (j+1)=oQ s n j++(AG.oth (n:Int) (j:Int)).map λk=>(k,AG.m1 (j:Int) (s.xf (j:Int)).d.ep 0):=by unfold oQ;rw[List.range_succ,List.map_append,List.flatMap_append];congr 1;simp
def DE(s:CS)(n:Nat):oQ s n n=(AG.prs (n:Int)).map λz=>(z.2,AG.m1 z.1 (s.xf z.1).d.ep 0):=by unfold oQ AG.prs;rw[List.map_flatMap,Int.toNat_natCast];congr 1;funext i;rw[List.map_map];rfl
def CS.ask(s:CS)(n j:Nat):CS:={s with net:=oQ s n j}
def Cal.ask(h:Cal s n N){j N':Nat}(c:j<n)(b:Ok (s.ask n j) n N')(g:eR ((s.ask n j).nd j).2 (((s.ask n j).nd j).gq true).2):(s.ask n j).put j (((s.ask n j).nd j).gq true)=s.ask n (j+1)/\Ok (s.ask n (j+1)) n (N'+12):=by
 have q:=h.q (j:Int) oG oG;rw[eE]at q;have l:(s.ask n j).nd j=s.nd j:=rfl;have o:((s.ask n j).nd j).gq true=(s.nd j,(AG.oth (n:Int) (j:Int)).map λk=>(k,AG.m1 (j:Int) (s.xf (j:Int)).d.ep 0)):=by rw[l,q.gq,eE]
 have e:(s.ask n j).put j (((s.ask n j).nd j).gq true)=s.ask n (j+1):=by rw[o];unfold CS.put CS.ask;rw[K7];dsimp only;rw[FA]
 refine⟨e,?_⟩;have f:=b.gs.gq c true;rw[e]at f;refine⟨f.still c q.rs (λi hi=>?_),?_,λi hi=>?_⟩;·have a:=(h.ok.top.1 (i:Int) oG oG).2;rw[eE]at a;exact a
 ·have a:=b.ou;have p:(s.ask n (j+1)).4=(s.ask n j).4++(((s.ask n j).nd j).gq true).2:=by rw[←e];rfl
  rw[p];have m:=(h.ok.gs.ids c).2.1;rw[l,m]at g;exact a.app g
 ·have a:0<=(s.ask n (j+1)).3[i]/\(s.ask n (j+1)).3[i]<=(N':Int):=b.3 i hi;omega
def Cal.round(h:Cal s n N):jD 9 (s.ask n n)/\CS.cnt 9 (s.ask n n)<=40/\∀{N':Nat},Ok (CS.gu 9 (s.ask n n)) n N'->Cal (CS.gu 9 (s.ask n n)) n N'/\kC s (CS.gu 9 (s.ask n n))/\(CS.gu 9 (s.ask n n)).hi.length=s.hi.length/\(AG.Az (n:Int) s.xf->AG.Az (n:Int) (CS.gu 9 (s.ask n n)).xf)/\∀r:Nat,(∀k:Int,0<=k->k<(n:Int)->(s.xf k).d.ep=(s.hi.length:Int) - 1∨(r:Int)<=(s.xf k).d.ep)->∀k:Int,0<=k->k<(n:Int)->((CS.gu 9 (s.ask n n)).xf k).d.ep=(s.hi.length:Int) - 1∨(r:Int)+1<=((CS.gu 9 (s.ask n n)).xf k).d.ep:=by
 obtain⟨sn,g,u,D⟩:=h.ok.gs;have hn:=h.ok.gs.nn.1;have E:=(D 0).bi;have sq:=(D 0).1.1.sq E h.q;have F:=AG.prs_len (n:=(n:Int)) oG;obtain⟨d,O,r2,L⟩:=sq.round (l:=AG.prs (n:Int)) (λz f=>AG.prs_mem.1 f) (λb=>by rw[b]at F;simp at F) oG 7;have qs:Qs (s.ask n n) n:=⟨h.qs.ns,h.qs.q⟩;have H:AG.RunA (n:Int) 9 ((s.ask n n).xf,(s.ask n n).4) (AG.jw u.R s.xf d,[]):=by show AG.RunA (n:Int) (7+2) (s.xf,oQ s n n) _;rw[DE];exact O
 obtain⟨v,q2,V,q4,X⟩:=vN 9 (s.ask n n) qs H;have U:CS.cnt 9 (s.ask n n)<=40:=by rw[FZ 9 _ qs H];show AG.cntA (7+2) (s.xf,oQ s n n)<=40;rw[DE,r2];omega
 refine⟨X,U,λ{N'} ho=>?_⟩;have ep:∀k:Int,0<=k->k<(n:Int)->((CS.gu 9 (s.ask n n)).xf k).d.ep=if d k=true then(s.xf k).d.ep+1 else(s.xf k).d.ep:=λk a k1=>by rw[v];exact(sq.jw d a k1).2
 have x:∀k:Int,0<=k->k<(n:Int)->(d k=true↔∃j:Int,(0<=j/\j<(n:Int))/\(s.xf k).d.ep<(s.xf j).d.ep):=λk a k1=>by
  rw[L];constructor;·rintro⟨z,f,rfl,e⟩;exact⟨z.2,(AG.oth_mem.1 (AG.prs_mem.1 f).2).1,e⟩
  ·rintro⟨j,hj,e⟩;exact⟨(k,j),AG.prs_mem.2 ⟨⟨a,k1⟩,AG.oth_mem.2 ⟨hj,λb=>by have b:j=k:=b;subst b;omega⟩⟩,rfl,e⟩
 obtain⟨m,j,⟨B,t⟩,W⟩:=h.ok.top;obtain⟨p,K,⟨o,C⟩,a0⟩:=ho.top;have Q:∀k:Int,0<=k->k<(n:Int)->((CS.gu 9 (s.ask n n)).xf k).d.ep<=(s.hi.length:Int) - 1:=λk a k1=>by
  rw[ep k a k1];have:=(m k a k1).2;split
  ·next c=>
   obtain⟨i,⟨w,A⟩,hi⟩:=(x k a k1).1 c;have:=(m i w A).2;omega
  ·omega
 have y:∀k:Int,0<=k->k<(n:Int)->(s.xf k).d.ep=(s.hi.length:Int) - 1->((CS.gu 9 (s.ask n n)).xf k).d.ep=(s.hi.length:Int) - 1:=λk a k1 S=>by rw[ep k a k1,if_neg,S];intro c;obtain⟨i,⟨w,A⟩,hi⟩:=(x k a k1).1 c;have:=(m i w A).2;omega
 refine⟨⟨ho,q2,λk a k1=>by rw[v];exact(sq.jw d a k1).1⟩,V,?_,λf=>by rw[v];exact f.round E oG d,λr hR k a k1=>?_⟩;·have h1:=Q K o C;have M:=(p j B t).2;rw[y j B t W]at M;omega
 ·rcases hR k a k1 with b|b;·exact .inl (y k a k1 b)
  ·by_cases c:(s.xf k).d.ep=(s.hi.length:Int) - 1;·exact .inl (y k a k1 c)
   ·right;have:=(m k a k1).2;rw[ep k a k1,if_pos ((x k a k1).2 ⟨j,⟨B,t⟩,oG⟩)];omega
end
def CS.lr(s:CS):eM:=s.hi.getD (s.hi.length-1) ⟨0,0,0⟩
section
variable {w:World} {s:CS} {Wc base n t N:Nat}
def St(w:World)(Wc base n t N:Nat)(s:CS):Prop:=∃hs,hs.length=n/\CA w Wc base t true hs s/\Qt hs/\Ok s n N
def St.ok(h:St w Wc base n t N s):Ok s n N:=by obtain⟨_,_,_,_,h⟩:=h;exact h
def St.lo(h:St w Wc base n t N s):1<=s.nb:=by obtain⟨_,_,⟨_,h⟩,_⟩:=h;exact h.nb.1
def St.later(h:St w Wc base n t N s){w':World}(d:Bw w w'):St w' Wc base n t N s:=by obtain⟨hs,c,⟨v,e⟩,b,a⟩:=h;exact⟨hs,c,⟨v,e.later d⟩,b,a⟩
def St.jf(h:St w Wc base n t N s):base<=w.1.size:=by obtain⟨_,_,⟨_,a⟩,_⟩:=h;exact a.jf
def yG{i:Nat}(h:i<n):eV (i:Int)%(n:Int)=(i:Int):=by unfold eV;rw[if_neg oG];exact Int.emod_eq_of_lt oG oG
def St.nd(hLO:i8)(hUO:i6)(h:St w Wc base n t N s)(r:t<=20000000):∃a c,w.cell? ⟨Wc,0,Z⟩=Y (J (Y ⟨a,0,Z⟩) n c)/\∀i,i<n->∃K,w.cell? ⟨a,i,Z⟩=Y (P0 (Y ⟨K,0,Z⟩))/\Calls pG 26 #[P0 (Y ⟨K,0,Z⟩)] w (λq w'=>q=.returned (bool (s.nd i).act)/\St w' Wc base n t N s/\Below base w w')/\Calls pG 27 #[P0 (Y ⟨K,0,Z⟩)] w (λq w'=>(∃a c,q=.returned (J a (s.nd i).d.recs.length c))/\St w' Wc base n t N s/\Below base w w'):=by
 obtain⟨hs,rfl,⟨v,e⟩,o,f⟩:=h;have y:=f.gs.nn;obtain⟨g,c,z,x,A,u⟩:=e.ones (k:=0) dG (show 0<hs.length by omega);refine⟨g,c,x,λi hi=>⟨hs[i].Kn,u i _ (show(rX hs s 0)[i]?=_ from mW hi (λh=>P0 (Y ⟨h.Kn,0,Z⟩))),?_,?_⟩⟩;·refine((e.host i hi oG).om hLO hUO).mono ?_;rintro q w' ⟨rfl,l,j⟩;obtain⟨b,m⟩:=e.iw hi oG l j ⟨rfl,rfl,rfl⟩;rw[show({s with ns:=s.ns.set i (s.ns[i]' oG)}:CS)=s by rw[List.set_getElem_self]]at b;exact⟨by rw[CS.jy oG],⟨hs,rfl,⟨_,b⟩,o,f⟩,m⟩
 ·refine((e.host i hi oG).recs hLO hUO r).mono ?_;rintro q w' ⟨v,rfl,p,l,j⟩;obtain⟨a,c,rfl⟩:=eK p;obtain⟨b,m⟩:=e.iw hi oG l j ⟨rfl,rfl,rfl⟩;rw[show({s with ns:=s.ns.set i (s.ns[i]' oG)}:CS)=s by rw[List.set_getElem_self]]at b;exact⟨⟨a,c,by rw[CS.jy oG]⟩,⟨hs,rfl,⟨_,b⟩,o,f⟩,m⟩
def St.hi(h:St w Wc base n t N s)(p:N<=500000000):0<s.hi.length/\s.hi.length<=500000000/\∃a c,a<w.1.size/\w.cell? ⟨Wc,9,Z⟩=Y (J (Y ⟨a,0,Z⟩) s.hi.length c)/\w.rangeAt a ((s.hi.length-1)*3) [I s.lr.E,I s.lr.P,I s.lr.S]:=by
 obtain⟨hs,rfl,⟨v,l⟩,q,b⟩:=h;obtain⟨d,j,_,u⟩:=b.top;have e:0<s.hi.length:=by have:=d j oG oG;omega
 have o:=(eX.bd b.gs).2.2.2.1;obtain⟨g,c,r,m,f,i⟩:=l.ones (k:=9) dG (show 0<s.hi.length by omega);refine⟨e,oG,g,c,f,m,pK (rs:=s.hi) i (s.hi.length-1) oG s.lr ?_⟩;unfold CS.lr;rw[List.getD_eq_getElem?_getD,List.getElem?_eq_getElem oG];rfl
def St.rs(h:St w Wc base n t N s)(u:N<=500000000):s.rs.length<=500000000/\w.cell? ⟨Wc,11,Z⟩=Y (bool true)/\∃a c,w.cell? ⟨Wc,7,Z⟩=Y (J a s.rs.length c)/\∀k r,s.rs[k]?=Y r->∃g,a=Y ⟨g,0,Z⟩/\w.cell? ⟨g,k*5+2,Z⟩=Y (I r.v)/\w.cell? ⟨g,k*5+3,Z⟩=Y (I r.e):=by obtain⟨hs,rfl,⟨v,b⟩,x,j⟩:=h;have q:=eX.bd j.gs;obtain⟨a,c,e⟩:=eK (b.row 7 dG);have i:=b.cell (k:=7) dG;rw[e]at i;refine⟨oG,by have m:=b.blk.cell 11;simpa using m,a,c,i,λk r l=>?_⟩;obtain⟨d,rfl⟩:=List.getElem?_eq_some_iff.1 l;obtain⟨g,p,o,z,y,f⟩:=b.ones (k:=7) dG (show 0<s.rs.length by omega);rw[o]at e;cases e;exact⟨g,rfl,f _ _ (lY dO.cells 5 zQ s.rs k d 2 dG),f _ _ (lY dO.cells 5 zQ s.rs k d 3 dG)⟩
section
def St.mv(hLO:i8)(hUO:i6)(hSO:fB)(hBW:fH)(hBS:fI)(h:St w Wc base n t N s){i kk:Nat}{K A B:Int}(a:i<n)(g:kk<5)(m:K=(kk:Int))(v:A=(i:Int))(b:i_ B)(e:t+2<=20000000)(u:N+100<=500000000):Calls pG 24 #[P0 (Y ⟨Wc,0,Z⟩),.agg #[I K,I A,I B]] w λq w'=>q=.returned (.tuple #[])/\St w' Wc base n (t+1) (N+40) (s.ja i n B kk)/\Below base w w':=by obtain⟨hs,rfl,r,k,c⟩:=h;have x:=c.gs.nn;subst v;refine(EK hLO hUO hSO hBW hBS Wc base t hs s N i kk K (i:Int) B w r c a (yG a) oG (by rw[m];exact yG (n:=10) oG) oG b oG e u).mono ?_;rintro q w' ⟨rfl,hs',s',o,d,f,l,_,p⟩;obtain⟨j,rfl⟩:=p k g;exact⟨rfl,⟨hs',o,d,j,f⟩,l⟩
def St.all(hLO:i8)(hUO:i6)(hSO:fB)(hBW:fH)(hBS:fI)(h:St w Wc base n t N s)(a:jD 9 s)(l:t+9002<=20000000)(o:N+117100<=500000000):Calls pG 25 #[P0 (Y ⟨Wc,0,Z⟩),I 9] w λq w'=>q=.returned (.tuple #[])/\St w' Wc base n (t+9000) (N+117000) (CS.gu 9 s)/\Below base w w':=by obtain⟨hs,f,k,j,i⟩:=h;have m:=FF 9 s a;refine(FG hLO hUO hSO hBW hBS Wc base t n N hs s 9 w k j i a dG oG oG).mono ?_;rintro q w' ⟨rfl,hs',b,⟨v,e⟩,g,d,c⟩;exact⟨rfl,⟨hs',b.trans f,⟨v,e.up oG⟩,d,c.up oG⟩,g⟩
end
end
def OW{S:Int}{i n:Nat}(hS:0<=S/\S<=31)(hi:i<n)(c:n<=5)(b:AG.bit S (i:Int)):kI S (eV 0%32) i n=2^i:=by
 have a:∀(S:Fin 32) (i:Fin 5) (n:Fin 6),i.val<n.val->(S.val:Int)/2^i.val%2=1->kI (S.val:Int) (eV 0%32) i.val n.val=2^i.val:=by decide +kernel
 have:=a ⟨S.toNat,oG⟩ ⟨i,oG⟩ ⟨n,oG⟩ hi;simp only[show((S.toNat:Nat):Int)=S by omega]at this;exact this b
section
variable {s s':CS} {n N N':Nat} {E:Int}
structure iZ(s:CS)(n N:Nat)(E:Int):Prop where
 jc:Cal s n N
 ep:∀k:Int,0<=k->k<(n:Int)->(s.xf k).d.ep=E
def iZ.q(h:iZ s n N E){k:Int}(a:0<=k)(k1:k<(n:Int)):AG.Qn (n:Int) k E (s.xf k):=by have:=h.jc.q k a k1;rw[h.ep k a k1]at this;exact this
def Ok.pq(h:Ok s n N)(e:∀k:Int,0<=k->k<(n:Int)->(s.xf k).d.ep=E):(s.hi.length:Int)=E+1/\(∀k:Int,0<=k->k<(n:Int)->(s.xf k).d.rc E=s.lr)/\(s.lr.E=E/\0<=s.lr.S/\s.lr.S<=31)/\(∃i:Nat,i<n/\AG.bit s.lr.S (i:Int))/\0<=E:=by
 have w:=h.gs.nn.1;obtain⟨o,j,⟨b,a⟩,r⟩:=h.top;obtain⟨sn,g,u,f⟩:=h.gs;have I:=(f 0).1.1;rw[e j b a]at r;have c:=(o j b a).1;rw[e j b a]at c;have v:=(f 0).1.hi0;have q:=((f 0).1.hik (s.hi.length-1) oG).1;have l:s.lr=u.R E:=by unfold CS.lr;rw[List.getD_eq_getElem?_getD,List.getElem?_eq_getElem oG];show s.hi[s.hi.length-1]=_;rw[q,show((s.hi.length-1:Nat):Int)=E by omega]
 rw[l];refine⟨oG,λk m k1=>(I.own m k1).rr c (by rw[e k m k1];exact Int.le_refl _),⟨I.qa b a c (by rw[e j b a];exact Int.le_refl _),I.mr b a c (by rw[e j b a];exact Int.le_refl _)⟩,?_,c⟩;obtain⟨i,t,x,p⟩:=I.some b a c (by rw[e j b a];exact Int.le_refl _);exact⟨i.toNat,oG,by rw[show((i.toNat:Nat):Int)=i by omega];exact p⟩
def iZ.sy(h:iZ s n N E):AG.Sy (n:Int) E s.lr (10*(N:Int)) s.xf:=by
 have c:=h.jc.ok.gs.nn.1;have l:=(h.jc.ok.pq h.ep).2.1;obtain⟨sn,g,u,a⟩:=h.jc.ok.gs;have S:=(a 0).1.1.sy (a 0).bi (λk b k1=>h.q b k1);have e:u.R E=s.lr:=by rw[←l 0 oG oG];exact(S.rc 0 oG oG).symm
 rw[e]at S;exact S
def vW(h:Qs s n)(b:s.4=[]){k:Nat}(d:k<n){r:AG.Nd×List (Int×AG.Ms)}(g:r.1.on<=0/\r.1.res=[]){x':Int->AG.Nd}(a:AG.RunA (n:Int) 9 (AG.upd s.xf (k:Int) r.1,r.2) (x',[])):jD 9 ((s.put k r).look k)/\(CS.gu 9 ((s.put k r).look k)).xf=x'/\(CS.gu 9 ((s.put k r).look k)).4=[]/\kC s (CS.gu 9 ((s.put k r).look k)):=by obtain⟨f,p2,c,e⟩:=zI h d g;rw[b,List.nil_append]at p2;obtain⟨i,l,j,o,m⟩:=vN 9 _ e (by rw[f,p2];exact a);exact⟨m,i,l,c.trans j⟩
structure qR(s s':CS)(n:Nat)(E:Int)(v:AG.V):Prop where
 nt:s'.4=[]
 rst:kC s s'
 le:∀k:Int,0<=k->k<(n:Int)->AG.Le (n:Int) k E v (s.xf k) (s'.xf k)
def mD(s:CS)(n:Nat)(E:Int):Prop:=∀k:Int,0<=k->k<(n:Int)->AG.vt (s.xf k) E=⟨0,0,0,0⟩
def qR.jc{v:AG.V}(m:qR s s' n E v)(h:iZ s n N E)(b:Ok s' n N'):iZ s' n N' (E+1)/\s'.lr=⟨E+1,v.1,v.2⟩/\mD s' n (E+1):=by
 have c:=b.gs.nn.1;have ep:∀k:Int,0<=k->k<(n:Int)->(s'.xf k).d.ep=E+1:=λk a k1=>(m.le k a k1).q.ep;refine⟨⟨⟨b,m.nt,λk a k1=>by rw[ep k a k1];exact(m.le k a k1).q⟩,ep⟩,?_,λk a k1=>?_⟩;·rw[←(b.pq ep).2.1 0 oG oG];exact(m.le 0 oG oG).rc
 ·rw[(m.le k a k1).vt _ oG];exact h.sy.fr k a k1 _ oG
structure kQ(s:CS)(n N i:Nat)(E c:Int):Prop where
 jc:iZ s n N E
 lr:s.lr=⟨E,(i:Int)+1,2^i⟩
 fr:mD s n E
 act:(s.nd i).act=true
 la:(s.nd i).d.last=c
 se:∀k:Nat,k<n->k≠i->(s.nd k).d.seen<E
def qR.jh{i:Nat}(m:qR s s' n E ((i:Int)+1,2^i))(h:iZ s n N E)(hi:i<n)(d:Ok s' n N'):kQ s' n N' i (E+1) 0:=by obtain⟨e,c,c3⟩:=m.jc h d;have l:=m.le (i:Int) oG oG;rw[eE s']at l;refine⟨e,c,c3,by rw[l.ac];simp,by rw[l.la,if_pos rfl],λk f a=>?_⟩;have l:=m.le (k:Int) oG oG;rw[eE s']at l;rw[l.se,if_neg (λb=>a (by have b:(i:Int)+1=(k:Int)+1:=b;omega))];have:=h.sy.se (k:Int) oG oG;omega
def iZ.pm(h:iZ s n N E){i:Nat}(hi:i<n)(f:AG.bit s.lr.S (i:Int)):s.ja i n 0 0=(s.put i (((s.xf (i:Int)).eu (2^(i:Int).toNat) true).1,((s.xf (i:Int)).eu (2^(i:Int).toNat) true).2.1)).look i:=by
 have j:=h.jc.ok.gs.nn.1;obtain⟨a1,c,g,k,l⟩:=h.jc.ok.pq h.ep;have e:((s.nd i).d.recs.getD ((s.nd i).d.recs.length-1) ⟨0,0,0⟩)=s.lr:=by have a:=c (i:Int) oG oG;have b:=h.ep (i:Int) oG oG;rw[eE]at b a;rw[←a];unfold AG.Du.rc;rw[←b];unfold AG.Du.ep;rw[show(((s.nd i).d.recs.length:Int) - 1).toNat=(s.nd i).d.recs.length-1 by omega]
 show(s.put i (((s.nd i).eu (kI ((s.nd i).d.recs.getD ((s.nd i).d.recs.length-1) ⟨0,0,0⟩).S (eV 0%32) i n) true).1,_)).look i=_;rw[e,OW g.2 hi j.2 f,eE,Int.toNat_natCast]
def iZ.try(h:iZ s n N E){i:Nat}(hi:i<n)(m:AG.bit s.lr.S (i:Int))(hN:N<=10000000000):jD 9 (s.ja i n 0 0)/\((∃v,AG.Vg (n:Int) E s.lr s.xf ((i:Int)+1,2^i) v/\qR s (CS.gu 9 (s.ja i n 0 0)) n E v)∨ (¬mD s n E/\(CS.gu 9 (s.ja i n 0 0)).4=[]/\(∀k:Int,0<=k->k<(n:Int)->AG.Wy (s.xf k) ((CS.gu 9 (s.ja i n 0 0)).xf k))/\∀b,jD 9 ((CS.gu 9 (s.ja i n 0 0)).ja i n b 4)/\∃v,qR s (CS.gu 9 ((CS.gu 9 (s.ja i n 0 0)).ja i n b 4)) n E v)):=by
 have W:=h.jc.ok.gs.nn.1;obtain⟨a1,X,A,V,U⟩:=h.jc.ok.pq h.ep;have O:=(eX.bd h.jc.ok.gs).2.2.2.1;obtain⟨o,u⟩:=h.sy.try (i:=(i:Int)) oG oG A m oG oG;rw[h.pm hi m];have go:=λ{x'} hrun=>vW h.jc.qs h.jc.nt hi (r:=(((s.xf (i:Int)).eu (2^(i:Int).toNat) true).1,((s.xf (i:Int)).eu (2^(i:Int).toNat) true).2.1)) o (x':=x') hrun;rcases u with⟨q,v,e,g,j⟩|⟨p,e,⟨k,⟨a,k1⟩,g⟩,j,x,q,v,C,R,z⟩;·obtain⟨l,c,d,f⟩:=go e;refine⟨l,.inl ⟨v,by rw[Int.toNat_natCast]at g;exact g,d,f,λk a k1=>by rw[c];exact j k a k1⟩⟩
 ·obtain⟨l,c,d,f⟩:=go e;have t:Qs (CS.gu 9 ((s.put i (((s.xf (i:Int)).eu (2^(i:Int).toNat) true).1,((s.xf (i:Int)).eu (2^(i:Int).toNat) true).2.1)).look i)) n:=by obtain⟨D,p2,Q,w⟩:=zI h.jc.qs hi (r:=(((s.xf (i:Int)).eu (2^(i:Int).toNat) true).1,((s.xf (i:Int)).eu (2^(i:Int).toNat) true).2.1)) o;rw[h.jc.nt,List.nil_append]at p2;exact(vN 9 _ w (by rw[D,p2];exact e)).2.2.2.1
  refine⟨l,.inr ⟨λH=>g (H k a k1),d,λk a k1=>by rw[c];exact j k a k1,λb=>?_⟩⟩;generalize CS.gu 9 ((s.put i (((s.xf (i:Int)).eu (2^(i:Int).toNat) true).1,((s.xf (i:Int)).eu (2^(i:Int).toNat) true).2.1)).look i)=s2 at c d f t⊢;have B:s2.ja i n b 4=(s2.put i ((s2.nd i).gq true)).look i:=rfl;have L:s2.nd i=p (i:Int):=by rw[←eE,c]
  rw[B,L];obtain⟨y,F,M,K⟩:=vW t d hi (r:=(p (i:Int)).gq true) x (x':=q) (by rw[c];exact C);exact⟨y,v,M,f.trans K,λk a k1=>by rw[F];exact z k a k1⟩
def iZ.news(h:iZ s n N E){i:Nat}(hi:i<n)(b:Int):jD 9 (s.ja i n b 4)/\(CS.gu 9 (s.ja i n b 4)).xf=s.xf/\(CS.gu 9 (s.ja i n b 4)).4=[]/\kC s (CS.gu 9 (s.ja i n b 4)):=by
 have D:=h.jc.ok.gs.nn.1;obtain⟨sn,g,u,m⟩:=h.jc.ok.gs;have sq:=(m 0).1.1.sq (m 0).bi h.jc.q;have q:=h.jc.q (i:Int) oG oG;have t:∀z∈(AG.oth (n:Int) (i:Int)).map (λk=>((i:Int),k)),(0<=z.1/\z.1<(n:Int))/\z.2∈AG.oth (n:Int) z.1:=λz a=>by obtain⟨k,y,rfl⟩:=List.mem_map.1 a;exact⟨by show 0<=(i:Int)/\(i:Int)<n;omega,y⟩
 have B:(n=2∨n=3∨n=4∨n=5)/\(i=0∨i=1∨i=2∨i=3∨i=4):=oG;have l:0<(AG.oth (n:Int) (i:Int)).length/\(AG.oth (n:Int) (i:Int)).length<=1000:=by rcases B with⟨rfl|rfl|rfl|rfl,rfl|rfl|rfl|rfl|rfl⟩<;>decide
 obtain⟨d,p,_,w⟩:=sq.round t (λA=>by have:=List.map_eq_nil_iff.1 A;rw[this]at l;simp at l) (by rw[List.length_map];exact l.2) 7;have e:AG.jw u.R s.xf d=s.xf:=by funext k;unfold AG.jw;rw[if_neg];intro c;obtain⟨z,a,rfl,f⟩:=(w k).1 c;have a:=t z a;have o:=(AG.oth_mem.1 a.2).1;rw[h.ep _ a.1.1 a.1.2,h.ep _ o.1 o.2]at f;exact Int.lt_irrefl _ f
 rw[e,List.map_map]at p;have x:(s.xf (i:Int)).gq true=(s.xf (i:Int),(AG.oth (n:Int) (i:Int)).map λj=>(j,AG.m1 (i:Int) (s.xf (i:Int)).d.ep 0)):=q.gq;have C:s.ja i n b 4=(s.put i ((s.xf (i:Int)).gq true)).look i:=by rw[eE];rfl
 rw[C,x];have v:AG.upd s.xf (i:Int) (s.xf (i:Int))=s.xf:=AG.mq _ _ _ rfl;exact vW h.jc.qs h.jc.nt hi (r:=(s.xf (i:Int),(AG.oth (n:Int) (i:Int)).map λj=>(j,AG.m1 (i:Int) (s.xf (i:Int)).d.ep 0))) ⟨Int.le_of_eq q.on,q.rs⟩ (by show AG.RunA (n:Int) 9 (AG.upd s.xf (i:Int) (s.xf (i:Int)),_) _;rw[v];exact p)
end
section
variable {s s':CS} {n N N' i:Nat} {E c:Int}
structure tZ(s s':CS)(n i:Nat)(E b:Int)(v:Int):Prop where
 rs:∃op,s'.rs=s.rs++[⟨op,s.bl b,v,E,(s.nd i).d.last+1⟩]
 nb:s'.nb=s.nb
 ops:s'.ops.length=s.ops.length+1
 bk:(s'.nd i).d.bk=λa=>if a=s.bl b then v else(s.nd i).d.bk a
def kQ.op(p:kQ s n N i E c)(hi:i<n)(hc:c≠1000000000000)(b:Int)(rd:Bool)(O:1<=s.nb)(hN:N+12<=2000000000){v:Int}(hv:(bif rd then(s.nd i).d.bk (s.bl b) else 1+(s.ops.length:Int))=v):tZ s ((s.oper i b rd true).look i) n i E b v/\∀{N':Nat},Ok ((s.oper i b rd true).look i) n N'->kQ ((s.oper i b rd true).look i) n N' i E (c+1):=by
 have hn:=p.jc.jc.ok.gs.nn.1;have x:i<s.ns.length:=by rw[p.jc.jc.ok.gs.nn.2];exact hi
 have q:=p.jc.q (k:=(i:Int)) oG oG;obtain⟨a1,a2,a3,a4,a5⟩:=p.jc.jc.ok.pq p.jc.ep;have l:=a2 (i:Int) oG oG;rw[eE]at q l;have o:=p.jc.jc.ok.gs.ids hi;have D:(s.nd i).blk (s.bl b)=true:=by unfold AG.Nd.blk CS.bl;rw[o.2.2,decide_eq_true (Int.emod_nonneg _ oG),decide_eq_true (Int.emod_lt_of_pos _ oG)];rfl
 obtain⟨y,V,K,Q,X,o5,A⟩:=AG.one_op q oG p.act (by rw[l,p.lr,Int.toNat_natCast]) (by rw[p.la];exact hc) (v:=v) D;have W:s.jm i b rd true=(y,[],0):=by unfold CS.jm;rw[hv];exact V
 have a:s.oper i b rd true={s with ns:=s.ns.set i y,net:=s.4++[],ops:=s.ops++[s.asd i b ((s.nd i).ops+1) rd false]}:=by unfold CS.oper;rw[W,if_pos rfl]
 have lk:=(p.jc.jc.ok.gs.oper hi b rd true O).lk hi hN;obtain⟨s1,L⟩:∃s1,s1=s.oper i b rd true:=⟨_,rfl⟩;rw[←L]at lk a⊢;have u:s1.xf=AG.upd s.xf (i:Int) y:=pL x (by rw[a]);have h:s1.nd i=y:=by rw[←eE,u,AG.upd_self]
 have M:s1.ns.length=s.ns.length:=by rw[a];exact List.length_set
 have w:(s1.look i).xf=AG.upd s.xf (i:Int) {y with res:=[]}:=by
  have g:(s1.look i).xf=AG.upd s1.xf (i:Int) {s1.nd i with res:=[]}:=pL (by rw[M];exact x) rfl;rw[g,u,h];funext j;by_cases C:j=(i:Int);·subst C;rw[AG.upd_self,AG.upd_self]
  ·rw[AG.upd_ne C,AG.upd_ne C,AG.upd_ne C]
 have e:(s1.look i).nd i={y with res:=[]}:=by rw[←eE,w,AG.upd_self]
 have T:=tL s1 i;have H:(s1.look i).rs=s.rs++[⟨(s.nd i).ops+1,s.bl b,v,E,(s.nd i).d.last+1⟩]:=by
  show(s1.tell i).rs=_;rcases lk.res with g|⟨r,pp,t,S,_⟩;·rw[h,K]at g;simp at g
  ·rw[h,K]at t;have t:(⟨(s.nd i).ops+1,s.bl b,v,E,(s.nd i).d.last+1⟩:dO)=r:=by simpa using t
   have R:s1.rs=s.rs:=by rw[a]
   have U:(s1.tell i).rs=s1.rs++[r]:=by unfold CS.tell;rw[h,K,t];simp only[S]
   rw[U,R,t]
 have z:(s1.look i).4=[]:=by rw[sX,a];show s.4++[]=[];rw[p.jc.jc.nt];rfl
 refine⟨⟨⟨_,H⟩,by show(s1.tell i).nb=_;rw[T.1,a],by show(s1.tell i).ops.length=_;rw[T.2.2.2.1,a];simp,by rw[e];show y.d.bk=_;rw[A]⟩,λ{N'} ho=>?_⟩;have B:∀k:Int,k≠(i:Int)->(s1.look i).xf k=s.xf k:=λk f=>by rw[w,AG.upd_ne f]
 have ep:∀k:Int,0<=k->k<(n:Int)->((s1.look i).xf k).d.ep=E:=λk m k1=>by
  by_cases f:k=(i:Int);·subst f;rw[eE,e];exact Q.ep
  ·rw[B k f];exact p.jc.ep k m k1
 refine⟨⟨⟨ho,z,λk m k1=>?_⟩,ep⟩,?_,λk m k1=>?_,by rw[e];exact X,by rw[e];show y.d.last=_;rw[A];show(s.nd i).d.last+1=_;rw[p.la],λk f F=>?_⟩
 ·rw[ep k m k1];by_cases f:k=(i:Int);·subst f;rw[eE,e];exact Q
  ·rw[B k f];exact p.jc.q m k1
 ·rw[←(ho.pq ep).2.1 (i:Int) oG oG,eE,e,←p.lr,←l];show y.d.rc E=_;rw[A];rfl
 ·by_cases f:k=(i:Int);·subst f;have g:=p.fr (i:Int) m k1;rw[eE]at g⊢;rw[e];unfold AG.vt at*;show dJ y.d.3 E=_;rw[A];exact g
  ·rw[B k f];exact p.fr k m k1
 ·have g:=B (k:Int) oG;rw[eE,eE]at g;rw[g];exact p.se k f F
structure wA(s:CS)(n N i j:Nat)(E:Int):Prop where
 jc:iZ s n N E
 lr:s.lr=⟨E,(i:Int)+1,2^i+2^j⟩
 fr:mD s n E
def kQ.admi(p:kQ s n N i E c)(hi:i<n)(V:c≠1000000000000){j:Nat}(B:j<n)(u:j≠i)(b:Int)(H:eV b%(n:Int)=(j:Int))(O:E<1000000000000)(x:0<=s.nb):jD 9 (s.ja i n b 1)/\kC s (CS.gu 9 (s.ja i n b 1))/\(∀a,0<=a->a<s.nb->((CS.gu 9 (s.ja i n b 1)).nd j).d.bk a=(s.nd i).d.bk a)/\∀{N':Nat},Ok (CS.gu 9 (s.ja i n b 1)) n N'->wA (CS.gu 9 (s.ja i n b 1)) n N' i j (E+1):=by
 have hn:=p.jc.jc.ok.gs.nn.1;have g:=p.jc.jc.ok.gs.ids hi;have m:=p.jc.jc.ok.gs.ids B;obtain⟨a1,a2,z,a4,M⟩:=p.jc.jc.ok.pq p.jc.ep;have A:=AG.fol_two (a:=s.lr) (i:=(i:Int)) (j:=(j:Int)) (by rw[z.1];exact⟨M,O⟩) (by rw[p.lr,Int.toNat_natCast];exact⟨rfl,rfl⟩) oG oG oG;rw[z.1]at A;obtain⟨X,U,F,r2,C,K⟩:=p.jc.sy.admi (i:=(i:Int)) (j:=(j:Int)) oG oG (AG.oth_mem.2 ⟨oG,oG⟩) p.fr (by rw[eE];exact p.act) (by rw[p.lr,Int.toNat_natCast];exact⟨rfl,rfl⟩) (by rw[eE,p.la];exact V) (by rw[eE];exact p.se j B u) (by rw[eE,eE,g.2.2,m.2.2];exact⟨rfl,x⟩) A.1;have R:s.ja i n b 1=(s.put i (((s.xf (i:Int)).admi (j:Int) true).1,((s.xf (i:Int)).admi (j:Int) true).2.1)).look i:=by show(s.put i (((s.nd i).admi (eV b%(n:Int)) true).1,((s.nd i).admi (eV b%(n:Int)) true).2.1)).look i=_;rw[H,eE]
 have q:=p.jc.q (k:=(i:Int)) oG oG;have o:=AG.Opk.admi (s.xf (i:Int)) (j:Int) true;obtain⟨S,l,W,Q⟩:=vW p.jc.jc.qs p.jc.jc.nt hi (r:=(((s.xf (i:Int)).admi (j:Int) true).1,((s.xf (i:Int)).admi (j:Int) true).2.1)) ⟨by
  rcases o.on with v|v;·exact Int.le_of_eq v
  ·exact Int.le_of_eq (v.1.trans q.on),o.res.trans q.rs⟩ F
 rw[R];refine⟨S,Q,λa L D=>?_,λ{N'} ho=>?_⟩;·rw[←eE,l,←eE s i];exact K a L (by rw[eE,g.2.2];exact D)
 ·have t:∀k:Int,0<=k->k<(n:Int)->∃y,AG.Le (n:Int) k E ((i:Int)+1,2^(i:Int).toNat+2^(j:Int).toNat) y (U k)/\∀e,E<e->AG.vt y e=⟨0,0,0,0⟩:=λk h k1=>by obtain⟨y,f,w,_⟩:=C k h k1;exact⟨y,f,w⟩
  have ep:∀k:Int,0<=k->k<(n:Int)->((CS.gu 9 ((s.put i (((s.xf (i:Int)).admi (j:Int) true).1,((s.xf (i:Int)).admi (j:Int) true).2.1)).look i)).xf k).d.ep=E+1:=λk h k1=>by rw[l];obtain⟨y,f,_⟩:=t k h k1;exact f.q.ep
  refine⟨⟨⟨ho,W,λk h k1=>?_⟩,ep⟩,?_,λk h k1=>?_⟩;·rw[ep k h k1,l];obtain⟨y,f,_⟩:=t k h k1;exact f.q
  ·rw[←(ho.pq ep).2.1 0 oG oG,l];obtain⟨y,f,_⟩:=t 0 oG oG;rw[f.rc,Int.toNat_natCast,Int.toNat_natCast]
  ·rw[l];obtain⟨y,f,w⟩:=t k h k1;rw[f.vt _ oG];exact w _ oG
def iZ.fresh(h:iZ s n N E)(a:mD s n E)(hi:i<n)(j:AG.bit s.lr.S (i:Int))(l:N<=10000000000):jD 9 (s.ja i n 0 0)/\qR s (CS.gu 9 (s.ja i n 0 0)) n E ((i:Int)+1,2^i):=by
 obtain⟨d,b⟩:=h.try hi j l;rcases b with⟨v,f,m⟩|⟨c,_⟩;·have e:=f.2 (λk g k1=>by rw[a k g k1];exact Int.le_refl _);rw[e]at m;exact⟨d,m⟩
 ·exact absurd a c
end
def tV(y:AG.Nd):Prop:=y.5=false/\y.ph=0/\y.on=0/\y.res=[]/\y.act=false
def Cr.anew{a b:AG.Nd}(h:Cr a b):tV b:=by rcases h with⟨l,rfl,_⟩|⟨_,l,rfl,_⟩<;>exact⟨rfl,rfl,rfl,rfl,rfl⟩
section
variable {s:CS} {n N:Nat}
def Ok.jc(h:Ok s n N)(a:s.4=[])(c:∀k,k<n->tV (s.nd k)):Cal s n N/\AG.Az (n:Int) s.xf:=by
 have d:∀k:Int,0<=k->k<(n:Int)->s.xf k=s.nd k.toNat:=λk b k1=>by rw[←eE,show((k.toNat:Nat):Int)=k by omega]
 refine⟨⟨h,a,λk b k1=>?_⟩,λi j l m=>?_⟩;·obtain⟨sn,g,u,e⟩:=h.gs;have o:=((e 0).1.1.own b k1).i0;have f:=c k.toNat oG;rw[←d k b k1]at f;exact⟨o.1,o.2.1,o.2.2.1,f.1,f.2.1,f.2.2.1,f.2.2.2.1,rfl⟩
 ·have f:=(c i.toNat oG).2.2.2.2;rw[←d i j l,m]at f;cases f
def Ok.anew(h:Ok s n N){k:Nat}(e:k<n)(m:k<s.3.length){n':AG.Nd}(i:Cr (s.nd k) n')(c:s.4=[])(l:∀j,j<k->tV (s.nd j)):Ok ((s.run k n').look k) n (N+13)/\((s.run k n').look k).4=[]/\∀j,j<k+1->tV (((s.run k n').look k).nd j):=by
 have a:k<s.ns.length:=by rw[h.gs.nn.2];exact e
 have g:=i.anew;have f:(s.run k n').xf=AG.upd s.xf (k:Int) n':=pL a rfl;have d:(s.run k n').nd k=n':=by rw[←eE,f,AG.upd_self]
 obtain⟨r,p,u,q,o⟩:=FC (s:=s.run k n') (k:=k) (by show k<(s.ns.set k n').length;rw[List.length_set];exact a) (by rw[d];exact g.2.2.2.1);refine⟨h.run e m i,by rw[p];exact c,λj t=>?_⟩;rw[o];by_cases b:j=k;·subst b;rw[d];exact g
 ·rw[←eE,f,AG.upd_ne oG,eE];exact l j oG
def Cal.all(h:Cal s n N){r:Nat}(e:s.hi.length<=r)(c:∀k:Int,0<=k->k<(n:Int)->(s.xf k).d.ep=(s.hi.length:Int) - 1∨(r:Int)<=(s.xf k).d.ep):iZ s n N ((s.hi.length:Int) - 1):=by
 refine⟨h,λk b k1=>?_⟩;rcases c k b k1 with a|a;·exact a
 ·have:=(h.ok.top.1 k b k1).2;omega
end
end Go.Proofs.YtdcainmlcpafbaaGreatDoor
