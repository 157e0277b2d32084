import Derived.Test.YtdcainmlcpafbaaGreatDoorJ29
set_option linter.all false
set_option maxHeartbeats 8000000
set_option maxRecDepth 20000
namespace Go.Proofs.YtdcainmlcpafbaaGreatDoor
open Go.RowKit
open Value renaming slice->J,pointer->P0
open Tryz
open Tryz renaming prog->pG
open IntKind renaming i64->T
open Option renaming none->Z,some->Y
open Obj renaming cells->G
open Value (bool)
structure CS where
 nb:Int
 ns:List AG.Nd
 lv:List Int
 net:List (Int×AG.Ms)
 ops:List AG.As
 rs:List dJ
 rd:List Bool
 hi:List eH
 kn:List Int
structure Ho where
 Kn:Nat
 P:Pl
 C:Nat->Prop
 left:Int
def Ho.al(h:Ho)(g:Nat):Prop:=wK h.C h.Kn g
def lN(o:AG.As):List Value:=[I o.nd,I o.lf,I o.op,I o.bl,I o.v,bool o.rd,bool o.dn,I o.e,I o.q]
def eQ(z:Int×AG.Ms):List Value:=[I z.1,.string (dE z.2.pk)]
def rT:Nat->TypeId
 |0=>72
 |1=>33
 |2=>34
 |5=>174
 |6=>178
 |7=>76
 |8=>4
 |9=>66
 |_=>3
def rS:Nat->Nat
 |5=>2
 |6=>9
 |7=>5
 |9=>3
 |_=>1
def rN(hs:List Ho)(s:CS):Nat->Nat
 |0=>hs.length
 |1=>hs.length
 |2=>hs.length
 |3=>s.lv.length
 |5=>s.net.length
 |6=>s.ops.length
 |7=>s.rs.length
 |8=>s.rd.length
 |9=>s.hi.length
 |_=>s.kn.length
def rX(hs:List Ho)(s:CS):Nat->List Value
 |0=>hs.map (λh=>P0 (Y ⟨h.Kn,0,Z⟩))
 |1=>hs.map (λh=>P0 (Y ⟨h.P.D,0,Z⟩))
 |2=>hs.map (λh=>P0 (Y ⟨h.P.H,0,Z⟩))
 |3=>s.lv.map I
 |5=>s.net.flatMap eQ
 |6=>s.ops.flatMap lN
 |7=>s.rs.flatMap dJ.cells
 |8=>s.rd.map bool
 |9=>s.hi.flatMap eH.cells
 |_=>s.kn.map I
def eR:List Nat:=[0,1,2,3,5,6,7,8,9,10]
def EJ:∀k∈eR,rT k≠63:=dG
def D6:∀k∈eR,∀j∈eR,k≠j->rT k=rT j->(k=3/\j=10)∨(k=10/\j=3):=dG
@[reducible] def jA(v:Nat->Value)(nb:Int)(f:Bool):Array Value:=#[v 0,v 1,v 2,v 3,I nb,v 5,v 6,v 7,v 8,v 9,v 10,bool f]
structure dR(w:World)(Wc base t:Nat)(v:Nat->Value)(f:Bool)(hs:List Ho)(s:CS):Prop where
 blk:dC w Wc (jA v s.nb f) 63
 row:∀k∈eR,w.ownsRow base (rT k) (rS k) (v k) (rN hs s k) (rX hs s k)
 sep:∀g,(v 3).ownBlock=some g->(v 10).ownBlock≠some g
 hl:hs.length=s.ns.length
 host:∀i (h:i<hs.length) (h':i<s.ns.length),fO w hs[i].Kn hs[i].P t hs[i].C hs[i].left s.ns[i]
 ap:∀i j (hi:i<hs.length) (hj:j<hs.length),i≠j->∀g,hs[i].al g->¬hs[j].al g
 lq:∀k∈eR,∀g,(v k).ownBlock=some g->∀i (hi:i<hs.length),¬hs[i].al g
 ng:∀i (hi:i<hs.length),¬hs[i].al Wc
 low:base<=Wc/\2<=base/\∀i (hi:i<hs.length),∀g,hs[i].al g->base<=g
 ll:s.lv.length=s.ns.length/\s.kn.length=s.ns.length
 n5:2<=s.ns.length/\s.ns.length<=5
 nb:1<=s.nb/\s.nb<=4
 tabs:dW w
 ids:∀i (h:i<s.ns.length),s.ns[i].id=(i:Int)/\s.ns[i].nodes=(s.ns.length:Int)/\s.ns[i].nb=s.nb
def fW.up{w:World}{P:Pl}{t t':Nat}{C:Nat->Prop}{left:Int}{n:AG.Nd}(h:fW w P t C left n)(b:t<=t'):fW w P t' C left n:=by
 induction b with
 |refl=>exact h
 |step _ ih=>obtain⟨x,d,fs,la,lo,rs,i,g,e,f,hi,c,a⟩:=ih.ex;exact⟨x,d,fs,la,lo,rs,i.mono (wX _),g.next,e,f.next,hi,c,a.next⟩
def fO.up{w:World}{Kn:Nat}{P:Pl}{t t':Nat}{C:Nat->Prop}{left:Int}{n:AG.Nd}(h:fO w Kn P t C left n)(a:t<=t'):fO w Kn P t' C left n:=⟨h.blk,h.nd.up a,h.ne,h.two⟩
def fO.same{w w':World}{Kn:Nat}{P:Pl}{t:Nat}{C:Nat->Prop}{left:Int}{n:AG.Nd}(h:fO w Kn P t C left n)(hs:w.heap.size<=w'.heap.size)(a:∀g,wK C Kn g->w'.heap[g]?=w.heap[g]?)(b:dW w'):fO w' Kn P t C left n:=⟨h.blk.same (a _ (.inr rfl)),h.nd.same hs (λg c=>a g (.inl c)) b,h.ne,h.two⟩
def fO.lt{w:World}{Kn:Nat}{P:Pl}{t:Nat}{C:Nat->Prop}{left:Int}{n:AG.Nd}(h:fO w Kn P t C left n):∀g,wK C Kn g->2<=g/\g<w.heap.size:=by
 rintro g (a|rfl);·exact h.nd.lt g a
 ·exact⟨h.two,h.blk.lt⟩
section
variable {w w' w1 w2:World} {Wc base t t':Nat} {v v':Nat->Value} {f f':Bool} {hs hs':List Ho} {s s':CS}
def dR.jd(h:dR w Wc base t v f hs s):base<=w.heap.size:=Nat.le_trans h.low.1 (Nat.le_of_lt h.blk.lt)
def dR.off(h:dR w Wc base t v f hs s){k:Nat}(b:k∈eR):(v k).ownBlock≠some Wc:=by intro d;obtain⟨c,a⟩:=eU (h.row k b) d;rw[h.blk.blk]at a;simp at a;exact EJ k b a.2.symm
def dR.rsep(h:dR w Wc base t v f hs s){k j:Nat}(e:k∈eR)(i:j∈eR)(c:k≠j){g:Nat}(d:(v k).ownBlock=some g):(v j).ownBlock≠some g:=by
 intro b;obtain⟨n,l⟩:=eU (h.row k e) d;obtain⟨m,a⟩:=eU (h.row j i) b;rw[l]at a;simp at a;rcases D6 k e j i c a.2 with⟨rfl,rfl⟩|⟨rfl,rfl⟩;·exact h.sep g d b
 ·exact h.sep g b d
def dR.turn{k:Nat}(A:k∈eR)(h:dR w Wc base t v f hs s)(o:dM (λg=>g=Wc∨(v k).ownBlock=some g) w w')(B:∀j∈eR,j≠k->v' j=v j)(M:dC w' Wc (jA v' s'.nb f') 63)(L:w'.ownsRow base (rT k) (rS k) (v' k) (rN hs s' k) (rX hs s' k))(F:∀g,(v' k).ownBlock=some g->(v k).ownBlock=some g∨w.heap.size<=g)(q:s'.ns=s.ns)(E:s'.nb=s.nb)(x:s'.lv.length=s.lv.length/\s'.kn.length=s.kn.length)(u:∀j∈eR,j≠k->rN hs s' j=rN hs s j/\rX hs s' j=rX hs s j):dR w' Wc base t v' f' hs s'/\Below base w w':=by
 have r:dW w':=h.tabs.kept o (λb=>b.elim (λd=>by have:=h.low;omega) (λd=>by have:=(((h.row k A).lt 0 d).1);have:=h.low;omega)) (λb=>b.elim (λd=>by have:=h.low;omega) (λd=>by have:=(((h.row k A).lt 1 d).1);have:=h.low;omega));refine⟨⟨M,λj n=>?_,λg y l=>?_,by rw[q];exact h.hl,λi hi D=>?_,h.ap,λj n g a i hi=>?_,h.ng,h.low,by rw[q];exact⟨x.1.trans h.ll.1,x.2.trans h.ll.2⟩,by rw[q];exact h.n5,by rw[E];exact h.nb,r,by rw[q,E];exact h.ids⟩,?_⟩
 ·by_cases c:j=k;·subst c;exact L
  ·rw[B j n c,(u j n c).1,(u j n c).2];refine dQ (h.row j n) (λg a=>o.block g ((h.row j n).lt g a).2 (λb=>b.elim (λd=>h.off n (by rw[a,d])) (λd=>h.rsep n A c a d)))
 ·have C:3∈eR:=dG;have m:10∈eR:=dG;by_cases z:3=k
  ·subst z;rw[B 10 m dG]at l;rcases F g y with b|b;·exact h.sep g b l
   ·have:=((h.row 10 m).lt g l).2;omega
  ·rw[B 3 C z]at y;by_cases p:10=k
   ·subst p;rcases F g l with b|b;·exact h.sep g y b
    ·have:=((h.row 3 C).lt g y).2;omega
   ·rw[B 10 m p]at l;exact h.sep g y l
 ·have H:i<s.ns.length:=by rw[q]at D;exact D
  have b:=h.host i hi H;have e:s'.ns[i]=s.ns[i]:=by simp only[q]
  rw[e];exact b.same o.size (λg a=>o.block g (b.lt g a).2 (λd=>d.elim (λK=>h.ng i hi (K ▸ a)) (λK=>h.lq k A g K i hi a))) r
 ·by_cases c:j=k
  ·subst c;rcases F g a with b|b;·exact h.lq j n g b i hi
   ·intro d;have:=((h.host i hi (by rw[←h.hl];exact hi)).lt g d).2;omega
  ·rw[B j n c]at a;exact h.lq j n g a i hi
 ·exact⟨o.os,o.tape,o.output,o.size,λg a=>o.block g (Nat.lt_of_lt_of_le a h.jd) (λb=>b.elim (λd=>by have:=h.low;omega) (λd=>by have:=((h.row k A).lt g d).1;omega))⟩
def dR.mark(h:dR w Wc base t v f hs s)(a:dI Wc w w')(d:dC w' Wc (jA v s.nb f') 63):dR w' Wc base t v f' hs s/\Below base w w':=dR.turn (k:=0) dG h ⟨a.os,a.tape,a.output,by rw[a.size];exact Nat.le_refl _,λg b c=>a.block g (λe=>c (.inl e))⟩ (λ_ _ _=>rfl) d (dQ (h.row 0 dG) (λg b=>a.block g (λc=>h.off (k:=0) dG (by rw[b,c])))) (λg b=>.inl b) rfl rfl ⟨rfl,rfl⟩ (λ_ _ _=>⟨rfl,rfl⟩)
def dR.later(h:dR w Wc base t v f hs s)(b:Below w.heap.size w w'):dR w' Wc base t v f hs s:=(dR.turn (k:=0) dG h (dM.of_below b) (λ_ _ _=>rfl) (h.blk.later b) (dQ (h.row 0 dG) (λg a=>b.block g ((h.row 0 dG).lt g a).2)) (λg a=>.inl a) rfl rfl ⟨rfl,rfl⟩ (λ_ _ _=>⟨rfl,rfl⟩)).1
def dR.up(h:dR w Wc base t v f hs s)(b:t<=t'):dR w Wc base t' v f hs s:=⟨h.blk,h.row,h.sep,h.hl,λi hi a=>(h.host i hi a).up b,h.ap,h.lq,h.ng,h.low,h.ll,h.n5,h.nb,h.tabs,h.ids⟩
def dR.call{i:Nat}(h:dR w Wc base t v f hs s)(hi:i<hs.length)(a0:i<s.ns.length){C':Nat->Prop}{left':Int}{n':AG.Nd}(W:t<=t')(X:fO w' hs[i].Kn hs[i].P t' C' left' n')(m:dP (wK hs[i].C hs[i].Kn) (wK C' hs[i].Kn) w w')(E:n'.id=s.ns[i].id/\n'.nodes=s.ns[i].nodes/\n'.nb=s.ns[i].nb):dR w' Wc base t' v f (hs.set i {hs[i] with C:=C',left:=left'}) {s with ns:=s.ns.set i n'}/\Below base w w':=by
 have H:dW w':=h.tabs.kept m.kept (λd=>by have:=h.low.2.2 i hi 0 d;have:=h.low;omega) (λd=>by have:=h.low.2.2 i hi 1 d;have:=h.low;omega);have r:∀j (u:j<(hs.set i {hs[i] with C:=C',left:=left'}).length),∀g,(hs.set i {hs[i] with C:=C',left:=left'})[j].al g->(j=i/\wK C' hs[i].Kn g)∨(j≠i/\∃e:j<hs.length,hs[j].al g):=by
  intro j u g o;by_cases c:j=i;·subst c;simp only[List.getElem_set_self]at o;exact .inl ⟨rfl,o⟩
  ·rw[List.getElem_set_ne (λd=>c d.symm)]at o;exact .inr ⟨c,by simpa using u,o⟩
 have M:∀(F:Ho->Value),F {hs[i] with C:=C',left:=left'}=F hs[i]->(hs.set i {hs[i] with C:=C',left:=left'}).map F=hs.map F:=by
  intro F hF;rw[List.map_set,hF];apply List.ext_getElem;·simp
  ·intro n q z;by_cases K:n=i;·subst K;simp
   ·rw[List.getElem_set_ne (λd=>K d.symm)]
 refine⟨⟨h.blk.same (m.kept.block Wc h.blk.lt (h.ng i hi)),λk l=>?_,h.sep,by simp[h.hl],λj u e=>?_,λa b ha U D g R L=>?_,λk l g o j u x=>?_,λj u x=>?_,⟨h.low.1,h.low.2.1,λj u g x=>?_⟩,by simp[h.ll],by simp[h.n5],h.nb,H,?_⟩,?_⟩
 ·have V:=dQ (h.row k l) (λg o=>m.kept.block g ((h.row k l).lt g o).2 (λd=>h.lq k l g o i hi d));have e1:rN (hs.set i {hs[i] with C:=C',left:=left'}) {s with ns:=s.ns.set i n'} k=rN hs s k:=by unfold rN;split<;>simp
  have e2:rX (hs.set i {hs[i] with C:=C',left:=left'}) {s with ns:=s.ns.set i n'} k=rX hs s k:=by unfold rX;split<;>first|rfl|exact M _ rfl
  rw[e1,e2];exact V
 ·by_cases c:j=i;·subst c;simp only[List.getElem_set_self];exact X
  ·simp only[List.getElem_set_ne (λd=>c d.symm)];have N:j<hs.length:=by simpa using u
   have A:j<s.ns.length:=by simpa using e
   have d:=h.host j N A;exact(d.same m.kept.size (λg o=>m.kept.block g (d.lt g o).2 (λh8=>h.ap j i N hi c g o h8)) H).up W
 ·rcases r a ha g R with⟨rfl,q⟩|⟨q,B,z⟩
  ·rcases r b U g L with⟨rfl,_⟩|⟨S,y,O⟩;·exact D rfl
   ·rcases m.grow g q with p|p;·exact h.ap a b hi y D g p O
    ·have:=((h.host b y (by rw[←h.hl];exact y)).lt g O).2;omega
  ·rcases r b U g L with⟨rfl,S⟩|⟨S,y,O⟩
   ·rcases m.grow g S with p|p;·exact h.ap a b B hi q g z p
    ·have:=((h.host a B (by rw[←h.hl];exact B)).lt g z).2;omega
   ·exact h.ap a b B y D g z O
 ·rcases r j u g x with⟨rfl,q⟩|⟨q,e,z⟩
  ·rcases m.grow g q with p|p;·exact h.lq k l g o j hi p
   ·have:=((h.row k l).lt g o).2;omega
  ·exact h.lq k l g o j e z
 ·rcases r j u Wc x with⟨rfl,q⟩|⟨q,e,z⟩
  ·rcases m.grow Wc q with p|p;·exact h.ng j hi p
   ·have:=h.blk.lt;omega
  ·exact h.ng j e z
 ·rcases r j u g x with⟨rfl,q⟩|⟨q,e,z⟩
  ·rcases m.grow g q with p|p;·exact h.low.2.2 j hi g p
   ·have:=h.jd;omega
  ·exact h.low.2.2 j e g z
 ·intro j u;have A:j<s.ns.length:=by simpa using u
  by_cases c:j=i;·subst c;simp only[List.getElem_set_self,List.length_set];have:=h.ids j A;rw[E.1,E.2.1,E.2.2];exact this
  ·simp only[List.getElem_set_ne (λd=>c d.symm),List.length_set];exact h.ids j A
 ·exact⟨m.kept.os,m.kept.tape,m.kept.output,m.kept.size,λg Q=>m.kept.block g (Nat.lt_of_lt_of_le Q h.jd) (λd=>by have:=h.low.2.2 i hi g d;omega)⟩
end
def E3(o:AG.As):(lN o).length=9:=rfl
def yJ{w:World}{g:Nat}{ops:List AG.As}(a:∀j u,(ops.flatMap lN)[j]?=Y u->w.cell? ⟨g,j,Z⟩=Y u)(t:Nat)(d:t<ops.length):w.rangeAt g (t*9) (lN ops[t]):=by
 intro k u b;have c:k<9:=by have:=(List.getElem?_eq_some_iff.1 b).1;simpa[lN] using this
 rw[a _ _ (kE lN 9 E3 ops t d k c)];rw[List.getD_eq_getElem?_getD,b];rfl
def pN(r:dJ)(o:AG.As):Bool:=(!o.rd&&(o.bl==r.bl))&&(o.v==r.v)
def JY(Wc:Nat)(a:Option Addr)(c:Nat)(ops:List AG.As)(r:dJ)(w:World)(Q:w.cell? ⟨Wc,6,Z⟩=Y (J a ops.length c))(hW:Wc<w.heap.size)(R:eL w (J a ops.length c) ops.length (ops.flatMap lN))(hl:ops.length<=100000000)(B:r.v=0∨∃o∈ops,pN r o=true):Calls pG 130 #[P0 (Y ⟨Wc,0,Z⟩),.agg #[I r.op,I r.bl,I r.v,I r.e,I r.q]] w λq w'=>q=.returned (.tuple #[])/\Below w.heap.size w w':=by
 have k:=a_ w (G #[I r.op,I r.bl,I r.v,I r.e,I r.q] 76);have HX:=dA (dC.new w #[I r.op,I r.bl,I r.v,I r.e,I r.q] 76);have O:=dA k;have HR:=dA R;have HC:=dA Q;have F:=k.size;clear R Q k;go_enter func130,ntmps130;by_cases x:r.v=0
 ·have A:(r.v==0)=true:=by simpa using x
  clear x;go_wp2;refine bodyPost_ret (v:=.tuple #[]) (by simp[results,results130,go_sem]) rfl ?_;exact⟨rfl,O⟩
 have h:=B.resolve_left x;have K:=dA h;have A:(r.v==0)=false:=by simpa using x
 clear B h x;go_upto_region 3 with fail;generalize World.alloc _ _=M at*;clear A;go_loopw [4] (λs4 wr=>∃t:Nat,t<=ops.length/\s4=I (t:Int)/\Below M.heap.size M wr/\∀j (C:j<ops.length),j<t->pN r ops[j]=false) (λs4 wr=>ops.length - (intOf s4).toNat);case atStart=>exact⟨0,oG,rfl,Below.refl _ _,by intro j _ C;omega⟩
 case round=>
  obtain⟨t,a0,rfl,i,m⟩:=hrel;have l:Hid (Below w.heap.size w wr):=O.trans (i.mono F);have s:=dA m;have cw:wr.cell? ⟨Wc,6,Z⟩=Y (J a ops.length c):=(l.cell (p:=⟨Wc,6,Z⟩) hW).trans HC;have n:=dA (HX.later i);clear m;by_cases E:t<ops.length
  ·obtain⟨g,a1,h1,hg,z⟩:=HR.at oG;cases h1;have f:=yJ (w:=wr) (ops:=ops) (λj u hu=>(l.cell (p:=⟨g,j,Z⟩) hg).trans (z j u hu)) t E;obtain⟨b,N⟩:∃y,pN r ops[t]=y:=⟨_,rfl⟩;have H:=dA N;have d:=N;unfold pN at d;obtain⟨o,D⟩:∃y,ops[t]=y:=⟨_,rfl⟩;rw[D]at f d;have o3:=f 3 (I o.bl) rfl;have o4:=f 4 (I o.v) rfl;have o5:=f 5 (bool o.rd) rfl;have x1:=n.cell 1;have x2:=n.cell 2;simp at x1 x2;clear f D z;obtain⟨W,U⟩:∃y,o.rd=y:=⟨_,rfl⟩;obtain⟨b2,e2⟩:∃y,(o.bl==r.bl)=y:=⟨_,rfl⟩;obtain⟨b3,e3⟩:∃y,(o.v==r.v)=y:=⟨_,rfl⟩;rw[U,e2,e3]at d;rw[U]at o5;have V:decide ((t:Int)<(ops.length:Int))=true:=by simp;omega
   go_upto_region 5 with fail;have a2:(0:Int)<=(t:Int)/\(t:Int)<(ops.length:Int):=oG;cases W<;>cases b2<;>cases b3;all_goals
    simp only[Bool.not_true,Bool.not_false,Bool.true_and,Bool.and_true,Bool.false_and,Bool.and_false]at d
    subst d
    go_quiet (fail)
    go_wp2_with fail
    first
    | (go_roundw
       case rel=>exact⟨t+1,oG,rfl,below_drewN i _,λj C X=>if L:j=t then by subst L;exact H.out else s j C oG⟩
       case measure=>simp[intOf];omega)
    | (refine bodyPost_ret (v:=.tuple #[]) (by simp[results,results130,go_sem]) rfl ?_
       exact⟨rfl,below_drewN l _⟩)
  exfalso;obtain⟨o,D,S⟩:=K.out;obtain⟨j,C,rfl⟩:=List.getElem_of_mem D;have L:=s.out j C oG;rw[L]at S;exact absurd S sG
def gI(v:Nat->Value)(k:Nat)(x:Value)(j:Nat):Value:=if j=k then x else v j
def nY{v:Nat->Value}{k j:Nat}{x:Value}(h:j≠k):gI v k x j=v j:=if_neg h
def lG{v:Nat->Value}{k:Nat}{x:Value}:gI v k x k=x:=if_pos rfl
def sC(v:Nat->Value)(nb:Int)(f:Bool)(x:Value):∀k∈eR,(jA v nb f).setIfInBounds k x=jA (gI v k x) nb f:=by intro k a;simp only[eR,List.mem_cons,List.mem_nil_iff,or_false]at a;rcases a with rfl|rfl|rfl|rfl|rfl|rfl|rfl|rfl|rfl|rfl<;>rfl
def uK(v:Nat->Value)(nb:Int)(f:Bool):∀k∈eR,(jA v nb f)[k]?=some (v k):=by intro k a;simp only[eR,List.mem_cons,List.mem_nil_iff,or_false]at a;rcases a with rfl|rfl|rfl|rfl|rfl|rfl|rfl|rfl|rfl|rfl<;>rfl
section
variable {w w' w1 w3:World} {Wc base t:Nat} {v:Nat->Value} {f:Bool} {hs:List Ho} {s s':CS}
def dR.cell(h:dR w Wc base t v f hs s){k:Nat}(a:k∈eR):w.cell? ⟨Wc,k,Z⟩=Y (v k):=(h.blk.cell k).trans (uK v s.nb f k a)
def dR.push{k m:Nat}{news:List Value}{v3:Value}(r:k∈eR)(h:dR w Wc base t v f hs s)(D:w3.ownsRow base (rT k) (rS k) v3 (rN hs s k+m) (rX hs s k++news))(n:w.grownBy w3 (v k).ownBlock)(B:∃g',v3.ownBlock=Y g'/\((v k).ownBlock=Y g'∨w.heap.size<=g'/\w.grownBy w3 none))(E:s'.ns=s.ns)(q:s'.nb=s.nb)(y:s'.lv.length=s.lv.length/\s'.kn.length=s.kn.length)(u:∀j∈eR,j≠k->rN hs s' j=rN hs s j/\rX hs s' j=rX hs s j)(F:rN hs s' k=rN hs s k+m)(K:rX hs s' k=rX hs s k++news):w3.cell? ⟨Wc,k,Z⟩=Y (v k)/\w3.frozen? ⟨Wc,k,Z⟩=false/\dR (w3.setCell ⟨Wc,k,Z⟩ v3) Wc base t (gI v k v3) f hs s'/\Below base w (w3.setCell ⟨Wc,k,Z⟩ v3)/\dM (λg=>g=Wc∨(v k).ownBlock=some g) w (w3.setCell ⟨Wc,k,Z⟩ v3):=by
 have d:=h.off r;have i:dC w3 Wc (jA v s.nb f) 63:=h.blk.same (n.block Wc h.blk.lt (λc=>d c.symm));have x:v3.ownBlock≠some Wc:=by
  obtain⟨g',z,l⟩:=B;rw[z];intro c;have e:g'=Wc:=by simpa using c
  subst e;rcases l with l|⟨l,_⟩;·exact d l
  ·have:=h.blk.lt;omega
 have a:=dI.setCell w3 ⟨Wc,k,Z⟩ v3;have A:dC (w3.setCell ⟨Wc,k,Z⟩ v3) Wc (jA (gI v k v3) s.nb f) 63:=by have:=i.set k v3;rw[sC v s.nb f v3 k r]at this;exact this
 have C:dM (λg=>g=Wc∨(v k).ownBlock=some g) w (w3.setCell ⟨Wc,k,Z⟩ v3):=⟨a.os.trans n.os,a.tape.trans n.tape,a.output.trans n.output,by rw[a.size];exact n.size,λg b c=>(a.block g (λo=>c (.inl o))).trans (n.block g b (λo=>c (.inr o.symm)))⟩;have p:(w3.setCell ⟨Wc,k,Z⟩ v3).ownsRow base (rT k) (rS k) v3 (rN hs s k+m) (rX hs s k++news):=dQ D (λg b=>a.block g (λc=>x (by rw[b,c])));have c:=dR.turn (v':=gI v k v3) (f':=f) (s':=s') r h C (λj _ H=>nY H) (by rw[q];exact A) (by rw[lG,F,K];exact p) (λg b=>by
  rw[lG]at b;obtain⟨g',z,l⟩:=B;rw[z]at b;have e:g'=g:=by simpa using b
  subst e;exact l.imp id (λo=>o.1)) E q y u
 exact⟨(i.cell k).trans (uK v s.nb f k r),i.free k,c.1,c.2,C⟩
def dM.of_but{X:Nat}{A:Nat->Prop}(a:dI X w w')(c:A X):dM A w w':=⟨a.os,a.tape,a.output,by rw[a.size];exact Nat.le_refl _,λg _ d=>a.block g (λb=>d (b ▸ c))⟩
end
def gX.at{w:World}{base:Nat}{ps:List (Int×List UInt8)}{cs:List Value}(h:gX w base ps cs):∀i (hi:i<ps.length),cs[i*2]?=some (I ps[i].1)/\∃x,cs[i*2+1]?=some x/\gH w base x ps[i].2:=by
 induction h using gX.ind with
 |nil=>intro i hi;simp at hi
 |cons h1 h2 ih=>
  intro i hi;cases i with
  |zero=>exact⟨rfl,_,rfl,h1⟩
  |succ i=>
   obtain⟨a1,x,a,b⟩:=ih i (by simpa using hi);refine⟨?_,x,?_,?_⟩;·rw[show(i+1)*2=i*2+1+1 by omega];simpa using a1
   ·rw[show(i+1)*2+1=i*2+1+1+1 by omega];simpa using a
   ·simpa using b
def dY.keep{w w':World}{B X:Nat}{l:Value}{ps:List (Int×List UInt8)}{cs:Array Value}{ty e:TypeId}{o:Option Nat}(h:dY w B l ps)(s:dM (λg=>g=X∨o=some g) w w')(r:dC w X cs ty)(p:ty≠172/\ty≠5)(q:∀g,o=some g->∃a,w.heap[g]?=some (.cells a e (0,0)))(m:e≠172/\e≠5):dY w' B l ps:=by
 have f:∀(g:Nat) (a:Array Value) (c:TypeId),w.heap[g]?=some (Obj.cells a c (0,0))->c=172∨c=5->w'.heap[g]?=w.heap[g]?:=by
  intro g a c b n;refine s.block g (mY b) (λi=>?_);rcases i with rfl|i;·rw[r.blk]at b;simp at b;exact n.elim (λd=>p.1 (b.2.trans d)) (λd=>p.2 (b.2.trans d))
  ·obtain⟨u,d⟩:=q g i;rw[d]at b;simp at b;exact n.elim (λd=>m.1 (b.2.trans d)) (λd=>m.2 (b.2.trans d))
 obtain⟨j,k,t⟩:=h;exact⟨j,dQ k (λg b=>by obtain⟨a,i⟩:=eU k b;exact f g a _ i (.inl rfl)),t.same (λg a _ b=>f g a _ b (.inr rfl))⟩
def xE:(Tryz.prog.info? 174).map (λi=>(i.zero,i.size,i.bytes))=Y (Y (.agg #[I 0,.string ⟨#[]⟩]),2,24):=kG
def CA(w:World)(Wc base t:Nat)(f:Bool)(hs:List Ho)(s:CS):Prop:=∃v,dR w Wc base t v f hs s
def xF(Wc base t:Nat)(f:Bool)(hs:List Ho)(s:CS)(l:Value)(out:List (Int×AG.Ms))(B:Nat)(w:World)(v:Nat->Value)(h:dR w Wc base t v f hs s)(hp:dY w B l (fS out))(a9:eM (hs.length:Int) out)(aR:s.net.length+out.length<=100000000):Calls pG 52 #[P0 (Y ⟨Wc,0,Z⟩),l] w λr w'=>r=.returned (.tuple #[])/\CA w' Wc base t f hs {s with net:=s.net++out}/\Below base w w'/\dM (λg=>g=Wc∨(v 5).ownBlock=some g) w w':=by
 obtain⟨i0,ay,al,aA,aw⟩:=info_parts xE;obtain⟨la,ln,lc,rfl⟩:=hp.shape;have a6:(fS out).length=out.length:=by unfold fS;simp
 have aG:ln=out.length:=by obtain⟨cs,h1,_⟩:=hp;obtain⟨a,c,e⟩:=dZ h1;cases e;exact a6
 subst aG;have HO:=dA a9;have HH:=dA h;have aJ:=dA hp;clear h hp a9;go_enter func52,ntmps52;go_upto_region 1 with fail;go_loopw [4] (λs4 wr=>∃k:Nat,k<=out.length/\s4=I (k:Int)/\(∃vv,dR wr Wc base t vv f hs {s with net:=s.net++out.take k}/\∀g,(vv 5).ownBlock=some g->(v 5).ownBlock=some g∨w.heap.size<=g)/\dY wr B (J la out.length lc) (fS out)/\Below base w wr/\dM (λg=>g=Wc∨(v 5).ownBlock=some g) w wr) (λs4 wr=>out.length - (intOf s4).toNat);case atStart=>exact⟨0,oG,rfl,⟨v,by simpa using HH.out,λg hg=>.inl hg⟩,aJ,Below.refl _ _,dM.of_below b_⟩
 case round=>
  obtain⟨k,aS,rfl,⟨vv,hc,aE⟩,aC,an,ai⟩:=hrel;have ak:=dA aE;have F:=dA ai;clear aE ai;have HC:=dA hc;have ab:=dA aC;have ag:=dA an;clear hc aC an;by_cases a7:k<out.length
  ·obtain⟨z,hz⟩:∃y,out[k]=y:=⟨_,rfl⟩;have aQ:=HO.out out[k] (List.getElem_mem a7);have az:out.take (k+1)=out.take k++[z]:=by rw[List.take_succ_eq_append_getElem a7,hz]
   rw[hz]at aQ;obtain⟨cs,Q,aq⟩:=ab.out;obtain⟨p1,x,p2,p3⟩:=aq.at k (by rw[a6];exact a7);have ar:(fS out)[k]'(by rw[a6];exact a7)=(z.1,z.2.pk):=by unfold fS;simp[hz]
   rw[ar]at p1 p3;obtain⟨E,H,rfl⟩:=dZ p3;rw[a6]at Q;obtain⟨g,aW,h1,hg,ad⟩:=(eL.gy Q).at oG;cases h1;have l0:=ad _ _ p1;have l1:=ad _ _ p2;have au:∃b,wr.heap[g]?=Y (.cells b 172 (0,0)):=eU Q rfl;have c0:=HC.cell (k:=0) dG;obtain⟨a0,d0,aB⟩:=dZ (HC.row 0 dG);rw[aB]at c0;have ax:rN hs {s with net:=s.net++out.take k} 0=hs.length:=rfl;rw[ax]at c0;have aH:decide ((k:Int)<(out.length:Int))=true:=by simp;omega
   have t1:decide (z.1<0)=false:=by simp;omega
   have t2:decide ((hs.length:Int)<=z.1)=false:=by simp;omega
   have aZ:(0:Int)<=(k:Int)/\(k:Int)<(out.length:Int):=oG;have HX:=dA (⟨l0,l1,p3,au⟩:wr.cell? ⟨g,k*2,Z⟩=Y (I z.1)/\wr.cell? ⟨g,k*2+1,Z⟩=Y (J E z.2.pk.length H)/\gH wr B (J E z.2.pk.length H) z.2.pk/\∃b,wr.heap[g]?=Y (.cells b 172 (0,0)));clear ad Q aq p1 p2 p3 ar l1 au;go_upto_region 3 with fail;go_cut [29] (λs29 wx=>s29=.bool false/\∃X,wx=wr.drewN X);case first=>go_quiet (fail);go_wp2_with fail;go_meet;exact⟨rfl,_,rfl⟩
   case rest=>
   obtain⟨rfl,X,rfl⟩:=hcut;have n:Below wr.heap.size wr (wr.drewN X):=below_drewN b_ _;have aK:=dA (HC.later n);have ap:=dA (ab.later n);have ah:Hid (Below base w (wr.drewN X)):=ag.trans (n.mono HC.jd);have q:Hid (dM (λg=>g=Wc∨(v 5).ownBlock=some g) w (wr.drewN X)):=⟨n.os.trans F.os,n.tape.trans F.tape,n.output.trans F.output,Nat.le_trans F.size n.size,λd e C=>(n.block d (Nat.lt_of_lt_of_le e F.size)).trans (F.block d e C)⟩;have ae:Hid ((wr.drewN X).cell? ⟨g,k*2,Z⟩=Y (I z.1)/\(wr.drewN X).cell? ⟨g,k*2+1,Z⟩=Y (J E z.2.pk.length H)/\gH (wr.drewN X) B (J E z.2.pk.length H) z.2.pk/\∃b,(wr.drewN X).heap[g]?=Y (.cells b 172 (0,0))):=by obtain⟨q1,q2,q3,b,q4⟩:=HX.out;exact⟨(n.cell (p:=⟨g,k*2,Z⟩) hg).trans q1,(n.cell (p:=⟨g,k*2+1,Z⟩) hg).trans q2,dQ q3 (λd O=>n.block d (qY q3 O)),b,(n.block g hg).trans q4⟩
   clear HC ab ag HX n F l0 c0 aB ax t1 t2;generalize wr.drewN X=W2 at*;go_upto_region 5 with fail;clear aH;obtain⟨W,D⟩:∃y,({s with net:=s.net++out.take k}:CS)=y:=⟨_,rfl⟩;have M:Hid (dR W2 Wc base t vv f hs W):=by rw[←D];exact aK
   have aT:rN hs W 5<=100000000:=by rw[←D];show(s.net++out.take k).length<=_;simp;omega
   have aU:=M.cell (k:=5) dG;have aY:=M.blk.lt;have aP:g<W2.heap.size:=by obtain⟨_,_,_,b,q4⟩:=ae.out;exact mY q4
   have i:Below W2.heap.size W2 (W2.alloc (G #[I z.1,.string (dE z.2.pk)] 174)).drew:=(a_ _ _).drew;have av:base<=(W2.alloc (G #[I z.1,.string (dE z.2.pk)] 174)).drew.heap.size:=Nat.le_trans M.jd i.size;have V:=dA (M.later i);have aX:(W2.alloc (G #[I z.1,.string (dE z.2.pk)] 174)).drew.cell? ⟨Wc,5,Z⟩=Y (vv 5):=V.cell (k:=5) dG;have a8:∀W3:World,W3.heap[g]?=W2.heap[g]?->(∀(d:Nat) (b:Array Value),W2.heap[d]?=Y (Obj.cells b 5 (0,0))->W3.heap[d]?=W2.heap[d]?)->W3.cell? ⟨g,k*2,Z⟩=Y (I z.1)/\W3.cell? ⟨g,k*2+1,Z⟩=Y (J E z.2.pk.length H)/\gH W3 B (J E z.2.pk.length H) z.2.pk:=by intro W3 e1 e2;obtain⟨q1,q2,q3,q4⟩:=ae.out;exact⟨(World.cell?_of_block (a:=⟨g,k*2,Z⟩) e1).trans q1,(World.cell?_of_block (a:=⟨g,k*2+1,Z⟩) e1).trans q2,dQ q3 (λd O=>by obtain⟨b,e⟩:=eU q3 O;exact e2 d b e)⟩
   have am:W2.drew.cell? ⟨g,k*2,Z⟩=Y (I z.1)/\W2.drew.cell? ⟨g,k*2+1,Z⟩=Y (J E z.2.pk.length H)/\gH W2.drew B (J E z.2.pk.length H) z.2.pk:=a8 _ rfl (λ_ _ _=>rfl);have ac:(W2.alloc (G #[I z.1,.string (dE z.2.pk)] 174)).drew.cell? ⟨g,k*2,Z⟩=Y (I z.1)/\(W2.alloc (G #[I z.1,.string (dE z.2.pk)] 174)).drew.cell? ⟨g,k*2+1,Z⟩=Y (J E z.2.pk.length H)/\gH (W2.alloc (G #[I z.1,.string (dE z.2.pk)] 174)).drew B (J E z.2.pk.length H) z.2.pk:=a8 _ (i.block g aP) (λd b e=>i.block d (mY e));have ao:(W2.alloc (G #[I z.1,.string (dE z.2.pk)] 174)).drew.ownsRow base 174 2 (vv 5) (rN hs W 5) (rX hs W 5):=V.row 5 dG;have aj:∀j u,[I z.1,.string (dE z.2.pk)][j]?=Y u->(W2.alloc (G #[I z.1,.string (dE z.2.pk)] 174)).drew.cell? ((⟨W2.heap.size,0,Z⟩:Addr).add j)=Y u:=by intro j u hu;rw[Go.WideShapes.add_plain];refine(World.cell?_alloc_at _ _ _ _ sG).trans ?_;simpa using hu
   have HP:Hid (∀v' w3,w3.ownsRow base 174 2 v' (rN hs W 5+1) (rX hs W 5++[I z.1,.string (dE z.2.pk)])->(W2.alloc (G #[I z.1,.string (dE z.2.pk)] 174)).drew.grownBy w3 (vv 5).ownBlock->(∃g',v'.ownBlock=Y g'/\((vv 5).ownBlock=Y g'∨(W2.alloc (G #[I z.1,.string (dE z.2.pk)] 174)).drew.heap.size<=g'/\(W2.alloc (G #[I z.1,.string (dE z.2.pk)] 174)).drew.grownBy w3 none))->(w3.cell? ⟨Wc,5,Z⟩=Y (vv 5)/\w3.frozen? ⟨Wc,5,Z⟩=false/\((w3.cell? ⟨g,k*2,Z⟩=Y (I z.1)/\w3.cell? ⟨g,k*2+1,Z⟩=Y (J E z.2.pk.length H)/\gH w3 B (J E z.2.pk.length H) z.2.pk)/\((w3.setCell ⟨Wc,5,Z⟩ v').cell? ⟨g,k*2,Z⟩=Y (I z.1)/\(w3.setCell ⟨Wc,5,Z⟩ v').cell? ⟨g,k*2+1,Z⟩=Y (J E z.2.pk.length H)/\gH (w3.setCell ⟨Wc,5,Z⟩ v') B (J E z.2.pk.length H) z.2.pk))/\∃k2:Nat,k2<=out.length/\I ((k:Int)+1)=I (k2:Int)/\(∃vv,dR (w3.setCell ⟨Wc,5,Z⟩ v') Wc base t vv f hs {s with net:=s.net++out.take k2}/\∀g,(vv 5).ownBlock=some g->(v 5).ownBlock=some g∨w.heap.size<=g)/\dY (w3.setCell ⟨Wc,5,Z⟩ v') B (J (Y ⟨g,0,Z⟩) out.length lc) (fS out)/\Below base w (w3.setCell ⟨Wc,5,Z⟩ v')/\dM (λg=>g=Wc∨(v 5).ownBlock=some g) w (w3.setCell ⟨Wc,5,Z⟩ v'))):=by
    intro v' w3 ho aD o;obtain⟨a1,a2,a3,a4,a5⟩:=dR.push (s':={s with net:=s.net++out.take (k+1)}) (k:=5) (m:=1) dG V ho aD o (by rw[←D]) (by rw[←D]) (by rw[←D];exact⟨rfl,rfl⟩) (by intro j hj aL;rw[←D];unfold rN rX;split<;>first|exact⟨rfl,rfl⟩|exact absurd rfl aL) (by rw[←D];show(s.net++out.take (k+1)).length=(s.net++out.take k).length+1;rw[az];simp;omega) (by rw[←D];show(s.net++out.take (k+1)).flatMap eQ=(s.net++out.take k).flatMap eQ++_;rw[az];simp[eQ])
    have aa:∀(d:Nat) (b:Array Value) (ty:TypeId),W2.heap[d]?=Y (Obj.cells b ty (0,0))->ty=172∨ty=5->d≠Wc/\(vv 5).ownBlock≠some d:=by
     intro d b ty e C;refine⟨λh7=>?_,λh7=>?_⟩;·rw[h7,M.blk.blk]at e;simp at e;rcases C with C|C<;>(rw[C]at e;exact absurd e.2 dG)
     ·obtain⟨c7,h6⟩:=eU (M.row 5 dG) h7;rw[h6]at e;simp at e;rcases C with C|C<;>(rw[C]at e;exact absurd e.2 dG)
    have e3:∀(d:Nat) (b:Array Value) (ty:TypeId),W2.heap[d]?=Y (Obj.cells b ty (0,0))->ty=172∨ty=5->w3.heap[d]?=W2.heap[d]?:=λd b ty e C=>(aD.block d (Nat.lt_of_lt_of_le (mY e) i.size) (λh7=>(aa d b ty e C).2 h7.symm)).trans (i.block d (mY e));have e4:∀(d:Nat) (b:Array Value) (ty:TypeId),W2.heap[d]?=Y (Obj.cells b ty (0,0))->ty=172∨ty=5->(w3.setCell ⟨Wc,5,Z⟩ v').heap[d]?=W2.heap[d]?:=λd b ty e C=>((dI.setCell w3 ⟨Wc,5,Z⟩ v').block d (aa d b ty e C).1).trans (e3 d b ty e C);obtain⟨_,_,_,cg,q4⟩:=ae.out;refine⟨a1,a2,⟨a8 _ (e3 g cg _ q4 (.inl rfl)) (λd b e=>e3 d b _ e (.inr rfl)),a8 _ (e4 g cg _ q4 (.inl rfl)) (λd b e=>e4 d b _ e (.inr rfl))⟩,k+1,oG,rfl,⟨_,a3,?_⟩,?_,ah.trans ((i.mono M.jd).trans a4),?_⟩
    ·intro d O;rw[lG]at O;obtain⟨g',b1,b2⟩:=o;rw[b1]at O;have C:g'=d:=by simpa using O
     subst C;rcases b2 with b2|⟨b2,_⟩;·exact ak.out g' b2
     ·right;have:=i.size;have:=q.size;omega
    ·exact(ap.later i).keep a5 V.blk dG (λd e=>eU (V.row 5 dG) e) dG
    ·refine⟨a5.os.trans (i.os.trans q.os),a5.tape.trans (i.tape.trans q.tape),a5.output.trans (i.output.trans q.output),Nat.le_trans q.size (Nat.le_trans i.size a5.size),λd e C=>?_⟩;have h7:=q.size;have h6:=i.size;refine(a5.block d oG (λh5=>h5.elim (λh4=>C (.inl h4)) (λh4=>(ak.out d h4).elim (λh3=>C (.inr h3)) (λh3=>oG)))).trans ?_;exact(i.block d oG).trans (q.block d e C)
   have aV:IntKind.i64.wrap ((k:Int)+1)=(k:Int)+1:=IntWalk.i64_in _ oG;refine eY (S:=λw'=>w'.cell? ⟨g,k*2,Z⟩=Y (I z.1)/\w'.cell? ⟨g,k*2+1,Z⟩=Y (J E z.2.pk.length H)/\gH w' B (J E z.2.pk.length H) z.2.pk) (λ_=>?_) (hS:=am);refine dB 0 ?_;refine dB 1 ?_;refine dB 2 ?_;refine dB 3 ?_;refine dB 5 ?_;refine dB 6 ?_;refine dB 7 (v:=P0 (Y ⟨g,k*2,Z⟩)) ?_ (hy:=λw L=>by go_simp);refine dB 8 (v:=P0 (Y ⟨g,k*2,Z⟩)) ?_;refine dB 9 (v:=I z.1) ?_ (hy:=λw L=>by have e:=L.1;go_simp);refine dB 10 ?_;refine dB 11 ?_;refine dB 12 (v:=P0 (Y ⟨g,k*2,Z⟩)) ?_ (hy:=λw L=>by go_simp);refine dB 13 (v:=P0 (Y ⟨g,k*2+1,Z⟩)) ?_;refine dB 14 (v:=J E z.2.pk.length H) ?_ (hy:=λw L=>by have e:=L.2.1;go_simp);refine dB 15 (v:=.string (dE z.2.pk)) ?_ (hy:=λw L=>by have e:=tM L.2.2.ja;first|(go_simp;done)|(go_simp;rw[e];rfl)|(go_simp;simp[e];done)|(simp[execOp];go_simp;rw[e]));refine dB 16 ?_;refine jC [4,17] ?_;refine .cons rfl (λK A=>?_) ?_
   ·(try go_simp);refine k1 A (λ_=>?_) am;clear A K;refine dF 17 λK A=>?_;(try go_simp);refine k1 A (λ_=>?_) ac;clear A K;refine dF 18 λK A=>?_;refine iX rfl (.tmp 37) (.tmp 50) 60 rfl base 174 i0 (.agg #[I 0,.string ⟨#[]⟩]) 2 24 underlying60 ay al aA aw rfl dG (vv 5) (rN hs W 5) (rX hs W 5) eG ao ⟨W2.heap.size,0,Z⟩ 1 1 [I z.1,.string (dE z.2.pk)] oG eG rfl aj (by intro u hu;simp at hu;rcases hu with rfl|rfl<;>rfl) xG oG av ?_;intro v' w3 N U o;obtain⟨aO,aF,rfl⟩:=dZ N;obtain⟨aI,aN,R,af⟩:=HP.out _ w3 N U o;clear N U o;refine k1 A (λ_=>?_) R.1;clear A K;refine dB 19 ?_;refine dB 20 ?_;refine dF 21 λK A=>?_;(try go_simp);refine k1 A (λ_=>?_) R.2;clear A K;refine dn ?_;go_wp2_with fail;go_roundw;case rel=>exact af
    case measure=>simp[intOf];omega
   refine .cons rfl (λK A=>?_) .nil;(try go_simp);refine k1 A (λ_=>?_) ac;clear A K;refine dF 4 λK A=>?_;(try go_simp);refine k1 A (λ_=>?_) ac;clear A K;refine dF 18 λK A=>?_;refine iX rfl (.tmp 37) (.tmp 50) 60 rfl base 174 i0 (.agg #[I 0,.string ⟨#[]⟩]) 2 24 underlying60 ay al aA aw rfl dG (vv 5) (rN hs W 5) (rX hs W 5) eG ao ⟨W2.heap.size,0,Z⟩ 1 1 [I z.1,.string (dE z.2.pk)] oG eG rfl aj (by intro u hu;simp at hu;rcases hu with rfl|rfl<;>rfl) xG oG av ?_;intro v' w3 N U o;obtain⟨aO,aF,rfl⟩:=dZ N;obtain⟨aI,aN,R,af⟩:=HP.out _ w3 N U o;clear N U o;refine k1 A (λ_=>?_) R.1;clear A K;refine dB 19 ?_;refine dB 20 ?_;refine dF 21 λK A=>?_;(try go_simp);refine k1 A (λ_=>?_) R.2;clear A K;refine dn ?_;go_wp2_with fail;go_roundw;case rel=>exact af
   case measure=>simp[intOf];omega
  have aM:out.take k=out:=List.take_of_length_le oG;have b0:decide ((k:Int)<(out.length:Int))=false:=by simp;omega
  rw[aM]at HC;go_wp2;refine bodyPost_end (v:=.tuple #[]) (by simp[results,results52,go_sem]) rfl ?_;exact⟨rfl,⟨_,HC⟩,ag,F⟩
end Go.Proofs.YtdcainmlcpafbaaGreatDoor
