import Derived.Test.YtdcainmlcpafbaaGreatDoorJ28
set_option linter.all false
set_option maxHeartbeats 8000000
set_option maxRecDepth 20000
namespace Go.Proofs.YtdcainmlcpafbaaGreatDoor
open Go.RowKit
open Value renaming slice->J,pointer->P0
open Tryz
open Tryz renaming prog->pG
open IntKind renaming i64->T
open Option renaming none->Z,some->Y
open Obj renaming cells->G
open Value (bool)
structure CS where
 nb:Int
 ns:List AG.Nd
 lv:List Int
 net:List (Int×AG.Ms)
 ops:List AG.As
 rs:List dO
 rd:List Bool
 hi:List eM
 kn:List Int
structure Ho where
 Kn:Nat
 P:Pl
 C:Nat->Prop
 left:Int
def Ho.al(h:Ho)(g:Nat):Prop:=wK h.C h.Kn g
def lV(o:AG.As):List Value:=[I o.nd,I o.lf,I o.op,I o.bl,I o.v,bool o.rd,bool o.dn,I o.e,I o.q]
def fG(z:Int×AG.Ms):List Value:=[I z.1,.string (dL z.2.pk)]
def rT:Nat->TypeId
 |0=>72
 |1=>33
 |2=>34
 |5=>174
 |6=>178
 |7=>76
 |8=>4
 |9=>66
 |_=>3
def rS:Nat->Nat
 |5=>2
 |6=>9
 |7=>5
 |9=>3
 |_=>1
def rN(hs:List Ho)(s:CS):Nat->Nat
 |0=>hs.length
 |1=>hs.length
 |2=>hs.length
 |3=>s.3.length
 |5=>s.4.length
 |6=>s.ops.length
 |7=>s.rs.length
 |8=>s.rd.length
 |9=>s.hi.length
 |_=>s.kn.length
def rX(hs:List Ho)(s:CS):Nat->List Value
 |0=>hs.map (λh=>P0 (Y ⟨h.Kn,0,Z⟩))
 |1=>hs.map (λh=>P0 (Y ⟨h.P.D,0,Z⟩))
 |2=>hs.map (λh=>P0 (Y ⟨h.P.H,0,Z⟩))
 |3=>s.3.map I
 |5=>s.4.flatMap fG
 |6=>s.ops.flatMap lV
 |7=>s.rs.flatMap dO.cells
 |8=>s.rd.map bool
 |9=>s.hi.flatMap eM.cells
 |_=>s.kn.map I
def eW:List Nat:=[0,1,2,3,5,6,7,8,9,10]
def FT:∀k∈eW,rT k≠63:=dG
def E3:∀k∈eW,∀j∈eW,k≠j->rT k=rT j->(k=3/\j=10)∨(k=10/\j=3):=dG
@[reducible] def jS(v:Nat->Value)(nb:Int)(f:Bool):Array Value:=#[v 0,v 1,v 2,v 3,I nb,v 5,v 6,v 7,v 8,v 9,v 10,bool f]
structure dU(w:World)(Wc base t:Nat)(v:Nat->Value)(f:Bool)(hs:List Ho)(s:CS):Prop where
 blk:dI w Wc (jS v s.nb f) 63
 row:∀k∈eW,w.ownsRow base (rT k) (rS k) (v k) (rN hs s k) (rX hs s k)
 sep:∀g,(v 3).ownBlock=some g->(v 10).ownBlock≠some g
 hl:hs.length=s.ns.length
 host:∀i (h:i<hs.length) (h':i<s.ns.length),fN w hs[i].Kn hs[i].P t hs[i].C hs[i].left s.ns[i]
 ap:∀i j (hi:i<hs.length) (hj:j<hs.length),i≠j->∀g,hs[i].al g->¬hs[j].al g
 mg:∀k∈eW,∀g,(v k).ownBlock=some g->∀i (hi:i<hs.length),¬hs[i].al g
 ni:∀i (hi:i<hs.length),¬hs[i].al Wc
 low:base<=Wc/\2<=base/\∀i (hi:i<hs.length),∀g,hs[i].al g->base<=g
 ll:s.3.length=s.ns.length/\s.kn.length=s.ns.length
 n5:2<=s.ns.length/\s.ns.length<=5
 nb:1<=s.nb/\s.nb<=4
 tabs:dY w
 ids:∀i (h:i<s.ns.length),s.ns[i].id=(i:Int)/\s.ns[i].2=(s.ns.length:Int)/\s.ns[i].nb=s.nb
def fV.up{w:World}{P:Pl}{t t':Nat}{C:Nat->Prop}{left:Int}{n:AG.Nd}(h:fV w P t C left n)(b:t<=t'):fV w P t' C left n:=by
 induction b with
 |refl=>exact h
 |step _ ih=>obtain⟨x,d,fs,la,lo,rs,i,g,e,f,hi,c,a⟩:=ih.ex;exact⟨x,d,fs,la,lo,rs,i.mono (xT _),g.next,e,f.next,hi,c,a.next⟩
def fN.up{w:World}{Kn:Nat}{P:Pl}{t t':Nat}{C:Nat->Prop}{left:Int}{n:AG.Nd}(h:fN w Kn P t C left n)(a:t<=t'):fN w Kn P t' C left n:=⟨h.blk,h.nd.up a,h.ne,h.two⟩
def fN.same{w w':World}{Kn:Nat}{P:Pl}{t:Nat}{C:Nat->Prop}{left:Int}{n:AG.Nd}(h:fN w Kn P t C left n)(hs:w.1.size<=w'.1.size)(a:∀g,wK C Kn g->w'.1[g]?=w.1[g]?)(b:dY w'):fN w' Kn P t C left n:=⟨h.blk.same (a _ (.inr rfl)),h.nd.same hs (λg c=>a g (.inl c)) b,h.ne,h.two⟩
def fN.lt{w:World}{Kn:Nat}{P:Pl}{t:Nat}{C:Nat->Prop}{left:Int}{n:AG.Nd}(h:fN w Kn P t C left n):∀g,wK C Kn g->2<=g/\g<w.1.size:=by
 rintro g (a|rfl);·exact h.nd.lt g a
 ·exact⟨h.two,h.blk.lt⟩
section
variable {w w' w1 w2:World} {Wc base t t':Nat} {v v':Nat->Value} {f f':Bool} {hs hs':List Ho} {s s':CS}
def dU.jf(h:dU w Wc base t v f hs s):base<=w.1.size:=Nat.le_trans h.low.1 (Nat.le_of_lt h.blk.lt)
def dU.off(h:dU w Wc base t v f hs s){k:Nat}(b:k∈eW):(v k).ownBlock≠some Wc:=by intro d;obtain⟨c,a⟩:=fC (h.row k b) d;rw[h.blk.blk]at a;simp at a;exact FT k b a.2.symm
def dU.rsep(h:dU w Wc base t v f hs s){k j:Nat}(e:k∈eW)(i:j∈eW)(c:k≠j){g:Nat}(d:(v k).ownBlock=some g):(v j).ownBlock≠some g:=by
 intro b;obtain⟨n,l⟩:=fC (h.row k e) d;obtain⟨m,a⟩:=fC (h.row j i) b;rw[l]at a;simp at a;rcases E3 k e j i c a.2 with⟨rfl,rfl⟩|⟨rfl,rfl⟩;·exact h.sep g d b
 ·exact h.sep g b d
def dU.turn{k:Nat}(A:k∈eW)(h:dU w Wc base t v f hs s)(o:dQ (λg=>g=Wc∨(v k).ownBlock=some g) w w')(B:∀j∈eW,j≠k->v' j=v j)(M:dI w' Wc (jS v' s'.nb f') 63)(L:w'.ownsRow base (rT k) (rS k) (v' k) (rN hs s' k) (rX hs s' k))(F:∀g,(v' k).ownBlock=some g->(v k).ownBlock=some g∨w.1.size<=g)(q:s'.ns=s.ns)(E:s'.nb=s.nb)(x:s'.3.length=s.3.length/\s'.kn.length=s.kn.length)(u:∀j∈eW,j≠k->rN hs s' j=rN hs s j/\rX hs s' j=rX hs s j):dU w' Wc base t v' f' hs s'/\Below base w w':=by
 have r:dY w':=h.tabs.kept o (λb=>b.elim (λd=>by have:=h.low;omega) (λd=>by have:=(((h.row k A).lt 0 d).1);have:=h.low;omega)) (λb=>b.elim (λd=>by have:=h.low;omega) (λd=>by have:=(((h.row k A).lt 1 d).1);have:=h.low;omega));refine⟨⟨M,λj n=>?_,λg y l=>?_,by rw[q];exact h.hl,λi hi D=>?_,h.ap,λj n g a i hi=>?_,h.ni,h.low,by rw[q];exact⟨x.1.trans h.ll.1,x.2.trans h.ll.2⟩,by rw[q];exact h.n5,by rw[E];exact h.nb,r,by rw[q,E];exact h.ids⟩,?_⟩
 ·by_cases c:j=k;·subst c;exact L
  ·rw[B j n c,(u j n c).1,(u j n c).2];refine dW (h.row j n) (λg a=>o.block g ((h.row j n).lt g a).2 (λb=>b.elim (λd=>h.off n (by rw[a,d])) (λd=>h.rsep n A c a d)))
 ·have C:3∈eW:=dG;have m:10∈eW:=dG;by_cases z:3=k
  ·subst z;rw[B 10 m dG]at l;rcases F g y with b|b;·exact h.sep g b l
   ·have:=((h.row 10 m).lt g l).2;omega
  ·rw[B 3 C z]at y;by_cases p:10=k
   ·subst p;rcases F g l with b|b;·exact h.sep g y b
    ·have:=((h.row 3 C).lt g y).2;omega
   ·rw[B 10 m p]at l;exact h.sep g y l
 ·have H:i<s.ns.length:=by rw[q]at D;exact D
  have b:=h.host i hi H;have e:s'.ns[i]=s.ns[i]:=by simp only[q]
  rw[e];exact b.same o.size (λg a=>o.block g (b.lt g a).2 (λd=>d.elim (λK=>h.ni i hi (K ▸ a)) (λK=>h.mg k A g K i hi a))) r
 ·by_cases c:j=k
  ·subst c;rcases F g a with b|b;·exact h.mg j n g b i hi
   ·intro d;have:=((h.host i hi (by rw[←h.hl];exact hi)).lt g d).2;omega
  ·rw[B j n c]at a;exact h.mg j n g a i hi
 ·exact⟨o.os,o.tape,o.output,o.size,λg a=>o.block g (Nat.lt_of_lt_of_le a h.jf) (λb=>b.elim (λd=>by have:=h.low;omega) (λd=>by have:=((h.row k A).lt g d).1;omega))⟩
def dU.mark(h:dU w Wc base t v f hs s)(a:dM Wc w w')(d:dI w' Wc (jS v s.nb f') 63):dU w' Wc base t v f' hs s/\Below base w w':=dU.turn (k:=0) dG h ⟨a.os,a.tape,a.output,by rw[a.size];exact Nat.le_refl _,λg b c=>a.block g (λe=>c (.inl e))⟩ (λ_ _ _=>rfl) d (dW (h.row 0 dG) (λg b=>a.block g (λc=>h.off (k:=0) dG (by rw[b,c])))) (λg b=>.inl b) rfl rfl ⟨rfl,rfl⟩ (λ_ _ _=>⟨rfl,rfl⟩)
def dU.later(h:dU w Wc base t v f hs s)(b:Bw w w'):dU w' Wc base t v f hs s:=(dU.turn (k:=0) dG h (dQ.of_below b) (λ_ _ _=>rfl) (h.blk.later b) (dW (h.row 0 dG) (λg a=>b.block g ((h.row 0 dG).lt g a).2)) (λg a=>.inl a) rfl rfl ⟨rfl,rfl⟩ (λ_ _ _=>⟨rfl,rfl⟩)).1
def dU.up(h:dU w Wc base t v f hs s)(b:t<=t'):dU w Wc base t' v f hs s:=⟨h.blk,h.row,h.sep,h.hl,λi hi a=>(h.host i hi a).up b,h.ap,h.mg,h.ni,h.low,h.ll,h.n5,h.nb,h.tabs,h.ids⟩
def dU.call{i:Nat}(h:dU w Wc base t v f hs s)(hi:i<hs.length)(a0:i<s.ns.length){C':Nat->Prop}{left':Int}{n':AG.Nd}(W:t<=t')(X:fN w' hs[i].Kn hs[i].P t' C' left' n')(m:dR (wK hs[i].C hs[i].Kn) (wK C' hs[i].Kn) w w')(E:n'.id=s.ns[i].id/\n'.2=s.ns[i].2/\n'.nb=s.ns[i].nb):dU w' Wc base t' v f (hs.set i {hs[i] with C:=C',left:=left'}) {s with ns:=s.ns.set i n'}/\Below base w w':=by
 have H:dY w':=h.tabs.kept m.kept (λd=>by have:=h.low.2.2 i hi 0 d;have:=h.low;omega) (λd=>by have:=h.low.2.2 i hi 1 d;have:=h.low;omega);have r:∀j (u:j<(hs.set i {hs[i] with C:=C',left:=left'}).length),∀g,(hs.set i {hs[i] with C:=C',left:=left'})[j].al g->(j=i/\wK C' hs[i].Kn g)∨(j≠i/\∃e:j<hs.length,hs[j].al g):=by
  intro j u g o;by_cases c:j=i;·subst c;simp only[List.getElem_set_self]at o;exact .inl ⟨rfl,o⟩
  ·rw[List.getElem_set_ne (λd=>c d.symm)]at o;exact .inr ⟨c,by simpa using u,o⟩
 have M:∀(F:Ho->Value),F {hs[i] with C:=C',left:=left'}=F hs[i]->(hs.set i {hs[i] with C:=C',left:=left'}).map F=hs.map F:=by
  intro F hF;rw[List.map_set,hF];apply List.ext_getElem;·simp
  ·intro n q z;by_cases K:n=i;·subst K;simp
   ·rw[List.getElem_set_ne (λd=>K d.symm)]
 refine⟨⟨h.blk.same (m.kept.block Wc h.blk.lt (h.ni i hi)),λk l=>?_,h.sep,by simp[h.hl],λj u e=>?_,λa b ha U D g R L=>?_,λk l g o j u x=>?_,λj u x=>?_,⟨h.low.1,h.low.2.1,λj u g x=>?_⟩,by simp[h.ll],by simp[h.n5],h.nb,H,?_⟩,?_⟩
 ·have V:=dW (h.row k l) (λg o=>m.kept.block g ((h.row k l).lt g o).2 (λd=>h.mg k l g o i hi d));have e1:rN (hs.set i {hs[i] with C:=C',left:=left'}) {s with ns:=s.ns.set i n'} k=rN hs s k:=by unfold rN;split<;>simp
  have e2:rX (hs.set i {hs[i] with C:=C',left:=left'}) {s with ns:=s.ns.set i n'} k=rX hs s k:=by unfold rX;split<;>first|rfl|exact M _ rfl
  rw[e1,e2];exact V
 ·by_cases c:j=i;·subst c;simp only[List.getElem_set_self];exact X
  ·simp only[List.getElem_set_ne (λd=>c d.symm)];have N:j<hs.length:=by simpa using u
   have A:j<s.ns.length:=by simpa using e
   have d:=h.host j N A;exact(d.same m.kept.size (λg o=>m.kept.block g (d.lt g o).2 (λh8=>h.ap j i N hi c g o h8)) H).up W
 ·rcases r a ha g R with⟨rfl,q⟩|⟨q,B,z⟩
  ·rcases r b U g L with⟨rfl,_⟩|⟨S,y,O⟩;·exact D rfl
   ·rcases m.2 g q with p|p;·exact h.ap a b hi y D g p O
    ·have:=((h.host b y (by rw[←h.hl];exact y)).lt g O).2;omega
  ·rcases r b U g L with⟨rfl,S⟩|⟨S,y,O⟩
   ·rcases m.2 g S with p|p;·exact h.ap a b B hi q g z p
    ·have:=((h.host a B (by rw[←h.hl];exact B)).lt g z).2;omega
   ·exact h.ap a b B y D g z O
 ·rcases r j u g x with⟨rfl,q⟩|⟨q,e,z⟩
  ·rcases m.2 g q with p|p;·exact h.mg k l g o j hi p
   ·have:=((h.row k l).lt g o).2;omega
  ·exact h.mg k l g o j e z
 ·rcases r j u Wc x with⟨rfl,q⟩|⟨q,e,z⟩
  ·rcases m.2 Wc q with p|p;·exact h.ni j hi p
   ·have:=h.blk.lt;omega
  ·exact h.ni j e z
 ·rcases r j u g x with⟨rfl,q⟩|⟨q,e,z⟩
  ·rcases m.2 g q with p|p;·exact h.low.2.2 j hi g p
   ·have:=h.jf;omega
  ·exact h.low.2.2 j e g z
 ·intro j u;have A:j<s.ns.length:=by simpa using u
  by_cases c:j=i;·subst c;simp only[List.getElem_set_self,List.length_set];have:=h.ids j A;rw[E.1,E.2.1,E.2.2];exact this
  ·simp only[List.getElem_set_ne (λd=>c d.symm),List.length_set];exact h.ids j A
 ·exact⟨m.kept.os,m.kept.tape,m.kept.output,m.kept.size,λg Q=>m.kept.block g (Nat.lt_of_lt_of_le Q h.jf) (λd=>by have:=h.low.2.2 i hi g d;omega)⟩
end
def GG(o:AG.As):(lV o).length=9:=rfl
def zH{w:World}{g:Nat}{ops:List AG.As}(a:∀j u,(ops.flatMap lV)[j]?=Y u->w.cell? ⟨g,j,Z⟩=Y u)(t:Nat)(d:t<ops.length):w.rangeAt g (t*9) (lV ops[t]):=by
 intro k u b;have c:k<9:=by have:=(List.getElem?_eq_some_iff.1 b).1;simpa[lV] using this
 rw[a _ _ (lY lV 9 GG ops t d k c)];rw[List.getD_eq_getElem?_getD,b];rfl
def p9(r:dO)(o:AG.As):Bool:=(!o.rd&&(o.bl==r.bl))&&(o.v==r.v)
def K4(Wc:Nat)(a:Option Addr)(c:Nat)(ops:List AG.As)(r:dO)(w:World)(Q:w.cell? ⟨Wc,6,Z⟩=Y (J a ops.length c))(hW:Wc<w.1.size)(R:fM w (J a ops.length c) ops.length (ops.flatMap lV))(hl:ops.length<=2000000000)(B:r.v=0∨∃o∈ops,p9 r o=true):Calls pG 130 #[P0 (Y ⟨Wc,0,Z⟩),.agg #[I r.op,I r.bl,I r.v,I r.e,I r.q]] w λq w'=>q=.returned (.tuple #[])/\Bw w w':=by
 have k:=(Below.refl w.1.size w).alloc r_ (G #[I r.op,I r.bl,I r.v,I r.e,I r.q] 76);have HX:=dF (dI.new w #[I r.op,I r.bl,I r.v,I r.e,I r.q] 76);have O:=dF k;have HR:=dF R;have HC:=dF Q;have F:=k.size;clear R Q k;go_enter func130,ntmps130;by_cases x:r.v=0
 ·have A:(r.v==0)=true:=by simpa using x
  clear x;go_wp2;refine bodyPost_ret (v:=.tuple #[]) (by simp[results,results130,go_sem]) rfl ?_;exact⟨rfl,O⟩
 have h:=B.resolve_left x;have K:=dF h;have A:(r.v==0)=false:=by simpa using x
 clear B h x;go_upto_region 3 with fail;generalize World.alloc _ _=M at*;clear A;go_loopw [4] (λs4 wr=>∃t:Nat,t<=ops.length/\s4=I (t:Int)/\Bw M wr/\∀j (C:j<ops.length),j<t->p9 r ops[j]=false) (λs4 wr=>ops.length - (intOf s4).toNat);case atStart=>exact⟨0,oG,rfl,Below.refl _ _,by intro j _ C;omega⟩
 case round=>
  obtain⟨t,a0,rfl,i,m⟩:=hrel;have l:Hid (Bw w wr):=O.trans (i.mono F);have s:=dF m;have cw:wr.cell? ⟨Wc,6,Z⟩=Y (J a ops.length c):=(l.cell (p:=⟨Wc,6,Z⟩) hW).trans HC;have n:=dF (HX.later i);clear m;by_cases E:t<ops.length
  ·obtain⟨g,a1,h1,hg,z⟩:=HR.at oG;cases h1;have f:=zH (w:=wr) (ops:=ops) (λj u hu=>(l.cell (p:=⟨g,j,Z⟩) hg).trans (z j u hu)) t E;obtain⟨b,N⟩:∃y,p9 r ops[t]=y:=⟨_,rfl⟩;have H:=dF N;have d:=N;unfold p9 at d;obtain⟨o,D⟩:∃y,ops[t]=y:=⟨_,rfl⟩;rw[D]at f d;have o3:=f 3 (I o.bl) rfl;have o4:=f 4 (I o.v) rfl;have o5:=f 5 (bool o.rd) rfl;have x1:=n.cell 1;have x2:=n.cell 2;simp at x1 x2;clear f D z;obtain⟨W,U⟩:∃y,o.rd=y:=⟨_,rfl⟩;obtain⟨b2,e2⟩:∃y,(o.bl==r.bl)=y:=⟨_,rfl⟩;obtain⟨b3,e3⟩:∃y,(o.v==r.v)=y:=⟨_,rfl⟩;rw[U,e2,e3]at d;rw[U]at o5;have V:decide ((t:Int)<(ops.length:Int))=true:=nG;go_upto_region 5 with fail;have a2:(0:Int)<=(t:Int)/\(t:Int)<(ops.length:Int):=oG;cases W<;>cases b2<;>cases b3;all_goals
    simp only[Bool.not_true,Bool.not_false,Bool.true_and,Bool.and_true,Bool.false_and,Bool.and_false]at d
    subst d
    go_quiet (fail)
    go_wp2_with fail
    first
    | (go_roundw
       case rel=>exact⟨t+1,oG,rfl,below_drewN i _,λj C X=>if L:j=t then by subst L;exact H.out else s j C oG⟩
       case measure=>simp[intOf];omega)
    | (refine bodyPost_ret (v:=.tuple #[]) (by simp[results,results130,go_sem]) rfl ?_
       exact⟨rfl,below_drewN l _⟩)
  exfalso;obtain⟨o,D,S⟩:=K.out;obtain⟨j,C,rfl⟩:=List.getElem_of_mem D;have L:=s.out j C oG;rw[L]at S;exact absurd S sG
def gM(v:Nat->Value)(k:Nat)(x:Value)(j:Nat):Value:=if j=k then x else v j
def pJ{v:Nat->Value}{k j:Nat}{x:Value}(h:j≠k):gM v k x j=v j:=if_neg h
def mE{v:Nat->Value}{k:Nat}{x:Value}:gM v k x k=x:=if_pos rfl
def uP(v:Nat->Value)(nb:Int)(f:Bool)(x:Value):∀k∈eW,(jS v nb f).setIfInBounds k x=jS (gM v k x) nb f:=by intro k a;simp only[eW,List.mem_cons,List.mem_nil_iff,or_false]at a;rcases a with rfl|rfl|rfl|rfl|rfl|rfl|rfl|rfl|rfl|rfl<;>rfl
def uX(v:Nat->Value)(nb:Int)(f:Bool):∀k∈eW,(jS v nb f)[k]?=some (v k):=by intro k a;simp only[eW,List.mem_cons,List.mem_nil_iff,or_false]at a;rcases a with rfl|rfl|rfl|rfl|rfl|rfl|rfl|rfl|rfl|rfl<;>rfl
section
variable {w w' w1 w3:World} {Wc base t:Nat} {v:Nat->Value} {f:Bool} {hs:List Ho} {s s':CS}
def dU.cell(h:dU w Wc base t v f hs s){k:Nat}(a:k∈eW):w.cell? ⟨Wc,k,Z⟩=Y (v k):=(h.blk.cell k).trans (uX v s.nb f k a)
def dU.push{k m:Nat}{news:List Value}{v3:Value}(u:k∈eW)(h:dU w Wc base t v f hs s)(E:w3.ownsRow base (rT k) (rS k) v3 (rN hs s k+m) (rX hs s k++news))(o:w.grownBy w3 (v k).ownBlock)(C:∃i,v3.ownBlock=Y i/\((v k).ownBlock=Y i∨w.1.size<=i/\w.grownBy w3 none))(F:s'.ns=s.ns)(r:s'.nb=s.nb)(z:s'.3.length=s.3.length/\s'.kn.length=s.kn.length)(x:∀j∈eW,j≠k->rN hs s' j=rN hs s j/\rX hs s' j=rX hs s j)(H:rN hs s' k=rN hs s k+m)(L:rX hs s' k=rX hs s k++news):w3.cell? ⟨Wc,k,Z⟩=Y (v k)/\w3.frozen? ⟨Wc,k,Z⟩=false/\dU (w3.setCell ⟨Wc,k,Z⟩ v3) Wc base t (gM v k v3) f hs s'/\Below base w (w3.setCell ⟨Wc,k,Z⟩ v3)/\dQ (λg=>g=Wc∨(v k).ownBlock=some g) w (w3.setCell ⟨Wc,k,Z⟩ v3):=by
 have d:=h.off u;have l:dI w3 Wc (jS v s.nb f) 63:=h.blk.same (o.block Wc h.blk.lt (λc=>d c.symm));have y:v3.ownBlock≠some Wc:=by
  obtain⟨i,A,n⟩:=C;rw[A];intro c;have e:i=Wc:=by simpa using c
  subst e;rcases n with n|⟨n,_⟩;·exact d n
  ·have:=h.blk.lt;omega
 have a:=dM.setCell w3 ⟨Wc,k,Z⟩ v3;have B:dI (w3.setCell ⟨Wc,k,Z⟩ v3) Wc (jS (gM v k v3) s.nb f) 63:=by have:=l.set k v3;rw[uP v s.nb f v3 k u]at this;exact this
 have D:dQ (λg=>g=Wc∨(v k).ownBlock=some g) w (w3.setCell ⟨Wc,k,Z⟩ v3):=⟨a.os.trans o.os,a.tape.trans o.tape,a.output.trans o.output,by rw[a.size];exact o.size,λg b c=>(a.block g (λp=>c (.inl p))).trans (o.block g b (λp=>c (.inr p.symm)))⟩;have q:(w3.setCell ⟨Wc,k,Z⟩ v3).ownsRow base (rT k) (rS k) v3 (rN hs s k+m) (rX hs s k++news):=dW E (λg b=>a.block g (λc=>y (by rw[b,c])));have c:=dU.turn (v':=gM v k v3) (f':=f) (s':=s') u h D (λj _ K=>pJ K) (by rw[r];exact B) (by rw[mE,H,L];exact q) (λg b=>by
  rw[mE]at b;obtain⟨i,A,n⟩:=C;rw[A]at b;have e:i=g:=by simpa using b
  subst e;exact n.imp id (λp=>p.1)) F r z x
 exact⟨(l.cell k).trans (uX v s.nb f k u),l.free k,c.1,c.2,D⟩
def dQ.of_but{X:Nat}{A:Nat->Prop}(a:dM X w w')(c:A X):dQ A w w':=⟨a.os,a.tape,a.output,by rw[a.size];exact Nat.le_refl _,λg _ d=>a.block g (λb=>d (b ▸ c))⟩
end
def iA.at{w:World}{base:Nat}{ps:List (Int×List UInt8)}{cs:List Value}(h:iA w base ps cs):∀i (hi:i<ps.length),cs[i*2]?=some (I ps[i].1)/\∃x,cs[i*2+1]?=some x/\gJ w base x ps[i].2:=by
 induction h using iA.ind with
 |nil=>intro i hi;simp at hi
 |cons h1 h2 ih=>
  intro i hi;cases i with
  |zero=>exact⟨rfl,_,rfl,h1⟩
  |succ i=>
   obtain⟨a1,x,a,b⟩:=ih i (by simpa using hi);refine⟨?_,x,?_,?_⟩;·rw[show(i+1)*2=i*2+1+1 by omega];simpa using a1
   ·rw[show(i+1)*2+1=i*2+1+1+1 by omega];simpa using a
   ·simpa using b
def dZ.keep{w w':World}{B X:Nat}{l:Value}{ps:List (Int×List UInt8)}{cs:Array Value}{ty e:TypeId}{o:Option Nat}(h:dZ w B l ps)(s:dQ (λg=>g=X∨o=some g) w w')(r:dI w X cs ty)(p:ty≠172/\ty≠5)(q:∀g,o=some g->∃a,w.1[g]?=some (.cells a e (0,0)))(m:e≠172/\e≠5):dZ w' B l ps:=by
 have f:∀(g:Nat) (a:Array Value) (c:TypeId),w.1[g]?=some (Obj.cells a c (0,0))->c=172∨c=5->w'.1[g]?=w.1[g]?:=by
  intro g a c b n;refine s.block g (nM b) (λi=>?_);rcases i with rfl|i;·rw[r.blk]at b;simp at b;exact n.elim (λd=>p.1 (b.2.trans d)) (λd=>p.2 (b.2.trans d))
  ·obtain⟨u,d⟩:=q g i;rw[d]at b;simp at b;exact n.elim (λd=>m.1 (b.2.trans d)) (λd=>m.2 (b.2.trans d))
 obtain⟨j,k,t⟩:=h;exact⟨j,dW k (λg b=>by obtain⟨a,i⟩:=fC k b;exact f g a _ i (.inl rfl)),t.same (λg a _ b=>f g a _ b (.inr rfl))⟩
def yA:(Tryz.prog.info? 174).map (λi=>(i.zero,i.size,i.bytes))=Y (Y (.agg #[I 0,.string ⟨#[]⟩]),2,24):=kG
def CA(w:World)(Wc base t:Nat)(f:Bool)(hs:List Ho)(s:CS):Prop:=∃v,dU w Wc base t v f hs s
def uY(Wc base t:Nat)(f:Bool)(hs:List Ho)(s:CS)(l:Value)(out:List (Int×AG.Ms))(B:Nat)(w:World)(v:Nat->Value)(h:dU w Wc base t v f hs s)(hp:dZ w B l (fY out))(X:eR (hs.length:Int) out)(aM:s.4.length+out.length<=2000000000):Calls pG 52 #[P0 (Y ⟨Wc,0,Z⟩),l] w λr w'=>r=.returned (.tuple #[])/\CA w' Wc base t f hs {s with net:=s.4++out}/\Below base w w'/\dQ (λg=>g=Wc∨(v 5).ownBlock=some g) w w':=by
 obtain⟨i0,aH,az,aI,aG⟩:=info_parts yA;obtain⟨la,ln,lc,rfl⟩:=hp.shape;have U:(fY out).length=out.length:=by unfold fY;simp
 have aw:ln=out.length:=by obtain⟨cs,h1,_⟩:=hp;obtain⟨a,c,e⟩:=eK h1;cases e;exact U
 subst aw;have HO:=dF X;have HH:=dF h;have aA:=dF hp;clear h hp X;go_enter func52,ntmps52;go_upto_region 1 with fail;go_loopw [4] (λs4 wr=>∃k:Nat,k<=out.length/\s4=I (k:Int)/\(∃vv,dU wr Wc base t vv f hs {s with net:=s.4++out.take k}/\∀g,(vv 5).ownBlock=some g->(v 5).ownBlock=some g∨w.1.size<=g)/\dZ wr B (J la out.length lc) (fY out)/\Below base w wr/\dQ (λg=>g=Wc∨(v 5).ownBlock=some g) w wr) (λs4 wr=>out.length - (intOf s4).toNat);case atStart=>exact⟨0,oG,rfl,⟨v,by simpa using HH.out,λg hg=>.inl hg⟩,aA,Below.refl _ _,dQ.of_below b_⟩
 case round=>
  obtain⟨k,aN,rfl,⟨vv,hc,av⟩,ar,ai,ad⟩:=hrel;have af:=dF av;have E:=dF ad;clear av ad;have HC:=dF hc;have a7:=dF ar;have ab:=dF ai;clear hc ar ai;by_cases V:k<out.length
  ·obtain⟨z,hz⟩:∃y,out[k]=y:=⟨_,rfl⟩;have aL:=HO.out out[k] (List.getElem_mem V);have ap:out.take (k+1)=out.take k++[z]:=by rw[List.take_succ_eq_append_getElem V,hz]
   rw[hz]at aL;obtain⟨cs,N,ak⟩:=a7.out;obtain⟨p1,x,p2,p3⟩:=ak.at k (by rw[U];exact V);have al:(fY out)[k]'(by rw[U];exact V)=(z.1,z.2.pk):=by unfold fY;simp[hz]
   rw[al]at p1 p3;obtain⟨D,F,rfl⟩:=eK p3;rw[U]at N;obtain⟨g,aV,h1,hg,a9⟩:=(fM.ig N).at oG;cases h1;have l0:=a9 _ _ p1;have l1:=a9 _ _ p2;have am:∃b,wr.1[g]?=Y (.cells b 172 (0,0)):=fC N rfl;have c0:=HC.cell (k:=0) dG;obtain⟨a0,d0,aq⟩:=eK (HC.row 0 dG);rw[aq]at c0;have an:rN hs {s with net:=s.4++out.take k} 0=hs.length:=rfl;rw[an]at c0;have ay:decide ((k:Int)<(out.length:Int))=true:=nG;have t1:decide (z.1<0)=false:=nG;have t2:decide ((hs.length:Int)<=z.1)=false:=nG;have aY:(0:Int)<=(k:Int)/\(k:Int)<(out.length:Int):=oG;have HX:=dF (⟨l0,l1,p3,am⟩:wr.cell? ⟨g,k*2,Z⟩=Y (I z.1)/\wr.cell? ⟨g,k*2+1,Z⟩=Y (J D z.2.pk.length F)/\gJ wr B (J D z.2.pk.length F) z.2.pk/\∃b,wr.1[g]?=Y (.cells b 172 (0,0)));clear a9 N ak p1 p2 p3 al l1 am;go_upto_region 3 with fail;go_cut [29] (λs29 wx=>s29=.bool false/\∃R,wx=wr.drewN R);case first=>go_quiet (fail);go_wp2_with fail;go_meet;exact⟨rfl,_,rfl⟩
   case rest=>
   obtain⟨rfl,R,rfl⟩:=hcut;have n:Bw wr (wr.drewN R):=below_drewN b_ _;have aB:=dF (HC.later n);have aj:=dF (a7.later n);have ac:Hid (Below base w (wr.drewN R)):=ab.trans (n.mono HC.jf);have o:Hid (dQ (λg=>g=Wc∨(v 5).ownBlock=some g) w (wr.drewN R)):=⟨n.os.trans E.os,n.tape.trans E.tape,n.output.trans E.output,Nat.le_trans E.size n.size,λd e q=>(n.block d (Nat.lt_of_lt_of_le e E.size)).trans (E.block d e q)⟩;have aa:Hid ((wr.drewN R).cell? ⟨g,k*2,Z⟩=Y (I z.1)/\(wr.drewN R).cell? ⟨g,k*2+1,Z⟩=Y (J D z.2.pk.length F)/\gJ (wr.drewN R) B (J D z.2.pk.length F) z.2.pk/\∃b,(wr.drewN R).1[g]?=Y (.cells b 172 (0,0))):=by obtain⟨q1,q2,q3,b,q4⟩:=HX.out;exact⟨(n.cell (p:=⟨g,k*2,Z⟩) hg).trans q1,(n.cell (p:=⟨g,k*2+1,Z⟩) hg).trans q2,dW q3 (λd M=>n.block d (rJ q3 M)),b,(n.block g hg).trans q4⟩
   clear HC a7 ab HX n E l0 c0 aq an t1 t2;generalize wr.drewN R=W2 at*;go_upto_region 5 with fail;clear ay;obtain⟨S0,A⟩:∃y,({s with net:=s.4++out.take k}:CS)=y:=⟨_,rfl⟩;have L:Hid (dU W2 Wc base t vv f hs S0):=by rw[←A];exact aB
   have aO:rN hs S0 5<=2000000000:=by rw[←A];show(s.4++out.take k).length<=_;simp;omega
   have aQ:=L.cell (k:=5) dG;have aX:=L.blk.lt;have aK:g<W2.1.size:=by obtain⟨_,_,_,b,q4⟩:=aa.out;exact nM q4
   have i:Bw W2 (W2.alloc (G #[I z.1,.string (dL z.2.pk)] 174)).drew:=(a_ _ _).drew;have aE:base<=(W2.alloc (G #[I z.1,.string (dL z.2.pk)] 174)).drew.1.size:=Nat.le_trans L.jf i.size;have O:=dF (L.later i);have aW:(W2.alloc (G #[I z.1,.string (dL z.2.pk)] 174)).drew.cell? ⟨Wc,5,Z⟩=Y (vv 5):=O.cell (k:=5) dG;have W:∀W3:World,W3.1[g]?=W2.1[g]?->(∀(d:Nat) (b:Array Value),W2.1[d]?=Y (Obj.cells b 5 (0,0))->W3.1[d]?=W2.1[d]?)->W3.cell? ⟨g,k*2,Z⟩=Y (I z.1)/\W3.cell? ⟨g,k*2+1,Z⟩=Y (J D z.2.pk.length F)/\gJ W3 B (J D z.2.pk.length F) z.2.pk:=by intro W3 e1 e2;obtain⟨q1,q2,q3,q4⟩:=aa.out;exact⟨(World.cell?_of_block (a:=⟨g,k*2,Z⟩) e1).trans q1,(World.cell?_of_block (a:=⟨g,k*2+1,Z⟩) e1).trans q2,dW q3 (λd M=>by obtain⟨b,e⟩:=fC q3 M;exact e2 d b e)⟩
   have ah:W2.drew.cell? ⟨g,k*2,Z⟩=Y (I z.1)/\W2.drew.cell? ⟨g,k*2+1,Z⟩=Y (J D z.2.pk.length F)/\gJ W2.drew B (J D z.2.pk.length F) z.2.pk:=W _ rfl (λ_ _ _=>rfl);have ao:(W2.alloc (G #[I z.1,.string (dL z.2.pk)] 174)).drew.cell? ⟨g,k*2,Z⟩=Y (I z.1)/\(W2.alloc (G #[I z.1,.string (dL z.2.pk)] 174)).drew.cell? ⟨g,k*2+1,Z⟩=Y (J D z.2.pk.length F)/\gJ (W2.alloc (G #[I z.1,.string (dL z.2.pk)] 174)).drew B (J D z.2.pk.length F) z.2.pk:=W _ (i.block g aK) (λd b e=>i.block d (nM e));have aD:(W2.alloc (G #[I z.1,.string (dL z.2.pk)] 174)).drew.ownsRow base 174 2 (vv 5) (rN hs S0 5) (rX hs S0 5):=O.row 5 dG;have ax:∀j u,[I z.1,.string (dL z.2.pk)][j]?=Y u->(W2.alloc (G #[I z.1,.string (dL z.2.pk)] 174)).drew.cell? ((⟨W2.1.size,0,Z⟩:Addr).add j)=Y u:=by intro j u hu;rw[Go.WideShapes.add_plain];refine(World.cell?_alloc_at _ _ _ _ sG).trans ?_;simpa using hu
   have HP:Hid (∀v' w3,w3.ownsRow base 174 2 v' (rN hs S0 5+1) (rX hs S0 5++[I z.1,.string (dL z.2.pk)])->(W2.alloc (G #[I z.1,.string (dL z.2.pk)] 174)).drew.grownBy w3 (vv 5).ownBlock->(∃g',v'.ownBlock=Y g'/\((vv 5).ownBlock=Y g'∨(W2.alloc (G #[I z.1,.string (dL z.2.pk)] 174)).drew.1.size<=g'/\(W2.alloc (G #[I z.1,.string (dL z.2.pk)] 174)).drew.grownBy w3 none))->(w3.cell? ⟨Wc,5,Z⟩=Y (vv 5)/\w3.frozen? ⟨Wc,5,Z⟩=false/\((w3.cell? ⟨g,k*2,Z⟩=Y (I z.1)/\w3.cell? ⟨g,k*2+1,Z⟩=Y (J D z.2.pk.length F)/\gJ w3 B (J D z.2.pk.length F) z.2.pk)/\((w3.setCell ⟨Wc,5,Z⟩ v').cell? ⟨g,k*2,Z⟩=Y (I z.1)/\(w3.setCell ⟨Wc,5,Z⟩ v').cell? ⟨g,k*2+1,Z⟩=Y (J D z.2.pk.length F)/\gJ (w3.setCell ⟨Wc,5,Z⟩ v') B (J D z.2.pk.length F) z.2.pk))/\∃k2:Nat,k2<=out.length/\I ((k:Int)+1)=I (k2:Int)/\(∃vv,dU (w3.setCell ⟨Wc,5,Z⟩ v') Wc base t vv f hs {s with net:=s.4++out.take k2}/\∀g,(vv 5).ownBlock=some g->(v 5).ownBlock=some g∨w.1.size<=g)/\dZ (w3.setCell ⟨Wc,5,Z⟩ v') B (J (Y ⟨g,0,Z⟩) out.length lc) (fY out)/\Below base w (w3.setCell ⟨Wc,5,Z⟩ v')/\dQ (λg=>g=Wc∨(v 5).ownBlock=some g) w (w3.setCell ⟨Wc,5,Z⟩ v'))):=by
    intro v' w3 ho au C;obtain⟨a1,a2,a3,a4,a5⟩:=dU.push (s':={s with net:=s.4++out.take (k+1)}) (k:=5) (m:=1) dG O ho au C (by rw[←A]) (by rw[←A]) (by rw[←A];exact⟨rfl,rfl⟩) (by intro j hj aC;rw[←A];unfold rN rX;split<;>first|exact⟨rfl,rfl⟩|exact absurd rfl aC) (by rw[←A];show(s.4++out.take (k+1)).length=(s.4++out.take k).length+1;rw[ap];simp;omega) (by rw[←A];show(s.4++out.take (k+1)).flatMap fG=(s.4++out.take k).flatMap fG++_;rw[ap];simp[fG])
    have a6:∀(d:Nat) (b:Array Value) (ty:TypeId),W2.1[d]?=Y (Obj.cells b ty (0,0))->ty=172∨ty=5->d≠Wc/\(vv 5).ownBlock≠some d:=by
     intro d b ty e q;refine⟨λh7=>?_,λh7=>?_⟩;·rw[h7,L.blk.blk]at e;simp at e;rcases q with q|q<;>(rw[q]at e;exact absurd e.2 dG)
     ·obtain⟨c7,h6⟩:=fC (L.row 5 dG) h7;rw[h6]at e;simp at e;rcases q with q|q<;>(rw[q]at e;exact absurd e.2 dG)
    have e3:∀(d:Nat) (b:Array Value) (ty:TypeId),W2.1[d]?=Y (Obj.cells b ty (0,0))->ty=172∨ty=5->w3.1[d]?=W2.1[d]?:=λd b ty e q=>(au.block d (Nat.lt_of_lt_of_le (nM e) i.size) (λh7=>(a6 d b ty e q).2 h7.symm)).trans (i.block d (nM e));have e4:∀(d:Nat) (b:Array Value) (ty:TypeId),W2.1[d]?=Y (Obj.cells b ty (0,0))->ty=172∨ty=5->(w3.setCell ⟨Wc,5,Z⟩ v').1[d]?=W2.1[d]?:=λd b ty e q=>((dM.setCell w3 ⟨Wc,5,Z⟩ v').block d (a6 d b ty e q).1).trans (e3 d b ty e q);obtain⟨_,_,_,cg,q4⟩:=aa.out;refine⟨a1,a2,⟨W _ (e3 g cg _ q4 (.inl rfl)) (λd b e=>e3 d b _ e (.inr rfl)),W _ (e4 g cg _ q4 (.inl rfl)) (λd b e=>e4 d b _ e (.inr rfl))⟩,k+1,oG,rfl,⟨_,a3,?_⟩,?_,ac.trans ((i.mono L.jf).trans a4),?_⟩
    ·intro d M;rw[mE]at M;obtain⟨g',b1,b2⟩:=C;rw[b1]at M;have q:g'=d:=by simpa using M
     subst q;rcases b2 with b2|⟨b2,_⟩;·exact af.out g' b2
     ·right;have:=i.size;have:=o.size;omega
    ·exact(aj.later i).keep a5 O.blk dG (λd e=>fC (O.row 5 dG) e) dG
    ·refine⟨a5.os.trans (i.os.trans o.os),a5.tape.trans (i.tape.trans o.tape),a5.output.trans (i.output.trans o.output),Nat.le_trans o.size (Nat.le_trans i.size a5.size),λd e q=>?_⟩;have h7:=o.size;have h6:=i.size;refine(a5.block d oG (λh5=>h5.elim (λh4=>q (.inl h4)) (λh4=>(af.out d h4).elim (λh3=>q (.inr h3)) (λh3=>oG)))).trans ?_;exact(i.block d oG).trans (o.block d e q)
   have aS:IntKind.i64.wrap ((k:Int)+1)=(k:Int)+1:=IntWalk.i64_in _ oG;refine eZ (S:=λw'=>w'.cell? ⟨g,k*2,Z⟩=Y (I z.1)/\w'.cell? ⟨g,k*2+1,Z⟩=Y (J D z.2.pk.length F)/\gJ w' B (J D z.2.pk.length F) z.2.pk) (λ_=>?_) (hS:=ah);refine dH 0 ?_;refine dH 1 ?_;refine dH 2 ?_;refine dH 3 ?_;refine dH 5 ?_;refine dH 6 ?_;refine dH 7 (v:=P0 (Y ⟨g,k*2,Z⟩)) ?_ (hy:=λw H=>by go_simp);refine dH 8 (v:=P0 (Y ⟨g,k*2,Z⟩)) ?_;refine dH 9 (v:=I z.1) ?_ (hy:=λw H=>by have e:=H.1;go_simp);refine dH 10 ?_;refine dH 11 ?_;refine dH 12 (v:=P0 (Y ⟨g,k*2,Z⟩)) ?_ (hy:=λw H=>by go_simp);refine dH 13 (v:=P0 (Y ⟨g,k*2+1,Z⟩)) ?_;refine dH 14 (v:=J D z.2.pk.length F) ?_ (hy:=λw H=>by have e:=H.2.1;go_simp);refine dH 15 (v:=.string (dL z.2.pk)) ?_ (hy:=λw H=>by have e:=t7 H.2.2.je;first|(go_simp;done)|(go_simp;rw[e];rfl)|(go_simp;simp[e];done)|(simp[execOp];go_simp;rw[e]));refine dH 16 ?_;refine jC [4,17] ?_;refine .cons rfl (λK Q=>?_) ?_;focus
    (try go_simp)
    refine kr Q 17 (λK Q=>?_) ah
   rotate_left;focus
    refine .cons rfl (λK Q=>?_) .nil
    (try go_simp)
    refine kr Q 4 (λK Q=>?_) ao
   all_goals
    (try go_simp)
    refine kr Q 18 (λK Q=>?_) ao
    refine lG rfl (.tmp 37) (.tmp 50) 60 rfl base 174 i0 (.agg #[I 0,.string ⟨#[]⟩]) 2 24 underlying60 aH az aI aG rfl dG (vv 5) (rN hs S0 5) (rX hs S0 5) eG aD ⟨W2.1.size,0,Z⟩ 1 1 [I z.1,.string (dL z.2.pk)] oG eG rfl ax (by intro u hu;simp at hu;rcases hu with rfl|rfl<;>rfl) xG oG aE ?_
    intro v' w3 a8 ag C
    obtain⟨aU,aP,rfl⟩:=eK a8
    obtain⟨aR,aT,ae,aJ⟩:=HP.out _ w3 a8 ag C
    clear a8 ag C
    refine k1 Q (λ_=>?_) ae.1;clear Q K;refine dH 19 ?_;refine dH 20 ?_
    refine dT 21 λK Q=>?_
    (try go_simp)
    refine kd Q ?_ ae.2
    go_wp2_with fail
    go_roundw
    case rel=>exact aJ
    case measure=>simp[intOf];omega
  have aF:out.take k=out:=List.take_of_length_le oG;have aZ:decide ((k:Int)<(out.length:Int))=false:=nG;rw[aF]at HC;go_wp2;refine bodyPost_end (v:=.tuple #[]) (by simp[results,results52,go_sem]) rfl ?_;exact⟨rfl,⟨_,HC⟩,ab,E⟩
end Go.Proofs.YtdcainmlcpafbaaGreatDoor
