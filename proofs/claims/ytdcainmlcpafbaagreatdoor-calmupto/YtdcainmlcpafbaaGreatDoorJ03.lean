import Derived.Test.YtdcainmlcpafbaaGreatDoorJ02
import Derived.Laws.OwnMore
import Derived.Deep.RegionLaw
set_option linter.all false
set_option maxHeartbeats 8000000
set_option maxRecDepth 20000
namespace Go.Proofs.YtdcainmlcpafbaaGreatDoor
open Go.RowKit
open Value renaming slice->J,pointer->P0
open Tryz
open Tryz renaming prog->pG
open IntKind renaming i64->T
open Option renaming none->Z,some->Y
open Obj renaming cells->G
open Value (bool)
structure FD where
 n:List UInt8
 d:List UInt8
 s:Nat
def FD.cells(f:FD):List Value:=[.string (dL f.n),.string (dL f.d),I (f.s:Int)]
def rH(a b:List UInt8):((dL a).toList==(dL b).toList)=(a==b):=by rw[←beq_toListBytes];show((⟨a⟩:Array UInt8)==⟨b⟩)=(a==b);simp
def CD(fs:List FD):(fs.flatMap FD.cells).length=fs.length*3:=by
 induction fs with
 |nil=>rfl
 |cons f fs ih=>rw[List.flatMap_cons,List.length_append,ih];simp[FD.cells];omega
def kZ:∀(fs:List FD) (i:Nat) (h:i<fs.length) (k:Nat) (b:k<3),(fs.flatMap FD.cells)[i*3+k]?=Y (fs[i].cells.getD k undef):=by
 intro fs;induction fs with
 |nil=>intro i h;simp at h
 |cons f fs ih=>
  intro i h k b;rw[List.flatMap_cons];have a:f.cells.length=3:=rfl;match i with
  |0=>rw[List.getElem?_append_left (by rw[a];omega)];simp only[Nat.zero_mul,Nat.zero_add,List.getElem_cons_zero];rw[List.getD_eq_getElem?_getD,List.getElem?_eq_getElem (by rw[a];exact b)];rfl
  |i+1=>rw[List.getElem?_append_right (by rw[a];omega),a,show(i+1)*3+k - 3=i*3+k by omega];exact ih i (by simpa using h) k b
structure DS(ty e:TypeId)(low:Nat)(w:World)(S:Nat)(v:Value)(fs:List FD)(left:Int):Prop where
 st:w.1[S]?=Y (.cells #[v,I left] ty (0,0))
 row:w.ownsRow low e 3 v fs.length (fs.flatMap FD.cells)
section
variable {ty e:TypeId} {low:Nat} {w:World} {S:Nat} {v:Value} {fs:List FD} {left:Int}
def DS.lt(h:DS ty e low w S v fs left):S<w.1.size:=(Array.getElem?_eq_some_iff.1 h.st).1
def DS.cell(h:DS ty e low w S v fs left)(i:Nat):w.cell? ⟨S,i,Z⟩=#[v,I left][i]?:=by simp[World.cell?,h.st]
def DS.free(h:DS ty e low w S v fs left)(i:Nat):w.frozen? ⟨S,i,Z⟩=false:=by simp[World.frozen?,h.st]
def DS.off(h:DS ty e low w S v fs left)(a:ty≠e):v.ownBlock≠some S:=by
 intro b;rcases h.row.2 with⟨rfl,_⟩|⟨g,f,d,rfl,_,c,_⟩;·simp[Value.ownBlock]at b
 ·simp[Value.ownBlock]at b;subst b;rw[h.st]at c;simp at c;exact a c.2
def DS.kept(h:DS ty e low w S v fs left){w':World}(f:w'.1[S]?=w.1[S]?)(d:∀g,v.ownBlock=Y g->w'.1[g]?=w.1[g]?):DS ty e low w' S v fs left:=by
 refine⟨f.trans h.st,h.row.1,?_⟩;rcases h.row.2 with i|⟨g,b,a,c,k,l,j⟩;·exact .inl i
 ·exact .inr ⟨g,b,a,c,k,(d g (by rw[c];rfl)).trans l,j⟩
def wC(w:World)(S:Nat)(a:Array Value)(t:TypeId)(i:Nat)(u:Value)(h:w.1[S]?=Y (.cells a t (0,0))):(w.setCell ⟨S,i,Z⟩ u).1[S]?=Y (.cells (a.setIfInBounds i u) t (0,0)):=by obtain⟨c,b⟩:=Array.getElem?_eq_some_iff.1 h;simp[World.setCell,Array.getElem_modify,b,c]
def DS.relay(h:DS ty e low w S v fs left)(c:ty≠e)(l:Int):DS ty e low (w.setCell ⟨S,1,Z⟩ (I l)) S v fs l:=by
 have a:=h.off c;refine⟨by rw[wC w S _ _ 1 _ h.st];rfl,h.row.1,?_⟩;rcases h.row.2 with j|⟨g,d,b,f,m,n,k⟩;·exact .inl j
 ·refine .inr ⟨g,d,b,f,m,?_,k⟩;rw[Below.heap_setCell _ _ _ _ (by intro i;apply a;rw[f,i];rfl)];exact n
end
def oY(low S:Nat)(v:Value)(fs:List FD)(left:Int)(w:World)(h:DS 98 107 low w S v fs left)(g:-9223372036854775808<=left/\left<=9223372036854775807):Calls pG 76 #[P0 (Y ⟨S,0,Z⟩)] w λr w'=>r=.returned (.bool (decide (left≠0)))/\w'=if 0<left then w.setCell ⟨S,1,Z⟩ (I (left - 1)) else w:=by
 have d:=h.cell 1;have f:=h.free 1;simp at d;clear h;by_cases a:left=0;·subst a;go_enter func76,ntmps76;go_wp2;go_ret;exact⟨rfl,rfl⟩
 ·have e:(left==0)=false:=by simpa using a
  by_cases b:0<left;·have c:Hid (decide (left≠0)=true/\(if 0<left then w.setCell ⟨S,1,Z⟩ (I (left - 1)) else w)=w.setCell ⟨S,1,Z⟩ (I (left - 1))):=⟨by simpa using a,if_pos b⟩;go_enter func76,ntmps76;go_wp2;go_ret;exact⟨rfl,rfl⟩
  ·have c:Hid (decide (left≠0)=true/\(if 0<left then w.setCell ⟨S,1,Z⟩ (I (left - 1)) else w)=w):=⟨by simpa using a,if_neg b⟩;go_enter func76,ntmps76;go_wp2;go_ret;exact⟨rfl,rfl⟩
def u6:(Tryz.prog.info? 107).map (λi=>(i.zero,i.size,i.bytes))=Y (Y (.agg #[.string ⟨#[]⟩,.string ⟨#[]⟩,I 0]),3,40):=kG
def lT{w:World}{base e n:Nat}{v:Value}{xs:List Value}(h:w.ownsRow base e 3 v n xs):∃a c,v=J a n c/\(n=0∨∃g,a=Y ⟨g,0,Z⟩/\base<=g/\g<w.1.size/\∀j u,xs[j]?=Y u->w.cell? ⟨g,j,Z⟩=Y u):=by
 rcases h.2 with⟨rfl,rfl⟩|⟨g,b,d,rfl,f,k,_⟩;·exact⟨none,0,rfl,.inl rfl⟩
 ·refine⟨_,b,rfl,.inr ⟨g,rfl,f,(h.lt g rfl).2,λj u i=>?_⟩⟩;have:=h.cells (g:=g) rfl j u i;rw[Go.WideShapes.add_plain]at this;simpa using this
def gX(fs:List FD)(nm:List UInt8):Option Nat:=fs.findIdx? (λf=>f.n==nm)
def pO(fs:List FD)(nm:List UInt8):Int:=match gX fs nm with
 |none=> -1
 |some i=>(i:Int)
def J3{fs:List FD}{a:List UInt8}{t:Nat}(h:t<fs.length)(d:(fs[t].n==a)=true)(c:∀j (b:j<fs.length),j<t->(fs[j].n==a)=false):gX fs a=Y t:=by unfold gX;rw[List.findIdx?_eq_some_iff_getElem];refine⟨h,d,λj b=>?_⟩;rw[c j oG b];simp
def J4{fs:List FD}{a:List UInt8}(d:∀j (b:j<fs.length),(fs[j].n==a)=false):gX fs a=none:=by unfold gX;rw[List.findIdx?_eq_none_iff];intro f c;obtain⟨j,b,rfl⟩:=List.getElem_of_mem c;exact d j b
def sR(low S:Nat)(v:Value)(fs:List FD)(left:Int)(b:List UInt8)(w:World)(h:DS 98 107 low w S v fs left)(C:fs.length<=4611686018427387904):Calls pG 77 #[P0 (Y ⟨S,0,Z⟩),.string (dL b)] w λr w'=>r=.returned (I (pO fs b))/\w'=w:=by
 have A:=h.cell 0;simp at A;obtain⟨a,c,rfl,d⟩:=lT h.row;have B:Hid _:=d;clear h d;go_enter func77,ntmps77;go_wp2;go_loop [11,5] (λm _=>∃t:Nat,t<=fs.length/\m=I t/\∀j (l:j<fs.length),j<t->(fs[j].n==b)=false) (λm _=>fs.length - (intOf m).toNat);case atStart=>exact⟨0,oG,rfl,λj l E=>oG⟩
 case round=>
  obtain⟨t,D,rfl,f⟩:=hrel;have e:Hid _:=f;clear f;by_cases i:t<fs.length
  ·obtain⟨g,rfl,_,_,k⟩:=B.resolve_left oG;have p:=k _ _ (kZ fs t i 0 oG);simp[FD.cells]at p;have s:(t:Int)<(fs.length:Int):=oG;clear k;cases hq:(fs[t].n==b) with
   |true=>
    have q:=rH fs[t].n b;rw[hq]at q;have o:Hid (pO fs b=(t:Int)):=by unfold Hid pO;rw[J3 i hq e.out]
    clear hq;generalize fs[t].n=x at*;go_wp2;go_ret;exact⟨qE o.symm,rfl⟩
   |false=>
    have q:=rH fs[t].n b;rw[hq]at q;have y:=dF hq;clear hq;generalize fs[t].n=x at p q;go_wp2;go_round;case rel=>
     refine⟨t+1,oG,by go_num,λj l u=>?_⟩;by_cases z:j=t;·subst z;exact y
     ·exact e.out j l oG
    case measure=>simp[intOf];omega
  ·have o:Hid (pO fs b = -1):=by unfold Hid pO;rw[J4 (λj l=>e.out j l oG)]
   go_wp2;go_ret;exact⟨qE o.symm,rfl⟩
def eC(fs:List FD)(nm:List UInt8):List FD:=fs.filter (λf=>f.n != nm)
def J5(fs:List FD)(a:List UInt8)(t:Nat)(h:t<fs.length):eC (fs.take (t+1)) a=if(fs[t].n==a)=true then eC (fs.take t) a else eC (fs.take t) a++[fs[t]]:=by unfold eC;rw[List.take_succ_eq_append_getElem h,List.filter_append];cases hq:(fs[t].n==a)<;>simp[hq,bne]
def LV(fs:List FD)(a:List UInt8)(t:Nat):(eC (fs.take t) a).length<=t:=by unfold eC;exact Nat.le_trans (List.length_filter_le _ _) (by rw[List.length_take];omega)
def t6(low S:Nat)(v:Value)(fs:List FD)(left:Int)(b:List UInt8)(w:World)(h:DS 98 107 low w S v fs left)(hl:fs.length<=60000000000):Calls pG 80 #[P0 (Y ⟨S,0,Z⟩),.string (dL b)] w λr w'=>∃v',r=.returned v'/\w'.ownsRow w.1.size 107 3 v' (eC fs b).length ((eC fs b).flatMap FD.cells)/\Bw w w':=by
 obtain⟨i0,M,L,O,U⟩:=info_parts u6;have X:=h.cell 0;simp at X;have hS:=h.lt;obtain⟨a,c,rfl,i⟩:=lT h.row;have HR:Hid _:=i;have HT:Hid (fs.take fs.length=fs):=List.take_length;clear h i;go_enter func80,ntmps80;go_wp2;go_loopw [5,13,7] (λlx W _ wr=>∃t:Nat,t<=fs.length/\W=I t/\wr.ownsRow w.1.size 107 3 lx (eC (fs.take t) b).length ((eC (fs.take t) b).flatMap FD.cells)/\Bw w wr) (λ_ W _ _=>fs.length - (intOf W).toNat);case atStart=>exact⟨0,oG,rfl,World.ownsRow_nil _ _ _ _,Below.refl _ _⟩
 case round=>
  obtain⟨t,ht,rfl,V,E⟩:=hrel;have D:=dF V;have o:=dF E;have hc:=(E.cell (p:=⟨S,0,Z⟩) hS).trans X;have A:=E.size;obtain⟨la,z,rfl⟩:∃la z,u5=J la (eC (fs.take t) b).length z:=by obtain⟨x,y,N,_⟩:=lT V;exact⟨x,y,N⟩
  clear V E;have a1:=LV fs b t;by_cases e:t<fs.length
  ·obtain⟨g,rfl,_,m,f⟩:=HR.resolve_left oG;have j0:=(o.cell (p:=⟨g,t*3+0,Z⟩) m).trans (f _ _ (kZ fs t e 0 oG));have j1:=(o.cell (p:=⟨g,t*3+1,Z⟩) m).trans (f _ _ (kZ fs t e 1 oG));have j2:=(o.cell (p:=⟨g,t*3+2,Z⟩) m).trans (f _ _ (kZ fs t e 2 oG));simp[FD.cells]at j0 j1 j2;have a0:(t:Int)<(fs.length:Int):=oG;have K:Hid _:=J5 fs b t e;clear f;generalize fs[t]=F at*;cases hq:(F.n==b) with
   |true=>
    have q:=rH F.n b;rw[hq]at q;have k:Hid (eC (fs.take (t+1)) b=eC (fs.take t) b):=by unfold Hid;rw[K.out,hq];rfl
    clear hq K;go_wp2;go_roundw;case rel=>exact⟨t+1,oG,by go_num,by rw[k.out];exact D.alloc _,o.alloc A _⟩
    case measure=>simp[intOf];omega
   |false=>
    have q:=rH F.n b;rw[hq]at q;have k:Hid (eC (fs.take (t+1)) b=eC (fs.take t) b++[F]):=by unfold Hid;rw[K.out,hq];rfl
    clear hq K;go_wp2_with(at_builtin;go_loud (refine wpList_append_own _ rfl _ _ 96 rfl w.1.size 107 i0 (.agg #[.string ⟨#[]⟩,.string ⟨#[]⟩,I 0]) 3 40 underlying96 M L O U rfl dG _ (eC (fs.take t) b).length ((eC (fs.take t) b).flatMap FD.cells) rfl (World.ownsRow.alloc (World.ownsRow.alloc D _) _) ⟨wr.1.size+1,0,Z⟩ 1 1 [Value.string (dL F.n),Value.string (dL F.d),I (F.s:Int)] rfl rfl ?c1 ?c2 ?c3 ?c4 ?c5 ?_));case c1=>intro j u H;rw[Go.WideShapes.add_plain];refine(World.cell?_alloc_at _ _ _ _ sG).trans ?_;simpa using H
    case c2=>intro u H;simp at H;rcases H with rfl|rfl|rfl<;>rfl
    case c3=>unfold maxLen;omega
    case c4=>omega
    case c5=>simp;omega
    intro v' w9 l B _;obtain⟨xa,xc,rfl⟩:∃la z,v'=J la ((eC (fs.take t) b).length+1) z:=by obtain⟨x,y,N,_⟩:=lT l;exact⟨x,y,N⟩
    have HN:Hid (w9.ownsRow w.1.size 107 3 (J xa ((eC (fs.take t) b).length+1) xc) (eC (fs.take (t+1)) b).length ((eC (fs.take (t+1)) b).flatMap FD.cells)):=by unfold Hid;rw[k.out,List.length_append,List.flatMap_append];simp only[List.length_cons,List.length_nil,List.flatMap_cons,List.flatMap_nil,List.append_nil];exact l
    have C:=((o.alloc A _).alloc nG _).grown B nG (λg hg=>(World.ownsRow.lt D g hg).1);have R:Hid _:=C;clear l B C;go_wp2;go_roundw;case rel=>exact⟨t+1,oG,by go_num,HN,R⟩
    case measure=>simp[intOf];omega
  ·obtain rfl:t=fs.length:=oG;have Q:Hid (wr.ownsRow w.1.size 107 3 (J la (eC (fs.take fs.length) b).length z) (eC fs b).length ((eC fs b).flatMap FD.cells)):=by have:=D.out;unfold Hid;rw[HT.out]at this⊢;exact this
   clear D;go_wp2;go_ret;exact⟨_,rfl,Q,o⟩
structure gA(A:Nat->Prop)(w w':World):Prop where
 os:w'.os=w.os
 tape:w'.tape=w.tape
 output:w'.output=w.output
 size:w.1.size<=w'.1.size
 block:∀k,k<w.1.size->¬A k->w'.1[k]?=w.1[k]?
def gA.refl(A:Nat->Prop)(w:World):gA A w w:=⟨rfl,rfl,rfl,Nat.le_refl _,λ_ _ _=>rfl⟩
def gA.of_below{A:Nat->Prop}{w w':World}(h:Bw w w'):gA A w w':=⟨h.os,h.tape,h.output,h.size,λk a _=>h.block k a⟩
def gA.trans{A B:Nat->Prop}{w w1 w2:World}(h:gA A w w1)(k:gA B w1 w2)(e:∀b,b<w.1.size->B b->A b):gA A w w2:=⟨k.os.trans h.os,k.tape.trans h.tape,k.output.trans h.output,Nat.le_trans h.size k.size,λb a c=>(k.block b (Nat.lt_of_lt_of_le a h.size) (λd=>c (e b a d))).trans (h.block b a c)⟩
def gA.set(w:World)(S i:Nat)(u:Value):gA (λb=>b=S) w (w.setCell ⟨S,i,Z⟩ u):=
 have h:=dM.setCell w ⟨S,i,Z⟩ u
 ⟨h.os,h.tape,h.output,Nat.le_of_eq h.size.symm,λk _ a=>h.block k a⟩
def J6(w:World)(a:Addr)(u:Value):w.grownBy (w.setCell a u) (Y a.block):=
 have h:=dM.setCell w a u
 ⟨h.os,h.tape,h.output,Nat.le_of_eq h.size.symm,λk _ b=>h.block k (λe=>b (by rw[e]))⟩
def DL{w:World}{base a:Nat}{e:TypeId}{size:Nat}{v:Value}{n:Nat}{xs:List Value}(h:w.ownsRow base e size v n xs)(j:a<=base):w.ownsRow a e size v n xs:=by
 refine⟨h.1,?_⟩;rcases h.2 with i|⟨g,c,b,f,d,k⟩;·exact .inl i
 ·exact .inr ⟨g,c,b,f,Nat.le_trans j d,k⟩
def eL(ty e:TypeId)(low:Nat)(w:World)(S:Nat)(v:Value)(fs':List FD)(left':Int)(w':World):Prop:=
 ∃v',DS ty e low w' S v' fs' left'/\gA (λb=>b=S∨some b=v.ownBlock) w w'/\∀g,v'.ownBlock=Y g->v.ownBlock=Y g∨w.1.size<=g
def DS.store{ty e:TypeId}{low low':Nat}{w2:World}{R:Nat}{v b:Value}{a:List FD}{left:Int}(d:w2.1[R]?=Y (.cells #[v,I left] ty (0,0)))(g:w2.ownsRow low' e 3 b a.length (a.flatMap FD.cells))(c:low<=low')(f:b.ownBlock≠some R):DS ty e low (w2.setCell ⟨R,0,Z⟩ b) R b a left:=by
 refine⟨by rw[wC w2 R _ _ 0 _ d];rfl,?_⟩;refine(DL g c).kept (J6 w2 ⟨R,0,Z⟩ b) ?_;by_cases h:b.ownBlock=none;·exact .inl h
 ·exact .inr f
def DS.later{ty e:TypeId}{low:Nat}{w w':World}{S:Nat}{v:Value}{fs:List FD}{left:Int}(h:DS ty e low w S v fs left)(a:Bw w w'):DS ty e low w' S v fs left:=h.kept (a.block S h.lt) (λg b=>a.block g (h.row.lt g b).2)
def dX(fs:List FD)(nm:List UInt8):Option FD:=fs.find? (λf=>f.n==nm)
def J7{fs:List FD}{a:List UInt8}{t:Nat}(h:t<fs.length)(d:(fs[t].n==a)=true)(c:∀j (b:j<fs.length),j<t->(fs[j].n==a)=false):dX fs a=Y fs[t]:=by unfold dX;rw[List.find?_eq_some_iff_getElem];refine⟨d,t,h,rfl,λj b=>?_⟩;rw[c j oG b];rfl
def J8{fs:List FD}{a:List UInt8}(d:∀j (b:j<fs.length),(fs[j].n==a)=false):dX fs a=none:=by unfold dX;rw[List.find?_eq_none];intro f c;obtain⟨j,b,rfl⟩:=List.getElem_of_mem c;rw[d j b];simp
def jJ:FD:=⟨[],[],0⟩
def fQ(o:Option FD):FD:=o.getD jJ
def eA(left:Int):Int:=if 0<left then left - 1 else left
def pA{ty e:TypeId}{low:Nat}{w:World}{S:Nat}{v:Value}{fs:List FD}{left:Int}(h:DS ty e low w S v fs left)(c:ty≠e)(w':World)(a:w'=if 0<left then w.setCell ⟨S,1,Z⟩ (I (left - 1)) else w):DS ty e low w' S v fs (eA left)/\gA (λb=>b=S) w w'/\w'.1.size=w.1.size:=by
 unfold eA;by_cases d:0<left;·rw[if_pos d]at a⊢;subst a;exact⟨h.relay c _,gA.set _ _ _ _,(dM.setCell w ⟨S,1,Z⟩ _).size⟩
 ·rw[if_neg d]at a⊢;subst a;exact⟨h,gA.refl _ _,rfl⟩
def eL.pre{ty e:TypeId}{low S:Nat}{w w1 w':World}{v:Value}{fs':List FD}{left':Int}(a:gA (λb=>b=S) w w1)(h:eL ty e low w1 S v fs' left' w'):eL ty e low w S v fs' left' w':=by
 obtain⟨v',n,c,l⟩:=h;refine⟨v',n,?_,λg m=>?_⟩;·refine⟨c.os.trans a.os,c.tape.trans a.tape,c.output.trans a.output,Nat.le_trans a.size c.size,λk d i=>?_⟩;exact(c.block k (Nat.lt_of_lt_of_le d a.size) i).trans (a.block k d (λj=>i (.inl j)))
 ·rcases l g m with f|f;·exact .inl f
  ·exact .inr (Nat.le_trans a.size f)
def eL.same{ty e:TypeId}{low S:Nat}{w w':World}{v:Value}{fs:List FD}{left:Int}(h:DS ty e low w' S v fs left)(a:gA (λb=>b=S) w w'):eL ty e low w S v fs left w':=⟨v,h,⟨a.os,a.tape,a.output,a.size,λk f c=>a.block k f (λd=>c (.inl d))⟩,λg i=>.inl i⟩
structure fW(w:World)(D H S:Nat):Prop where
 d:w.1[D]?=Y (.cells #[P0 (Y ⟨S,0,Z⟩)] 100 (0,0))
 h:w.1[H]?=Y (.cells #[P0 (Y ⟨S,0,Z⟩)] 102 (0,0))
def fW.cd{w:World}{D H S:Nat}(h:fW w D H S):w.cell? ⟨D,0,Z⟩=Y (P0 (Y ⟨S,0,Z⟩)):=by simp[World.cell?,h.d]
def CE(low:Nat)(w:World):Calls pG 12 #[] w λr w'=>r=.returned (.tuple #[P0 (Y ⟨w.1.size+1,0,Z⟩),P0 (Y ⟨w.1.size+2,0,Z⟩)])/\DS 98 107 low w' w.1.size (J Z 0 0) [] (-1)/\fW w' (w.1.size+1) (w.1.size+2) w.1.size/\Bw w w'/\w'.1.size=w.1.size+3:=by
 have b:=(Below.refl w.1.size w).alloc r_ (G #[J Z 0 0,I (-1)] 98);have g:(w.alloc (G #[J Z 0 0,I (-1)] 98)).1[w.1.size]?=Y (.cells #[J Z 0 0,I (-1)] 98 (0,0)):=heap_alloc_new w _;have c:(w.alloc (G #[J Z 0 0,I (-1)] 98)).1.size=w.1.size+1:=sG;have f:∀a:World,a.1.size=w.1.size+1->a.1[w.1.size]?=Y (.cells #[J Z 0 0,I (-1)] 98 (0,0))->Bw w a->
   DS 98 107 low ((a.alloc (G #[P0 (Y ⟨w.1.size,0,Z⟩)] 100)).alloc (G #[P0 (Y ⟨w.1.size,0,Z⟩)] 102)) w.1.size (J Z 0 0) [] (-1)/\fW ((a.alloc (G #[P0 (Y ⟨w.1.size,0,Z⟩)] 100)).alloc (G #[P0 (Y ⟨w.1.size,0,Z⟩)] 102)) (w.1.size+1) (w.1.size+2) w.1.size/\Bw w ((a.alloc (G #[P0 (Y ⟨w.1.size,0,Z⟩)] 100)).alloc (G #[P0 (Y ⟨w.1.size,0,Z⟩)] 102))/\((a.alloc (G #[P0 (Y ⟨w.1.size,0,Z⟩)] 100)).alloc (G #[P0 (Y ⟨w.1.size,0,Z⟩)] 102)).1.size=w.1.size+3:=by
  intro a d i j;have s1:(a.alloc (G #[P0 (Y ⟨w.1.size,0,Z⟩)] 100)).1.size=w.1.size+2:=by simp[d]
  refine⟨⟨?_,World.ownsRow_nil _ _ _ _⟩,⟨?_,?_⟩,(j.alloc oG _).alloc nG _,by simp[d]⟩
  ·exact(heap_alloc_old _ _ oG).trans ((heap_alloc_old _ _ oG).trans i)
  ·refine(heap_alloc_old _ _ oG).trans ?_;have:=heap_alloc_new a (G #[P0 (Y ⟨w.1.size,0,Z⟩)] 100);rw[d]at this;exact this
  ·have:=heap_alloc_new (a.alloc (G #[P0 (Y ⟨w.1.size,0,Z⟩)] 100)) (G #[P0 (Y ⟨w.1.size,0,Z⟩)] 102);rw[s1]at this;exact this
 have h:=f _ c g b;have e:Hid _:=h;clear f h g b;go_enter func12,ntmps12;go_wp2;exact bodyPost_ret (v:=.tuple #[P0 (Y ⟨w.1.size+1,0,Z⟩),P0 (Y ⟨w.1.size+2,0,Z⟩)]) (by simp[results,results12,go_sem]) rfl ⟨rfl,e⟩
def fW.later{w w':World}{D H S:Nat}(h:fW w D H S)(a:w'.1[D]?=w.1[D]?)(b:w'.1[H]?=w.1[H]?):fW w' D H S:=⟨a.trans h.d,b.trans h.h⟩
def tD(fs:List FD)(a:List UInt8):pO fs a = -1/\gX fs a=none∨∃i:Nat,pO fs a=(i:Int)/\gX fs a=Y i/\i<fs.length:=by
 unfold pO;cases h:gX fs a with
 |none=>exact .inl ⟨rfl,rfl⟩
 |some i=>refine .inr ⟨i,rfl,rfl,?_⟩;unfold gX at h;rw[List.findIdx?_eq_some_iff_getElem]at h;exact h.1
def AI{fs:List FD}{b:List UInt8}{i:Nat}(h:gX fs b=Y i)(hi:i<fs.length):dX fs b=Y fs[i]:=by unfold gX at h;rw[List.findIdx?_eq_some_iff_getElem]at h;obtain⟨_,d,c⟩:=h;exact J7 hi d (λj e a=>by have:=c j a;simpa using this)
def AB{fs:List FD}{a:List UInt8}(h:gX fs a=none):dX fs a=none:=by unfold gX at h;rw[List.findIdx?_eq_none_iff]at h;exact J8 (λj b=>h _ (List.getElem_mem b))
def LW(low D H S:Nat)(v:Value)(fs:List FD)(left:Int)(a:List UInt8)(w:World)(f:fW w D H S)(h:DS 98 107 low w S v fs left)(j:fs.length<=60000000000):Calls pG 41 #[P0 (Y ⟨D,0,Z⟩),.string (dL a)] w λr w'=>r=.returned (.bool (dX fs a).isSome)/\w'=w:=by
 have cd:=f.cd;clear f;go_enter func41,ntmps41;go_wp2_with fail;refine(sR low S v fs left a w h oG).mono ?_;rintro r w' ⟨rfl,d⟩;replace d:=d.symm;subst d;rcases tD fs a with⟨c,b⟩|⟨i,c,b,g⟩
 ·have e:Hid ((dX fs a).isSome=false):=by unfold Hid;rw[AB b];rfl
  rw[c];clear c b h;go_wp2;go_ret;exact⟨mF e.symm,rfl⟩
 ·have e:Hid ((dX fs a).isSome=true):=by unfold Hid;rw[AI b g];rfl
  rw[c];clear c b h;go_wp2;go_ret;exact⟨mF e.symm,rfl⟩
def J9(low D H S:Nat)(v:Value)(fs:List FD)(left:Int)(e:List UInt8)(w:World)(n:fW w D H S)(h:DS 98 107 low w S v fs left)(t:fs.length<=60000000000):Calls pG 40 #[P0 (Y ⟨D,0,Z⟩),.string (dL e)] w λr w'=>r=.returned (.string (dL (fQ (dX fs e)).d))/\w'=w:=by
 have cd:=n.cd;have s:=h.cell 0;simp at s;clear n;go_enter func40,ntmps40;go_wp2_with fail;refine(sR low S v fs left e w h oG).mono ?_;rintro r w' ⟨rfl,l⟩;replace l:=l.symm;subst l;rcases tD fs e with⟨k,f⟩|⟨i,k,f,o⟩
 ·have m:Hid (dL (fQ (dX fs e)).d=⟨#[]⟩):=by unfold Hid;rw[AB f];rfl
  rw[k];clear k f h;go_wp2;go_ret;exact⟨by rw[m.out];rfl,rfl⟩
 ·have m:Hid (dL (fQ (dX fs e)).d=dL fs[i].d):=by unfold Hid;rw[AI f o];rfl
  rw[k];obtain⟨a,c,rfl,b⟩:=lT h.row;obtain⟨g,rfl,_,_,j⟩:=b.resolve_left oG;have q:=j _ _ (kZ fs i o 1 oG);simp[FD.cells]at q;have p:(i:Int)<(fs.length:Int):=oG;clear k f h j b;go_wp2;go_ret;exact⟨by rw[m.out];rfl,rfl⟩
def G3(low D H S:Nat)(v:Value)(fs:List FD)(left:Int)(w:World)(a:fW w D H S)(h:DS 98 107 low w S v fs left):Calls pG 42 #[P0 (Y ⟨D,0,Z⟩)] w λr w'=>r=.returned (.bool (left==0))/\w'=w:=by have cd:=a.cd;have b:=h.cell 1;simp at b;clear a h;go_enter func42,ntmps42;go_wp2;go_ret;exact⟨rfl,rfl⟩
def DS.drew{ty e:TypeId}{low:Nat}{w:World}{S:Nat}{v:Value}{fs:List FD}{left:Int}(h:DS ty e low w S v fs left):DS ty e low w.drew S v fs left:=⟨h.st,h.row⟩
structure oR where
 l:Value
 a:Value
 b:Value
 c:Value
 n:Nat
def oR.cells(e:oR):List Value:=[e.l,e.a,e.b,e.c,I e.n]
section
variable {P:Program} (w:World)
def zT(base:Nat)(t ty e:TypeId)(i:TypeInfo)(z:Value)(size bytes:Nat)(M:P.underlying t=Y (.slice e))(hi:P.info? e=Y i)(U:i.zero=Y z)(l:i.size=size)(E:i.bytes=bytes)(V:z.cells.size=size)(S:0<size)(v:Value)(n:Nat)(xs:List Value)(b:w.ownsRow base e size v n xs)(a:Addr)(m c:Nat)(news:List Value)(Q:0<m)(F:news.length=m*size)(d:∀j u,news[j]?=Y u->w.cell? (a.add j)=Y u)(W:∀u∈news,u.oneCell'=true)(C:n+m<=maxLen)(f:(n+m)*bytes<=140737488355328)(s:base<=w.1.size):∃v' w',(Builtin.append_ #[t,t] ty #[v,J (Y a) m c]).run P w=.ok v' w'/\w'.ownsRow base e size v' (n+m) (xs++news)/\w.grownBy w' v.ownBlock/\w'.ownsRow base e size v n xs/\∃R,v'.ownBlock=Y R/\(v.ownBlock=Y R∨w.1.size<=R/\w.grownBy w' none):=by
 obtain⟨v',w',N,h2,y,_⟩:=run_append_own (P:=P) w base t ty e i z size bytes M hi U l E V S v n xs b a m c news F d W C f s;refine⟨v',w',N,h2,y,?_⟩;subst l;subst E;have X:n+m<=9223372036854775807:=by simp only[maxLen]at C;omega
 rcases b.2 with⟨rfl,rfl⟩|⟨g,p,r,rfl,H,O,K,A,L,q⟩;·have hx:xs=[]:=List.eq_nil_of_length_eq_zero (by simpa using b.1);subst hx;have h:=run_append_nil (P:=P) w t ty e i z M hi U a m c news F d Q oG (by have hb:=f;simp only[Nat.zero_add]at hb;omega);rw[N]at h;injection h with e1 e2;subst e1;exact⟨World.ownsRow_nil _ _ _ _,w.1.size,rfl,.inr ⟨Nat.le_refl _,y⟩⟩
 ·by_cases o:n+m<=p
  ·have D:n*i.size+news.length<=r.size:=by rw[F,L,←Nat.add_mul];exact Nat.mul_le_mul_right _ o
   have h:=run_append_room (P:=P) w t ty e i M hi g n p r O a m c news F d W o D;rw[N]at h;injection h with e1 e2;subst e1;subst e2;refine⟨⟨b.1,.inr ⟨g,p,_,rfl,H,setRow_heap w g r _ e _ O,K,A,?_,?_⟩⟩,g,rfl,.inl rfl⟩;·simp only[List.size_toArray,List.length_append,List.length_take,List.length_drop,Array.length_toList];omega
   ·rw[q,List.append_assoc,←b.1];exact List.take_left
  ·have x:=b.cells (g:=g) rfl;have h:=run_append_grow (P:=P) w t ty e i z M hi U ⟨g,0,Z⟩ n p xs b.1 x a m c news F d oG oG (growslice_fits oG f);rw[N]at h;injection h with e1 e2;subst e1;subst e2;have B:=(b.lt g rfl).2;refine⟨⟨b.1,.inr ⟨g,p,r,rfl,H,(heap_alloc_old w.drew _ B).trans O,K,A,L,q⟩⟩,w.1.size,rfl,.inr ⟨Nat.le_refl _,y.os,y.tape,y.output,y.size,λk hk _=>heap_alloc_old w.drew _ hk⟩⟩
end
def zW(w:World)(a:Addr)(u:Value):w.grownBy (w.setCell a u) (Y a.block):=
 have h:=dM.setCell w a u
 ⟨h.os,h.tape,h.output,Nat.le_of_eq h.size.symm,λk _ b=>h.block k (λe=>b (by rw[e]))⟩
def sO(w:World)(a:Addr)(u:Value):(w.setCell a u).1.size=w.1.size:=(dM.setCell w a u).size
section
variable {e:TypeId} {low:Nat} {w1:World} {l:Value} {len:Nat} {xs:List Value} {wk:World} {cs:List Value}
end
def lG{P:Program}{ops:Array Oper}{o:Oper}{a:Act}{w:World}{K:Act->World->Prop}{Q:Exit->Act->World->Prop}{E:Prop}(B:o.guard=none)(s x:Operand)(t:TypeId)(g:o.op=Op.call {callee:=Callee.builtin Builtin.append,args:=#[s,x],argTypes:=#[t,t]})(base:Nat)(e:TypeId)(i:TypeInfo)(z:Value)(size bytes:Nat)(D:P.underlying t=Y (.slice e))(y:P.info? e=Y i)(O:i.zero=Y z)(C:i.size=size)(H:i.bytes=bytes)(V:z.cells.size=size)(F:0<size)(v:Value)(n:Nat)(xs:List Value)(hs:a.eval s=v)(d:w.ownsRow base e size v n xs)(l:Addr)(m c:Nat)(news:List Value)(h:0<m)(R:a.eval x=J (Y l) m c)(S:news.length=m*size)(W:∀j u,news[j]?=Y u->w.cell? (l.add j)=Y u)(p:∀u∈news,u.oneCell'=true)(q:n+m<=maxLen)(N:(n+m)*bytes<=140737488355328)(b:base<=w.1.size)(L:∀v' w',w'.ownsRow base e size v' (n+m) (xs++news)->w.grownBy w' v.ownBlock->(∃k,v'.ownBlock=Y k/\(v.ownBlock=Y k∨w.1.size<=k/\w.grownBy w' none))->K (a.put o.dst v') w'):if Region.wanted o (yielded ops a.tmps)=true then Oper.wp P o a w K Q else E:=by
 have M:Region.wanted o (yielded ops a.tmps)=true:=by simp[Region.wanted,B]
 rw[if_pos M];obtain⟨v',w',f,A,U,_,r⟩:=zT (P:=P) w base t o.type e i z size bytes D y O C H V F v n xs d l m c news h S W p q N b;unfold Oper.wp;simp only[execOp,g,resolve,invoke,builtin,Sem.run_bind,Sem.run_pure,Result.andThen_ok,List.map_toArray,List.map_cons,List.map_nil,hs,R,f];exact L v' w' A U r
def eK{w:World}{base:Nat}{e:TypeId}{size:Nat}{v:Value}{n:Nat}{xs:List Value}(h:w.ownsRow base e size v n xs):∃a c,v=J a n c:=by
 rcases h.2 with⟨rfl,rfl⟩|⟨g,d,b,rfl,_⟩;·exact⟨_,_,rfl⟩
 ·exact⟨_,_,rfl⟩
structure dQ(A:Nat->Prop)(w w':World):Prop where
 os:w'.os=w.os
 tape:w'.tape=w.tape
 output:w'.output=w.output
 size:w.1.size<=w'.1.size
 block:∀k,k<w.1.size->¬A k->w'.1[k]?=w.1[k]?
end Go.Proofs.YtdcainmlcpafbaaGreatDoor
