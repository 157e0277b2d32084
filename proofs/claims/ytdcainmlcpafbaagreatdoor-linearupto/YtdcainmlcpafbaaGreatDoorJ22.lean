import Derived.Test.YtdcainmlcpafbaaGreatDoorJ34
set_option linter.all false
set_option maxHeartbeats 8000000
set_option maxRecDepth 20000
namespace Go.Proofs.YtdcainmlcpafbaaGreatDoor
namespace AG
def rowsF(b:Int):List (Rs×Bool)->List Int->Int->Bool
  | [],_,_=>true
  |x::t,seen,now=>
    if x.1.bl≠b then rowsF b t seen now
    else if x.1.v=now then(if x.2=true then rowsF b t seen now else false)
    else if x.1.v∈seen then false
    else rowsF b t (seen++[x.1.v]) x.1.v
structure uV(b:Int)(fe fq:Int->Int)(l:List (Rs×Bool)):Prop where
  so:l.Pairwise (λx y=>lat y.1.e y.1.q x.1.e x.1.q)
  fi:∀x∈l,x.1.bl=b->x.1.v≠0->¬lat (fe x.1.v) (fq x.1.v) x.1.e x.1.q
  la:∀x∈l,∀y∈l,x.1.bl=b->y.1.bl=b->lat y.1.e y.1.q x.1.e x.1.q->y.1.v=x.1.v∨(y.1.v≠0/\lat (fe y.1.v) (fq y.1.v) x.1.e x.1.q)
  wr:∀x∈l,x.1.bl=b->x.2=false->x.1.v≠0/\fe x.1.v=x.1.e/\fq x.1.v=x.1.q
def MP{a b c d e f:Int}(h:¬lat a b c d)(h':lat e f c d):lat e f a b:=by unfold lat at*;omega
def BR{a b c d:Int}(h:lat a b c d)(h':lat c d a b):False:=by unfold lat at*;omega
def wU{b:Int}{p o:Int->Int}:∀(t:List (Rs×Bool)) (seen:List Int) (c:Int),uV b p o t->c∈seen->(∀x∈t,x.1.bl=b->x.1.v∈seen->x.1.v=c)->(∀x∈t,x.1.bl=b->x.2=false->x.1.v∉seen)->0∈seen->(∀v∈seen,v=0∨∀x∈t,lat x.1.e x.1.q (p v) (o v))->rowsF b t seen c=true
 | [],_,_,_,_,_,_,_,_=>rfl
 |x::t,seen,c,h,hn,h1,h2,h0,h3=>by
  have hs:=List.pairwise_cons.1 h.so;have r:uV b p o t:=⟨hs.2,λy hy=>h.fi y (List.mem_cons_of_mem _ hy),λy hy z E=>h.la y (List.mem_cons_of_mem _ hy) z (List.mem_cons_of_mem _ E),λy hy=>h.wr y (List.mem_cons_of_mem _ hy)⟩;have l:x∈x::t:=List.mem_cons_self;have keep:=wU t seen c r hn (λy hy=>h1 y (List.mem_cons_of_mem _ hy)) (λy hy=>h2 y (List.mem_cons_of_mem _ hy)) h0 (λv j=>(h3 v j).imp id (λa y hy=>a y (List.mem_cons_of_mem _ hy)));unfold rowsF;by_cases s:x.1.bl≠b;·rw[if_pos s];exact keep
  rw[if_neg s];have d:x.1.bl=b:=Decidable.not_not.1 s;by_cases j:x.1.v=c
  ·rw[if_pos j];cases hr:x.2;·exact absurd (j ▸ hn) (h2 x l d hr)
   ·rw[if_pos rfl];exact keep
  rw[if_neg j];have k:x.1.v∉seen:=λa=>j (h1 x l d a);rw[if_neg k];have B:x.1.v≠0:=λa=>k (a ▸ h0);have u:=h.fi x l d B;have beh:∀y∈t,lat y.1.e y.1.q (p x.1.v) (o x.1.v):=λy hy=>MP u (hs.1 y hy);refine wU t _ _ r sG (λy hy f i=>?_) (λy hy f n i=>?_) (List.mem_append_left _ h0) (λv w=>?_)
  ·rcases List.mem_append.1 i with a|a
   ·rcases h.la x l y (List.mem_cons_of_mem _ hy) d f (hs.1 y hy) with g|⟨g,m⟩;·exact g
    ·rcases h3 _ a with A|A;·exact absurd A g
     ·exact(BR m (A x l)).elim
   ·simpa using a
  ·rcases List.mem_append.1 i with a|a;·exact h2 y (List.mem_cons_of_mem _ hy) f n a
   ·have D:y.1.v=x.1.v:=by simpa using a
    have g:=(r.wr y hy f n).2;have m:=beh y hy;rw[←D,g.1,g.2]at m;exact BR m m
  ·rcases List.mem_append.1 w with a|a;·exact(h3 v a).imp id (λg y hy=>g y (List.mem_cons_of_mem _ hy))
   ·right;have C:v=x.1.v:=by simpa using a
    rw[C];exact beh
end AG
namespace AG
def lrs(y x:Rs):Prop:=lat y.e y.q x.e x.q
structure Sel(rs:List Rs)(ix:List Nat):Prop where
  lt:∀i∈ix,i<rs.length
  nd:ix.Nodup
  so:ix.Pairwise (λi j=>∀(hi:i<rs.length) (hj:j<rs.length),lrs rs[j] rs[i])
  le:∀i (hi:i<rs.length),i∉ix->∀j∈ix,∀hj:j<rs.length,lrs rs[i] rs[j]
def Sel.nil(rs:List Rs):Sel rs []:=⟨sG,List.nodup_nil,.nil,sG⟩
def Dis(rs:List Rs):Prop:=∀i j (hi:i<rs.length) (hj:j<rs.length),i≠j->lrs rs[i] rs[j]∨lrs rs[j] rs[i]
def Sel.add{rs:List Rs}{ix:List Nat}{k:Nat}(h:Sel rs ix)(p:Dis rs)(r:k<rs.length)(o:k∉ix)(q:∀i (hi:i<rs.length),i∉ix->¬lrs rs[k] rs[i]):Sel rs (ix++[k]):=by
 refine⟨λi hi=>?_,?_,?_,λi hi f j m e=>?_⟩
 ·rcases List.mem_append.1 hi with d|d;·exact h.lt i d
  ·have:i=k:=by simpa using d
   omega
 ·rw[List.nodup_append];refine⟨h.nd,sG,λa n b l=>?_⟩;have:b=k:=by simpa using l
  subst this;intro d;subst d;exact o n
 ·rw[List.pairwise_append];refine⟨h.so,sG,λa n b l hi m=>?_⟩;have:b=k:=by simpa using l
  subst this;exact h.le b m o a n hi
 ·have c:i∉ix/\i≠k:=by simpa using f
  rcases List.mem_append.1 m with d|d;·exact h.le i hi c.1 j d e
  ·have:j=k:=by simpa using d
   subst this;rcases p i j hi e c.2 with g|g;·exact g
   ·exact absurd g (q i hi c.1)
def CW:∀(n:Nat) (ix:List Nat),(∀i,i<n->i∈ix)->n<=ix.length
 |0,_,_=>Nat.zero_le _
 |n+1,ix,h=>by have b:=CW n (ix.erase n) (λi hi=>(List.mem_erase_of_ne oG).2 (h i oG));have a:=h n oG;rw[List.length_erase_of_mem a]at b;have:=List.length_pos_of_mem a;omega
def rU:∀(n:Nat) (ix:List Nat),ix.Nodup->(∀i∈ix,i<n)->ix.length<=n
 |0,ix,_,h=>by
  cases ix with
  |nil=>simp
  |cons a t=>have:=h a sG;omega
 |n+1,ix,hn,h=>by
  have c:=rU n (ix.erase n) (hn.erase n) (λi hi=>by
   have e:=h i (List.mem_of_mem_erase hi);have f:i≠n:=λd=>by subst d;exact hn.not_mem_erase hi
   omega)
  by_cases b:n∈ix;·rw[List.length_erase_of_mem b]at c;omega
  ·rw[List.erase_of_not_mem b]at c;omega
def Sel.len{rs:List Rs}{ix:List Nat}(h:Sel rs ix):ix.length<=rs.length:=rU _ _ h.nd h.lt
def Sel.left{rs:List Rs}{ix:List Nat}(h:Sel rs ix)(c:ix.length<rs.length):∃i,i<rs.length/\i∉ix:=by apply Decidable.byContradiction;intro b;have:=CW rs.length ix (λi hi=>Decidable.byContradiction (λa=>b ⟨i,hi,a⟩));omega
def Sel.row{rs:List Rs}{rd:List Bool}{ix:List Nat}{b:Int}{k f:Int->Int}(h:Sel rs ix)(r:rd.length=rs.length)(n:∀i (hi:i<rs.length),rs[i].bl=b->rs[i].v≠0->¬lat (k rs[i].v) (f rs[i].v) rs[i].e rs[i].q)(l:∀i j (hi:i<rs.length) (g:j<rs.length),rs[i].bl=b->rs[j].bl=b->lrs rs[j] rs[i]->rs[j].v=rs[i].v∨(rs[j].v≠0/\lat (k rs[j].v) (f rs[j].v) rs[i].e rs[i].q))(m:∀i (hi:i<rs.length),rs[i].bl=b->rd[i]' oG=false->rs[i].v≠0/\k rs[i].v=rs[i].e/\f rs[i].v=rs[i].q):uV b k f ((ix.map (λi=>rs.getD i ⟨0,0,0,0,0⟩)).zip (ix.map (λi=>rd.getD i false))):=by
 have p:(ix.map (λi=>rs.getD i ⟨0,0,0,0,0⟩)).zip (ix.map (λi=>rd.getD i false))=ix.map (λi=>(rs.getD i ⟨0,0,0,0,0⟩,rd.getD i false)):=by rw[List.zip_map']
 rw[p];have a:∀i (hi:i<rs.length),rs.getD i ⟨0,0,0,0,0⟩=rs[i]:=λi hi=>by rw[List.getD_eq_getElem?_getD,List.getElem?_eq_getElem hi];rfl
 have o:∀i (hi:i<rs.length),rd.getD i false=rd[i]' oG:=λi hi=>by rw[List.getD_eq_getElem?_getD,List.getElem?_eq_getElem oG];rfl
 refine⟨?_,λx c=>?_,λx c y hy=>?_,λx c=>?_⟩;·rw[List.pairwise_map];refine h.so.imp_of_mem (λ{i j} hi g h9=>?_);have a1:=h.lt i hi;have d:=h.lt j g;dsimp only;rw[a i a1,a j d];exact h9 a1 d
 ·obtain⟨i,hi,rfl⟩:=List.mem_map.1 c;have a1:=h.lt i hi;dsimp only;rw[a i a1];exact n i a1
 ·obtain⟨i,hi,rfl⟩:=List.mem_map.1 c;obtain⟨j,g,rfl⟩:=List.mem_map.1 hy;have a1:=h.lt i hi;have d:=h.lt j g;dsimp only;rw[a i a1,a j d];exact l i j a1 d
 ·obtain⟨i,hi,rfl⟩:=List.mem_map.1 c;have a1:=h.lt i hi;dsimp only;rw[a i a1,o i a1];exact m i a1
end AG
section
open Go.RowKit
open Value renaming slice->J,pointer->P0
open Tryz
open Tryz renaming prog->pG
open IntKind renaming i64->T
open Option renaming none->Z,some->Y
open Obj renaming cells->G
open Value (bool)
def yM(r:dJ):(dJ.cells r).length=5:=rfl
def NT(al ar:Option Addr)(cl cr:Nat)(l:List dJ)(rd:List Bool)(b:Int)(w:World)(hl:eL w (J al l.length cl) l.length (l.flatMap dJ.cells))(B:eL w (J ar rd.length cr) rd.length (rd.map bool))(M:rd.length=l.length)(hn:l.length<=100000000)(K:AG.rowsF b (l.zip rd) [0] 0=true):Calls pG 20 #[J al l.length cl,J ar rd.length cr,I b] w λq w'=>q=.returned (bool true)/\Below w.heap.size w w':=by
 have HL:=dA hl;have HR:=dA B;have D:=dA K;have a9:=dA M;clear hl B K M;obtain⟨i3,ae,a7,a8,a2⟩:=info_parts uR;go_enter func20,ntmps20;go_upto_region 3 with fail;have H:Hid (fI (w.alloc (G #[I 0] 3)) w.heap.size (J (Y ⟨w.heap.size,0,Z⟩) 1 1) [0]):=World.ownsRow_lit w #[I 0] 1 r_ xG rfl;have C:Hid (Below w.heap.size w (w.alloc (G #[I 0] 3))):=a_ _ _;generalize World.alloc _ _=W0 at*;go_loopw [7,8] (λs7 s8 wr=>∃(t:Nat) (seen:List Int) (d:Int),t<=l.length/\s8=I (t:Int)/\fI wr w.heap.size s7 seen/\0<seen.length/\seen.length<=t+1/\seen[seen.length-1]?=Y d/\AG.rowsF b ((l.zip rd).drop t) seen d=true/\Below w.heap.size w wr) (λs7 s8 wr=>l.length - (intOf s8).toNat);case atStart=>exact⟨0,[0],0,oG,rfl,H,sG,sG,rfl,D,C⟩
 case round=>
  obtain⟨t,seen,d,ak,rfl,e,i,aq,h,a,X⟩:=hrel;have A:=dA X;have a1:=X.size;clear X H C D;by_cases N:t<l.length
  ·have a4:t<rd.length:=by rw[a9.out];exact N
   obtain⟨g,au,h1,hg,Q⟩:=HL.at oG;cases h1;obtain⟨g2,aj,h2,ac,o⟩:=HR.at oG;cases h2;obtain⟨g3,ag,h3,ap,j⟩:=(eL.gy e).at i;subst h3;obtain⟨r,B⟩:∃y,l[t]=y:=⟨_,rfl⟩;obtain⟨rb,z⟩:∃y,rd[t]=y:=⟨_,rfl⟩;have s:∀k u,k<5->(dJ.cells r)[k]?=Y u->wr.cell? ⟨g,t*5+k,Z⟩=Y u:=λk u hk V=>by refine(A.cell (p:=⟨g,t*5+k,Z⟩) hg).trans (Q _ _ ?_);rw[kE dJ.cells 5 yM l t N k hk,B,List.getD_eq_getElem?_getD,V];rfl
   have o1:=s 1 (I r.bl) dG rfl;have o2:=s 2 (I r.v) dG rfl;have o3:wr.cell? ⟨g2,t,Z⟩=Y (bool rb):=(A.cell (p:=⟨g2,t,Z⟩) ac).trans (o _ _ (by rw[lZ a4 bool,z]));have o4:wr.cell? ⟨g3,seen.length-1,Z⟩=Y (I d):=j _ _ (by rw[List.getElem?_map,h];rfl);have hz:(l.zip rd).drop t=(r,rb)::(l.zip rd).drop (t+1):=by
    have a0:t<(l.zip rd).length:=by rw[List.length_zip];omega
    rw[List.drop_eq_getElem_cons a0,List.getElem_zip,B,z]
   rw[hz]at a;have a6:decide ((t:Int)<(l.length:Int))=true:=by simp;omega
   have av:(0:Int)<=(t:Int)/\(t:Int)<(l.length:Int):=oG;have ah:(0:Int)<=(t:Int)/\(t:Int)<(rd.length:Int):=oG;have ab:=dA j;clear Q o hz s B z j;unfold AG.rowsF at a;dsimp only at a;obtain⟨m,hm⟩:∃m,seen.length=m+1:=⟨seen.length-1,oG⟩;rw[hm]at o4 e⊢;simp only[Nat.add_sub_cancel]at o4;have af:(0:Int)<=(m:Int)/\(m:Int)<((m+1:Nat):Int):=oG;have am:IntKind.i64.wrap (((m+1:Nat):Int) - 1)=(m:Int):=by rw[show((m+1:Nat):Int) - 1=(m:Int) by omega];exact IntWalk.i64_in _ oG
   have W:=dA e;have E:=dA h;clear e h;by_cases c:r.bl=b
   ·have e1:(r.bl != b)=false:=by simpa using c
    rw[if_neg (by simpa using c)]at a;by_cases L:r.v=d
    ·rw[if_pos L]at a;subst L;cases rb;·exact absurd a sG
     rw[if_pos rfl]at a;have f:=dA a;clear a c;go_wp2_with fail;go_roundw;case rel=>exact⟨t+1,seen,_,oG,by go_num,W,i,oG,E,f,A⟩
     case measure=>simp[intOf];omega
    have e2:(r.v==d)=false:=by simpa using L
    rw[if_neg L]at a;by_cases n:r.v∈seen;·rw[if_pos n]at a;exact absurd a sG
    rw[if_neg n]at a;have f:=dA a;have ad:=dA n;clear a c L n;go_upto_region 12 with fail;go_loopw [11] (λs11 wx=>∃k:Nat,k<=m+1/\s11=I (k:Int)/\wx=wr) (λs11 wx=>m+1 - (intOf s11).toNat);case atStart=>exact⟨0,oG,rfl,rfl⟩
    case round=>
     obtain⟨k,an,rfl,rfl⟩:=hrel;by_cases ao:k<m+1
     ·have R:k<seen.length:=oG;have o5:=ab.out k _ (lZ R I);have e5:(seen[k]==r.v)=false:=by rw[beq_eq_false_iff_ne];intro h9;have h8:=List.getElem_mem R;rw[h9]at h8;exact ad.out h8
      generalize seen[k]=x at o5 e5;have ai:(0:Int)<=(k:Int)/\(k:Int)<((m+1:Nat):Int):=oG;have a5:decide ((k:Int)<((m+1:Nat):Int))=true:=by simp;omega
      go_wp2_with fail;go_roundw;case rel=>exact⟨k+1,oG,by go_num,by first|rfl|trivial⟩
      case measure=>simp[intOf];omega
     have a5:decide ((k:Int)<((m+1:Nat):Int))=false:=by simp;omega
     go_wp2_with(at_builtin;refine wpList_append_own _ rfl _ _ 59 rfl w.heap.size 3 i3 (I 0) 1 8 underlying59 ae a7 a8 a2 rfl dG _ _ _ rfl (World.ownsRow.alloc W _) ⟨wr.heap.size,0,Z⟩ 1 1 [I r.v] rfl rfl (cell_one_new _ _ _) ?c2 ?c3 ?c4 ?c5 ?_);case c2=>intro u V;simp at V;subst V;rfl
     case c3=>unfold maxLen;omega
     case c4=>omega
     case c5=>simp;omega
     ·intro v' w9 S O _;have U:fI w9 w.heap.size v' (seen++[r.v]):=by unfold fI;rw[List.length_append,List.map_append,hm];exact S
      have F:Below w.heap.size wr w9:=(b_.alloc a1 _).grown O (by simp;omega) (λg hg=>(World.ownsRow.lt W g hg).1);have a3:=dA U;have aa:=dA (A.trans F);clear S O U F;go_wp2;go_roundw;case rel=>exact⟨t+1,seen++[r.v],r.v,oG,by go_num,a3,sG,by simp;omega,sG,f,aa⟩
      case measure=>simp[intOf];omega
   have e1:(r.bl != b)=true:=by simpa using c
   rw[if_pos c]at a;have f:=dA a;clear a c;go_wp2_with fail;go_roundw;case rel=>exact⟨t+1,seen,d,oG,by go_num,W,i,oG,E,f,A⟩
   case measure=>simp[intOf];omega
  have a6:decide ((t:Int)<(l.length:Int))=false:=by simp;omega
  go_wp2_with fail;refine bodyPost_ret (v:=bool true) (by simp[results,results20,go_sem]) rfl ?_;exact⟨rfl,A⟩
def gR(rs:List dJ)(ix:List Nat):List dJ:=ix.map (λi=>rs.getD i ⟨0,0,0,0,0⟩)
def gB(rd:List Bool)(ix:List Nat):List Bool:=ix.map (λi=>rd.getD i false)
structure kD(w0:World)(rs:List dJ)(rd:List Bool)(w:World)(s5 s6:Value)(il ir ix:List Nat):Prop where
 l:w.ownsRow w0.heap.size 76 5 s5 il.length ((gR rs il).flatMap dJ.cells)
 r:w.ownsRow w0.heap.size 4 1 s6 ir.length ((gB rd ir).map bool)
 d:w.ownsRow w0.heap.size 4 1 (J (Y ⟨w0.heap.size,0,Z⟩) rs.length rs.length) rs.length ((List.range rs.length).map (λi=>bool (decide (i∈ix))))
 ne:s6.ownBlock≠some w0.heap.size
 b:Below w0.heap.size w0 w
def yG{w:World}{base:Nat}{e d:TypeId}{z f:Nat}{v v':Value}{n n':Nat}{xs a:List Value}(h:w.ownsRow base e z v n xs)(h':w.ownsRow base d f v' n' a)(k:e≠d){g:Nat}(i:v.ownBlock=some g):v'.ownBlock≠some g:=by intro j;obtain⟨c,l⟩:=eU h i;obtain⟨m,b⟩:=eU h' j;rw[l]at b;simp at b;exact k b.2
section
variable {w0 w w':World} {rs:List dJ} {rd:List Bool} {s5 s6:Value} {il ir ix:List Nat} {k:Nat}
def kD.later(h:kD w0 rs rd w s5 s6 il ir ix)(c:Below w.heap.size w w'):kD w0 rs rd w' s5 s6 il ir ix:=⟨dQ h.l (λg a=>c.block g (h.l.lt g a).2),dQ h.r (λg a=>c.block g (h.r.lt g a).2),dQ h.d (λg a=>c.block g (h.d.lt g a).2),h.ne,h.b.trans (c.mono h.b.size)⟩
def kD.grown{row:Option Nat}(h:kD w0 rs rd w s5 s6 il ir ix)(a:w.grownBy w' row)(e:∀g,row=some g->w0.heap.size<=g):Below w0.heap.size w0 w':=h.b.trans ⟨a.os,a.tape,a.output,a.size,λg d=>a.block g (Nat.lt_of_lt_of_le d h.b.size) (λc=>by have:=e g c.symm;omega)⟩
def kD.pushL{r:dJ}{c:Value}(h:kD w0 rs rd w s5 s6 il ir ix)(m:rs.getD k ⟨0,0,0,0,0⟩=r)(i:w'.ownsRow w0.heap.size 76 5 c (il.length+1) ((gR rs il).flatMap dJ.cells++[I r.op,I r.bl,I r.v,I r.e,I r.q]))(f:w.grownBy w' s5.ownBlock):kD w0 rs rd w' c s6 (il++[k]) ir ix:=by
 have e:(gR rs (il++[k])).flatMap dJ.cells=(gR rs il).flatMap dJ.cells++[I r.op,I r.bl,I r.v,I r.e,I r.q]:=by unfold gR;simp only[List.map_append,List.map_cons,List.map_nil,List.flatMap_append,m];rfl
 have b:∀{v:Value} {n:Nat} {xs:List Value},w.ownsRow w0.heap.size 4 1 v n xs->w'.ownsRow w0.heap.size 4 1 v n xs:=λ{v n xs} h9=>dQ h9 (λg a=>f.block g (h9.lt g a).2 (λj=>yG h9 h.l dG a j.symm));exact⟨by rw[e,List.length_append];exact i,b h.r,b h.d,h.ne,h.grown f (λg a=>(h.l.lt g a).1)⟩
def kD.pushR{b:Bool}{i:Value}(h:kD w0 rs rd w s5 s6 il ir ix)(p:rd.getD k false=b)(n:w'.ownsRow w0.heap.size 4 1 i (ir.length+1) ((gB rd ir).map bool++[bool b]))(j:w.grownBy w' s6.ownBlock)(o:yO w w' s6 i):kD w0 rs rd w' s5 i il (ir++[k]) ix:=by
 have e:(gB rd (ir++[k])).map bool=(gB rd ir).map bool++[bool b]:=by unfold gB;simp only[List.map_append,List.map_cons,List.map_nil,p]
 refine⟨dQ h.l (λg a=>j.block g (h.l.lt g a).2 (λf=>yG h.l h.r dG a f.symm)),by rw[e,List.length_append];exact n,dQ h.d (λg a=>j.block g (h.d.lt g a).2 (λf=>?_)),λm=>?_,h.grown j (λg a=>(h.r.lt g a).1)⟩
 ·have:g=w0.heap.size:=by cases a;rfl
  subst this;exact h.ne f.symm
 ·obtain⟨g',q,c⟩:=o;rw[q]at m;cases m;rcases c with c|⟨c,_⟩;·exact h.ne c
  ·have:w0.heap.size<w.heap.size:=(h.d.lt _ rfl).2;omega
def kD.jw(h:kD w0 rs rd w s5 s6 il ir ix):kD w0 rs rd (w.setCell ⟨w0.heap.size,k,Z⟩ (bool true)) s5 s6 il ir (ix++[k]):=by
 obtain⟨j,c⟩:=h.d.stored k (bool true);have e:(List.range rs.length).map (λi=>bool (decide (i∈ix++[k])))=((List.range rs.length).map (λi=>bool (decide (i∈ix)))).set k (bool true):=by
  apply List.ext_getElem;·simp
  ·intro i a1 m;rw[List.getElem_map,List.getElem_range,List.getElem_set];by_cases b:k=i;·subst b;rw[if_pos rfl];simp
   ·rw[if_neg b,List.getElem_map,List.getElem_range];have:(i∈ix++[k])↔i∈ix:=by simp;omega
    rw[decide_eq_decide.2 this]
 refine⟨dQ h.l (λg a=>c.block g (h.l.lt g a).2 (λf=>yG h.l h.d dG a (by rw[f];rfl))),dQ h.r (λg a=>c.block g (h.r.lt g a).2 (λf=>h.ne (by rw[a,f]))),by rw[e];exact j,h.ne,h.grown c (λg a=>by cases a;exact Nat.le_refl _)⟩
end
def IK(n:Nat):(madeCells (bool false).cells (n*1)).toList=(List.range n).map (λi=>bool (decide (i∈([]:List Nat)))):=by
 have h:(bool false).cells=#[bool false]:=rfl;rw[h,Nat.mul_one,toList_madeCells_one];apply List.ext_getElem;·simp
 ·intro i a b;simp
def MQ:(Tryz.prog.info? 4).map (λi=>(i.zero,i.size,i.bytes))=Y (Y (bool false),1,1):=kG
def K5(Wc:Nat)(a7 a8:Option Addr)(c7 c8:Nat)(rs:List dJ)(rd:List Bool)(w:World)(hW:Wc<w.heap.size)(aw:w.cell? ⟨Wc,7,Z⟩=Y (J a7 rs.length c7))(aI:w.cell? ⟨Wc,8,Z⟩=Y (J a8 rd.length c8))(ay:eL w (J a7 rs.length c7) rs.length (rs.flatMap dJ.cells))(aD:eL w (J a8 rd.length c8) rd.length (rd.map bool))(hl:rd.length=rs.length)(hn:rs.length<=100000000)(hd:AG.Dis rs):Calls pG 19 #[P0 (Y ⟨Wc,0,Z⟩)] w λq w'=>∃ix s5 s6,q=.returned (.tuple #[s5,s6,bool true])/\AG.Sel rs ix/\ix.length=rs.length/\kD w rs rd w' s5 s6 ix ix ix:=by
 have bb:=dA ay;have bq:=dA aD;have HL:=dA hl;have HD:=dA hd;clear ay aD hl hd;obtain⟨i4,aF,aA,aW,aP⟩:=info_parts MQ;obtain⟨i5,bm,bj,b6,ba⟩:=info_parts xQ;obtain⟨W1,bd,aS,F⟩:=run_make_full (P:=pG) (w:=w) w.heap.size 53 4 i4 (bool false) 1 underlying53 aF aA aW .i64 .i64 rs.length (by rw[aP];omega) xG r_;have av:Hid (kD w rs rd W1 (J Z 0 0) (J Z 0 0) [] [] []):=⟨World.ownsRow_nil _ _ _ _,World.ownsRow_nil _ _ _ _,by rw[←IK];exact aS,by simp[Value.ownBlock],⟨F.os,F.tape,F.output,F.size,λk g=>F.block k g sG⟩⟩;have aq:=dA aw;have aV:=dA aI;clear aS F;go_enter func19,ntmps19;go_upto_region 4 with fail;clear bd aw aI;go_loopw [5,6] (λs5 s6 wr=>∃ix,AG.Sel rs ix/\kD w rs rd wr s5 s6 ix ix ix) (λs5 s6 wr=>rs.length - (match s5 with|.slice _ n _=>n|_=>0));case atStart=>exact⟨[],AG.Sel.nil rs,av⟩
 case round=>
  obtain⟨ix,a2,f⟩:=hrel;obtain⟨a5,c5,h5⟩:=dZ f.l;obtain⟨a6,c6,h6⟩:=dZ f.r;subst h5;subst h6;have A:=dA a2;have am:=dA f;have o7:=(f.b.cell (p:=⟨Wc,7,Z⟩) hW).trans aq;clear a2 f av;by_cases hL:ix.length<rs.length
  ·have X:decide ((ix.length:Int)<(rs.length:Int))=true:=by simp;omega
   obtain⟨g7,bt,e7,bg,ab⟩:=bb.at oG;cases e7;have a3:=dA ab;clear ab;have Q:∀(wx:World),Below w.heap.size w wx->∀(t:Nat) (ht:t<rs.length),∀k u,k<5->(dJ.cells rs[t])[k]?=Y u->wx.cell? ⟨g7,t*5+k,Z⟩=Y u:=λwx hb t ht k u g B=>by refine(hb.cell (p:=⟨g7,t*5+k,Z⟩) bg).trans (a3.out _ _ ?_);rw[kE dJ.cells 5 yM rs t ht k g,List.getD_eq_getElem?_getD,B];rfl
   have C:=dA Q;clear Q;go_upto_region 7 with fail;clear o7 X;go_loopw [8,9] (λs8 s9 wx=>∃(i:Nat) (be:Int),i<=rs.length/\s8=I be/\s9=I (i:Int)/\((be=-1/\∀j,j<i->j∈ix)∨∃(k:Nat) (g:k<rs.length),be=(k:Int)/\k<i/\k∉ix/\∀j (s:j<rs.length),j<i->j∉ix->¬AG.lrs rs[k] rs[j])/\kD w rs rd wx (J a5 ix.length c5) (J a6 ix.length c6) ix ix ix) (λs8 s9 wx=>rs.length - (intOf s9).toNat);case atStart=>exact⟨0,-1,oG,rfl,rfl,.inl ⟨rfl,λj s=>oG⟩,am⟩
   case round=>
    obtain⟨i,be,hi,rfl,rfl,b5,f⟩:=hrel;have H:=dA b5;have a:=dA f;have o7:=(f.b.cell (p:=⟨Wc,7,Z⟩) hW).trans aq;have o8:=(f.b.cell (p:=⟨Wc,8,Z⟩) hW).trans aV;clear b5 f;by_cases S:i<rs.length
    ·have X:decide ((i:Int)<(rs.length:Int))=true:=by simp;omega
     have aY:(0:Int)<=(i:Int)/\(i:Int)<(rs.length:Int):=oG;have oD:wr.cell? ⟨w.heap.size,i,Z⟩=Y (bool (decide (i∈ix))):=by rw[a.d.cellAt i oG,List.getElem?_map,List.getElem?_range S];rfl
     by_cases o:i∈ix
     ·have M:decide (i∈ix)=true:=decide_eq_true o;rw[M]at oD;have R:=dA o;clear o M o8;go_wp2_with fail;go_roundw;case rel=>
       refine⟨i+1,be,oG,rfl,by go_num,?_,a⟩;rcases H.out with⟨h1,h2⟩|⟨k,g,h1,h2,h3,h4⟩
       ·refine .inl ⟨h1,λj s=>?_⟩;by_cases N:j=i;·rw[N];exact R
        ·exact h2 j oG
       ·refine .inr ⟨k,g,h1,oG,h3,λj s N c=>?_⟩;by_cases x:j=i;·subst x;exact absurd R.out c
        ·exact h4 j s oG c
      case measure=>simp[intOf];omega
     have M:decide (i∈ix)=false:=decide_eq_false o;rw[M]at oD;have R:=dA o;clear o M o8;rcases H.out with⟨an,ag⟩|⟨k,g,an,ag,aJ,b4⟩
     ·subst an;have bf:=dA ag;clear ag H;go_wp2_with fail;go_roundw;case rel=>
       refine⟨i+1,(i:Int),oG,rfl,by go_num,.inr ⟨i,S,rfl,oG,R,λj s N c=>?_⟩,a⟩;by_cases x:j=i;·subst x;unfold AG.lrs AG.lat;omega
       ·exact absurd (bf.out j oG) c
      case measure=>simp[intOf];omega
     subst an;have bh:=dA aJ;have aT:=dA b4;have bz:decide ((k:Int)<0)=false:=sG;have aN:(0:Int)<=(k:Int)/\(k:Int)<(rs.length:Int):=oG;have p1:=C.out wr a.b k g 3 _ dG rfl;have p2:=C.out wr a.b k g 4 _ dG rfl;have p3:=C.out wr a.b i S 3 _ dG rfl;have p4:=C.out wr a.b i S 4 _ dG rfl;obtain⟨rk,ac⟩:∃y,rs[k]=y:=⟨_,rfl⟩;obtain⟨ri,ad⟩:∃y,rs[i]=y:=⟨_,rfl⟩;rw[ac]at p1 p2;rw[ad]at p3 p4;have aZ:=dA ac;have aM:=dA ad;clear aJ b4 H ac ad;obtain⟨lt,L⟩:∃y,(decide (ri.e<rk.e)||((rk.e==ri.e)&&decide (ri.q<rk.q)))=y:=⟨_,rfl⟩;have b8:=dA L;have W:lt=true↔AG.lrs rk ri:=by rw[←L];unfold AG.lrs AG.lat;simp;constructor<;>rintro(h|h)<;>omega
     have aK:=dA W;clear L W;go_upto_region 12 with fail;cases lt;all_goals
      go_quiet ((go_at_call 48;exact Calls.quiet_of_same ((xD rk.e rk.q ri.e ri.q _).mono (λr w' hh=>⟨hh.1.trans (by rw[b8.out]),hh.2⟩))))
      go_wp2_with fail
      go_roundw
      case measure=>simp[intOf];omega
     case rel=>
      refine⟨i+1,_,oG,rfl,by go_num,.inr ⟨k,g,rfl,oG,bh,λj s N c=>?_⟩,a.later (below_drewN b_ _)⟩;by_cases x:j=i;·subst x;rw[aZ.out,aM.out];exact λU=>by have:=aK.2 U;simp at this
      ·exact aT.out j s oG c
     case rel=>
      refine⟨i+1,_,oG,rfl,by go_num,.inr ⟨i,S,rfl,oG,R,λj s N c=>?_⟩,a.later (below_drewN b_ _)⟩;by_cases x:j=i;·subst x;unfold AG.lrs AG.lat;omega
      ·have h8:=aT.out j s oG c;have U:=aK.1 rfl;rw[←aZ.out,←aM.out]at U;unfold AG.lrs AG.lat at*;omega
    have X:decide ((i:Int)<(rs.length:Int))=false:=by simp;omega
    obtain rfl:i=rs.length:=oG;obtain⟨k,g,rfl,ao,az⟩:∃(k:Nat) (g:k<rs.length),be=(k:Int)/\k∉ix/\∀j (s:j<rs.length),j∉ix->¬AG.lrs rs[k] rs[j]:=by
     rcases H.out with⟨h1,h2⟩|⟨k,g,h1,h2,h3,h4⟩;·obtain⟨z,z1,z2⟩:=A.left hL;exact absurd (h2 z z1) z2
     ·exact⟨k,g,h1,h3,λj s c=>h4 j s s c⟩
    have ai:=dA ao;have ax:=dA az;have aN:(0:Int)<=(k:Int)/\(k:Int)<(rs.length:Int):=oG;obtain⟨r,hr⟩:∃y,rs[k]=y:=⟨_,rfl⟩;have aL:Hid (wr.rangeAt g7 (k*5) [I r.op,I r.bl,I r.v,I r.e,I r.q]):=λj u B=>by
     have s:j<5:=by have:=(List.getElem?_eq_some_iff.1 B).1;simpa using this
     exact C.out wr a.b k g j u s (by rw[hr];exact B)
    have HR:=dA hr;have aG:=a_ wr (G #[I r.op,I r.bl,I r.v,I r.e,I r.q] 76);have HX:=dA (dC.new wr #[I r.op,I r.bl,I r.v,I r.e,I r.q] 76);have ae:=dA (a.later aG);clear ao az hr H aG;go_upto_region 17 with(refine wpList_load_mid rfl 76 _ rfl g7 (k*5) rfl [I r.op,I r.bl,I r.v,I r.e,I r.q] _ aL underlying76 rfl kG ?_);generalize World.alloc _ _=V at*;generalize wr.heap.size=XB at*;have x3:=HX.cell 3;have x4:=HX.cell 4;simp at x3 x4;have ap:k<rd.length:=by rw[HL.out];exact g
    obtain⟨rb,a1⟩:∃y,rd[k]=y:=⟨_,rfl⟩;obtain⟨g8,bu,e8,bp,a4⟩:=bq.at oG;cases e8;have au:w.cell? ⟨g8,k,Z⟩=Y (bool rb):=a4 _ _ (by rw[lZ ap bool,a1]);have b0:rs.getD k ⟨0,0,0,0,0⟩=r:=by rw[List.getD_eq_getElem?_getD,List.getElem?_eq_getElem g,HR.out];rfl
    have b3:rd.getD k false=rb:=by rw[List.getD_eq_getElem?_getD,List.getElem?_eq_getElem ap,a1];rfl
    have br:(0:Int)<=(k:Int)/\(k:Int)<(rd.length:Int):=oG;have bc:=dA au;have b9:=dA b0;have b7:=dA b3;have bv:=dA a1;have bn:Hid (AG.Sel rs (ix++[k])):=A.add HD g ai ax;clear a4 au b0 b3 a1 o7 o8 a C a3 aL;have aa:Hid (∀(W6:World),Below V.heap.size V W6->kD w rs rd W6 (J a5 ix.length c5) (J a6 ix.length c6) ix ix ix/\dC W6 XB #[I r.op,I r.bl,I r.v,I r.e,I r.q] 76):=λW6 U=>⟨ae.later U,HX.later U⟩;have O:ix.length=0∨∃(m:Nat) (D:Nat) (l:dJ),ix.length=m+1/\a5=Y ⟨D,0,Z⟩/\V.cell? ⟨D,m*5+3,Z⟩=Y (I l.e)/\V.cell? ⟨D,m*5+4,Z⟩=Y (I l.q)/\AG.lrs r l:=by
     rcases Nat.eq_zero_or_pos ix.length with h0|aC;·exact .inl h0
     ·right;obtain⟨m,hm⟩:∃m,ix.length=m+1:=⟨ix.length-1,oG⟩;obtain⟨D,bs,e5,_,bk⟩:=(eL.gy ae.l).at aC;have aj:m<ix.length:=oG;have aH:m<(gR rs ix).length:=by unfold gR;rw[List.length_map];omega
      have hz:=A.lt _ (List.getElem_mem aj);have el:(gR rs ix)[m]=rs[ix[m]]:=by
       have U:(gR rs ix)[m]?=some rs[ix[m]]:=by unfold gR;rw[List.getElem?_map,List.getElem?_eq_getElem aj];show some (rs.getD ix[m] ⟨0,0,0,0,0⟩)=_;rw[List.getD_eq_getElem?_getD,List.getElem?_eq_getElem hz];rfl
       rw[List.getElem?_eq_getElem aH]at U;exact Option.some.inj U
      have Q:∀q u,q<5->(dJ.cells (gR rs ix)[m])[q]?=Y u->V.cell? ⟨D,m*5+q,Z⟩=Y u:=λq u hq B=>bk _ _ (by rw[kE dJ.cells 5 yM _ m aH q hq,List.getD_eq_getElem?_getD,B];rfl);cases e5;refine⟨m,D,(gR rs ix)[m],hm,rfl,Q 3 _ dG rfl,Q 4 _ dG rfl,?_⟩;rw[el,←HR.out];exact A.le k g ai _ (List.getElem_mem aj) hz
    have aX:∀{P:Prop},(∀(ak:decide (0<ix.length)=false),P)->(∀(m D:Nat) (l:dJ) (b1 b2:Bool) (ak:decide (0<ix.length)=true) (bi:IntKind.i64.wrap ((ix.length:Int) - 1)=(m:Int)) (aY:(0:Int)<=(m:Int)/\(m:Int)<(ix.length:Int)),a5=Y ⟨D,0,Z⟩->V.cell? ⟨D,m*5+3,Z⟩=Y (I l.e)->V.cell? ⟨D,m*5+4,Z⟩=Y (I l.q)->(l.e==r.e)=b1->(l.q==r.q)=b2->(b1&&b2)=false->P)->P:=by
     intro P h1 h2;rcases O with U|⟨m,D,l,hm,e5,c1,c2,W⟩;·exact h1 (decide_eq_false oG)
     ·refine h2 m D l _ _ (decide_eq_true oG) (by rw[hm,show((m+1:Nat):Int) - 1=(m:Int) by omega];exact IntWalk.i64_in _ oG) oG e5 c1 c2 rfl rfl ?_;unfold AG.lrs AG.lat at W;cases he:(l.e==r.e);·rfl
      ·cases hq:(l.q==r.q);·rfl
       ·simp at he hq;omega
    have aE:=dA aa;clear O ae aa A am HX ax ai;refine aX (λak=>?_) (λm D l b1 b2 ak bi aY h5 p1 p2 e1 e2 ar=>?_);case' refine_2=>
     subst h5;cases b1<;>cases b2;all_goals first|(exact absurd ar dG)|skip
     all_goals clear ar
    all_goals
     clear aX
     go_quiet (fail)
    all_goals
     obtain⟨h6,aO⟩:=aE.out _ (below_drewN (Below.refl V.heap.size V) nq)
     have a0:=dA h6;have E:=dA aO
     clear h6 aO x3 x4 aE
     generalize V.drewN nq=W6 at*
     have x0:=E.cell 0;have x1:=E.cell 1;have x2:=E.cell 2;have x3:=E.cell 3;have x4:=E.cell 4;simp at x0 x1 x2 x3 x4
     go_wp2_with(at_builtin;refine pO rfl _ _ 52 rfl w.heap.size 76 i5 _ 5 40 underlying52 bm bj b6 ba rfl dG _ _ _ rfl (World.ownsRow.alloc a0.l _) ⟨W6.heap.size,0,Z⟩ 1 1 [I r.op,I r.bl,I r.v,I r.e,I r.q] dG rfl rfl ?c1 ?c2 ?c3 ?c4 ?c5 ?_)
     case c1=>intro j u B;rw[Go.WideShapes.add_plain];refine(World.cell?_alloc_at _ _ _ _ sG).trans ?_;simpa using B
     case c2=>intro u B;simp at B;rcases B with rfl|rfl|rfl|rfl|rfl<;>rfl
     case c3=>unfold maxLen;omega
     case c4=>omega
     case c5=>have:=a0.b.size;simp;omega
     intro v' w9 af aB bo
     obtain⟨a9,c9,rfl⟩:=dZ af
     have K:=dA ((a0.later (a_ W6 _)).pushL b9 af aB)
     clear af aB bo a0 E x0 x1 x2 x3 x4
     have o8:=(K.b.cell (p:=⟨Wc,8,Z⟩) hW).trans aV
     have o9:=(K.b.cell (p:=⟨g8,k,Z⟩) bp).trans bc
     go_wp2_with(at_builtin;refine pO rfl _ _ 53 rfl w.heap.size 4 i4 (bool false) 1 1 underlying53 aF aA aW aP rfl dG _ _ _ rfl (World.ownsRow.alloc K.r _) ⟨w9.heap.size,0,Z⟩ 1 1 [bool rb] dG rfl rfl (cell_one_new _ _ _) ?d2 ?d3 ?d4 ?d5 ?_)
     case d2=>intro u B;simp at B;subst B;rfl
     case d3=>unfold maxLen;omega
     case d4=>omega
     case d5=>have:=K.b.size;simp;omega
     intro v6 bB ah aQ aR
     obtain⟨bw,bx,rfl⟩:=dZ ah
     have al:=dA ((K.later (a_ w9 _)).pushR b7 ah aQ aR)
     clear ah aQ aR K o8 o9
     have bA:=al.d.frozenAt k
     have aU:=al.d.cellAt k oG
     rw[List.getElem?_map,List.getElem?_range g]at aU
     simp only[Option.map_some]at aU
     go_wp2_with fail
     go_roundw
     case rel=>exact⟨ix++[k],bn,al.jw⟩
     case measure=>simp;omega
  have X:decide ((ix.length:Int)<(rs.length:Int))=false:=by simp;omega
  go_wp2_with fail;refine bodyPost_ret (v:=.tuple #[J a5 ix.length c5,J a6 ix.length c6,bool true]) (by simp[results,results19,go_sem]) rfl ?_;exact⟨ix,_,_,rfl,A,by have U:=AG.Sel.len A;omega,am⟩
end
namespace AG
structure Vw where
  bk:Int->Int
  se:Int
  la:Int
  ep:Int
  ac:Bool
  ph:Int
  dn:Bool
  tr:Ms
  on:Int
  ow:Ms
def Nd.vw(a:Nd):Vw:=⟨a.d.bk,a.d.seen,a.d.last,a.d.ep,a.act,a.ph,a.down,a.tr,a.on,a.ow⟩
structure Lv where
  tk:Int->Prop
  mx:Int->Int
  W:Int->Int->Int->Int
  fe:Int->Int
  fq:Int->Int
  kd:Int->Int->Int
  op:Int->Int->Int->Prop
  has:Int->Int->Int->Prop
def jT(y:Lv)(w e q b:Int):Prop:=w=y.W e q b∨(w≠0/\lat (y.fe w) (y.fq w) e q)
def Dm(n:Int)(v:Int->Vw)(sn:Ms->Prop)(R:Int->Rc)(e q:Int):Prop:=∃i,0<=i/\i<n/\bit (R e).S i/\(R e).P≠i+1/\e<(v i).se/\∀m,sn m->m.k=8->m.f=i->¬(m.e=e/\m.q=q)
def nL(N:Int)(y:Lv)(w e q:Int):Prop:=w<=N/\(w≠0->¬lat (y.fe w) (y.fq w) e q)
def Wf(y:Lv)(v e q:Int):Prop:=v≠0/\y.fe v=e/\y.fq v=q
def Vm(nb:Int)(y:Lv)(m:Ms):Prop:=y.tk m.e/\0<m.q/\m.q<=y.mx m.e/\(m.k=7->y.kd m.e m.q=m.bl/\0<=m.bl/\m.v=y.W m.e m.q m.bl)/\(m.k=9->y.kd m.e m.q = -1/\∀b d,0<=b->b<nb->m.zs.getD b.toNat d=y.W m.e m.q b)
def Lm(nb:Int)(y:Lv)(m:Ms):Prop:=(m.k=7∨m.k=9->Vm nb y m)/\(m.k=8∨m.k=10->y.has m.f m.e m.q/\(m.k=10->y.kd m.e m.q = -1))
structure Ln(n nb N:Int)(v:Int->Vw)(sn:Ms->Prop)(u:Gv)(lv:Int->Int)(ops:List As)(al:List Rs)(y:Lv)(j:Int)(a:Vw):Prop where
  v1:∀{b},0<=b->b<nb->nL N y (a.bk b) a.se a.la
  hl:∀{e q},y.has j e q->y.tk e/\0<q/\q<=y.mx e/\¬lat e q a.se a.la
  pt:0<a.la->y.has j a.se a.la
  n2:∀{f c e q b},y.has j f c->y.op e q b->(f=e/\c=q∨y.kd f c = -1/\lat f c e q)->jT y (a.bk b) e q b∨Dm n v sn u.R e q
  tr:a.dn=true->a.tr.k=7∨a.tr.k=9->Vm nb y a.tr
  ac:a.ac=true->y.tk a.ep/\a.la=y.mx a.ep/\(∀b,0<=b->b<nb->a.bk b=y.W a.ep a.la b)/\(∀c,0<c->c<=y.mx a.ep->y.kd a.ep c = -1->u.ad a.ep)/\(a.ph=1->0<a.la/\y.kd a.ep a.la = -1)
  on:0<a.on->y.op a.ow.e a.ow.q a.ow.bl/\a.ow.k=7/\a.ow.e=a.ep/\Vm nb y a.ow/\(∃o∈ops,o.nd=j/\o.lf=lv j/\o.op=a.on/\(o.rd=false->Wf y a.ow.v a.ow.e a.ow.q))/\∀r∈al,¬(r.e=a.ow.e/\r.q=a.ow.q)
structure LI(n nb:Int)(v:Int->Vw)(sn:Ms->Prop)(u:Gv)(lv:Int->Int)(ops:List As)(rs:List Rs)(rd:List Bool)(k:Int)(pend:List Rs)(y:Lv):Prop where
  tk:∀{e},y.tk e->u.tk e/\0<=y.mx e
  w1:∀{e q q' b},y.tk e->0<=q->q<=q'->q'<=y.mx e->0<=b->b<nb->jT y (y.W e q' b) e q b
  wf:∀{e q b},y.tk e->0<=q->q<=y.mx e->0<=b->b<nb->nL ops.length y (y.W e q b) e q
  dd:∀{e q b f},y.op e q b->y.tk f->e<f->jT y (y.W f 0 b) e q b∨Dm n v sn u.R e q
  om:∀{e q b},y.op e q b->(y.tk e/\0<q/\q<=y.mx e/\0<=b/\b<nb)/\y.kd e q=b/\y.has ((u.R e).P - 1) e q
  ko:∀{e q b c},y.op e q b->0<c->c<=y.mx e->y.kd e c = -1->q<c
  nd:∀{j},0<=j->j<n->Ln n nb ops.length v sn u lv ops (rs++pend) y j (v j)
  ms:∀{m},sn m->Lm nb y m
  re:∀r∈rs++pend,y.op r.e r.q r.bl/\r.v=y.W r.e r.q r.bl/\∀i,0<=i->i<n->bit (u.R r.e).S i->(u.R r.e).P≠i+1->∃m,sn m/\m.k=8/\m.f=i/\m.e=r.e/\m.q=r.q
  di:(rs++pend).Pairwise (λa b=>¬(a.e=b.e/\a.q=b.q))
  rl:rd.length=rs.length/\∀i (h:i<rs.length),rd[i]?=some false->Wf y rs[i].v rs[i].e rs[i].q
  pe:∀r∈pend,∃o∈ops,o.nd=k/\o.lf=lv k/\o.op=r.op/\(o.rd=false->Wf y r.v r.e r.q)
structure Lx(N:Int)(y y':Lv)(j:Int):Prop where
  tk:∀{e},y.tk e->y'.tk e
  mx:∀{e},y.tk e->y.mx e<=y'.mx e
  W:∀{e q},y.tk e->q<=y.mx e->y'.W e q=y.W e q
  kd:∀{e q},y.tk e->q<=y.mx e->y'.kd e q=y.kd e q
  fv:∀{w},w<=N->y'.fe w=y.fe w/\y'.fq w=y.fq w
  ha:∀{i e q},y.has i e q->y'.has i e q
  hn:∀{i e q},i≠j->y'.has i e q->y.has i e q
  op:∀{e q b},y.op e q b->y'.op e q b
def Lx.refl(N:Int)(y:Lv)(j:Int):Lx N y y j:=⟨id,λ_=>Int.le_refl _,λ_ _=>rfl,λ_ _=>rfl,λ_=>⟨rfl,rfl⟩,id,λ_=>id,id⟩
section
variable {n nb N N':Int} {y y':Lv} {j:Int} {v v':Int->Vw} {sn sn':Ms->Prop} {u u':Gv} {R R':Int->Rc} {lv lv':Int->Int} {ops ops':List As} {rs:List Rs} {rd:List Bool} {k:Int} {pend:List Rs}
def jT.jc(a:Lx N y y' j){w e q b:Int}(h:jT y w e q b)(f:y.tk e)(d:q<=y.mx e)(c:w<=N):jT y' w e q b:=by unfold jT at*;rw[a.W f d,(a.fv c).1,(a.fv c).2];exact h
def nL.jc(a:Lx N y y' j){w e q:Int}(h:nL N y w e q)(b:N<=N'):nL N' y' w e q:=by unfold nL at*;rw[(a.fv h.1).1,(a.fv h.1).2];exact⟨Int.le_trans h.1 b,h.2⟩
def Wf.jc(b:Lx N y y' j){w e q:Int}(h:Wf y w e q)(a:w<=N):Wf y' w e q:=by unfold Wf at*;rw[(b.fv a).1,(b.fv a).2];exact h
def Vm.jc(b:Lx N y y' j){m:Ms}(h:Vm nb y m):Vm nb y' m:=by obtain⟨a,d,c,e,f⟩:=h;refine⟨b.tk a,d,Int.le_trans c (b.mx a),?_⟩;rw[b.kd a c,b.W a c];exact⟨e,f⟩
def Dm.jc{e q:Int}(h:Dm n v sn R e q)(g:R' e=R e)(d:∀i,(v i).se<=(v' i).se)(hs:∀m,sn' m->m.k=8->sn m∨(m.e=(v' m.f).se)):Dm n v' sn' R' e q:=by
 obtain⟨i,j,s,r,l,p,u⟩:=h;refine⟨i,j,s,by rw[g];exact r,by rw[g];exact l,Int.lt_of_lt_of_le p (d i),λm t c b o=>?_⟩;rcases hs m t c with a|a;·exact u m a c b o
 ·rw[b]at a;have:=d i;omega
def LI.beh(h:LI n nb v sn u lv ops rs rd k pend y){e q b a c:Int}(j:y.op e q b)(g:y.tk a)(r:0<=c)(o:c<=y.mx a)(l:¬lat e q a c):jT y (y.W a c b) e q b∨Dm n v sn u.R e q:=by
 obtain⟨⟨z,x,t,m,p⟩,_⟩:=h.om j;by_cases s:e=a;·subst s;exact .inl (h.w1 g oG (by unfold lat at l;omega) o m p)
 ·have d:e<a:=by unfold lat at l;omega
  rcases h.dd j g d with i|i
  ·left;rcases h.w1 g (Int.le_refl _) r o m p with f|⟨f,w⟩;·unfold jT;rw[f];exact i
   ·exact .inr ⟨f,by unfold lat at*;omega⟩
  ·exact .inr i
def Ln.jc{al t:List Rs}{i:Int}{a:Vw}(h:Ln n nb N v sn u lv ops al y i a)(x:i≠j)(d:Lx N y y' j)(hN:N<=N')(A:∀{e q b},y.op e q b->y.tk e/\0<q/\q<=y.mx e/\0<=b/\b<nb)(hV:∀{e q b},y.tk e->0<=q->q<=y.mx e->0<=b->b<nb->y.W e q b<=N)(hD:∀{e q},y.tk e->Dm n v sn u.R e q->Dm n v' sn' u'.R e q)(E:∀{e q b},y'.op e q b->y.op e q b∨(y.tk e/\y.mx e<q/\∀f,y'.tk f->e<f->Dm n v' sn' u'.R e q))(B:a.ac=true->y'.mx a.ep=y.mx a.ep)(X:u.ad a.ep->u'.ad a.ep)(V:lv' i=lv i)(S:∀o∈ops,o∈ops')(U:∀r∈t,r∈al∨r.e≠a.ep∨a.ac=false)(L:0<a.on->a.ac=true):Ln n nb N' v' sn' u' lv' ops' t y' i a:=by
 refine⟨λH D=>(h.v1 H D).jc d hN,λg=>?_,λg=>d.ha (h.pt g),λ{f c e q b} g l k=>?_,λg l=>(h.tr g l).jc d,λg=>?_,λg=>?_⟩;·obtain⟨a1,s,m,p⟩:=h.hl (d.hn x g);exact⟨d.tk a1,s,Int.le_trans m (d.mx a1),p⟩
 ·have w:=d.hn x g;obtain⟨a1,s,m,p⟩:=h.hl w;rw[d.kd a1 m]at k;rcases E l with Q|⟨Q,h5,h4⟩;·obtain⟨C,o2,M,O,F⟩:=A Q;exact(h.n2 w Q k).imp (λz=>z.jc d C M (h.v1 O F).1) (hD C)
  ·right;rcases k with⟨rfl,rfl⟩|⟨_,k⟩;·omega
   ·refine h4 f (d.tk a1) ?_;unfold lat at k;rcases k with k|⟨k,h3⟩;·exact k
    ·subst k;omega
 ·obtain⟨a1,s,m,p,a5⟩:=h.ac g;refine⟨d.tk a1,by rw[B g];exact s,λb H D=>by rw[d.W a1 oG];exact m b H D,λc c0 K c2=>?_,λhp=>?_⟩;·rw[B g]at K;rw[d.kd a1 K]at c2;exact X (p c c0 K c2)
  ·rw[d.kd a1 oG];exact a5 hp
 ·obtain⟨a1,s,m,p,⟨o,C,o2,M,O,F⟩,a6⟩:=h.on g;obtain⟨p1,p2,p3,p4,p5⟩:=A a1;refine⟨d.op a1,s,m,p.jc d,⟨o,S o C,o2,by rw[V];exact M,O,λl=>(F l).jc d ?_⟩,λr hr=>?_⟩;·rw[(p.2.2.2.1 s).2.2];exact hV p1 oG p3 p4 p5
  ·rcases U r hr with l|l|l;·exact a6 r l
   ·rintro⟨k,_⟩;exact l (k.trans m)
   ·rw[L g]at l;simp at l
end
end AG
namespace AG
def vws(x:Int->Nd)(i:Int):Vw:=(x i).vw
structure Cv(n nb:Int)(x:Int->Nd)(sn:Ms->Prop)(g:Gh)(u:Gv)(K j:Int)(a:Nd)(sn':Ms->Prop)(g':Gh)(u':Gv):Prop where
  h0:0<=j/\j<n
  hi:Inv n nb x sn g u
  hi':Inv n nb (upd x j a) sn' g' u'
  hK:Kn n x K
  hu:Grv K u u'
  se:(x j).d.seen<=a.d.seen
  hs:∀{m},sn m->sn' m
  s8:∀m,sn' m->m.k=8->sn m∨(m.f=j/\m.e=a.d.seen)
section
variable {n nb:Int} {x:Int->Nd} {sn sn':Ms->Prop} {g g':Gh} {u u':Gv} {K j:Int} {a:Nd} {y y':Lv} {lv lv':Int->Int} {ops ops':List As} {rs:List Rs} {rd:List Bool} {k:Int} {pend:List Rs}
def Cv.R(C:Cv n nb x sn g u K j a sn' g' u'){e:Int}(f:u.tk e):u'.R e=u.R e:=by obtain⟨h,i,b,c,_,_,d⟩:=C.hi.t2 f;exact C.hu.R oG (Int.le_trans d (C.hK i b c))
def Cv.dm(C:Cv n nb x sn g u K j a sn' g' u'){e q:Int}(f:u.tk e)(h:Dm n (vws x) sn u.R e q):Dm n (vws (upd x j a)) sn' u'.R e q:=by
 refine h.jc (C.R f) (λi=>?_) (λm c d=>(C.s8 m c d).imp id (λb=>?_))
 ·unfold vws;by_cases hi:i=j;·subst hi;rw[upd_self];exact C.se
  ·rw[upd_ne hi];exact Int.le_refl _
 ·unfold vws;rw[b.1,upd_self];exact b.2
def Cv.P(C:Cv n nb x sn g u K j a sn' g' u')(b:(x j).act=true):(u.R (x j).d.ep).P=j+1:=((C.hi.own C.h0.1 C.h0.2).t1 b).2.1
def LI.go(h:LI n nb (vws x) sn u lv ops rs rd j [] y)(C:Cv n nb x sn g u K j a sn' g' u')(p:Lx ops.length y y' j)(hN:ops.length<=ops'.length)(a7:∀o∈ops,o∈ops')(a9:∀i,i≠j->lv' i=lv i)(a2:∀{e},y'.tk e->u'.tk e/\0<=y'.mx e)(a5:∀{e},y.tk e->(u.R e).P≠j+1->y'.mx e=y.mx e)(N:∀{e q b},y'.op e q b->y.op e q b∨(y.tk e/\y.mx e<q/\∀f,y'.tk f->e<f->Dm n (vws (upd x j a)) sn' u'.R e q))(w1:∀{e q q' b},y'.tk e->0<=q->q<=q'->q'<=y'.mx e->0<=b->b<nb->jT y' (y'.W e q' b) e q b)(wf:∀{e q b},y'.tk e->0<=q->q<=y'.mx e->0<=b->b<nb->nL ops'.length y' (y'.W e q b) e q)(dd:∀{e q b f},y.op e q b->y'.tk f->¬y.tk f->e<f->jT y' (y'.W f 0 b) e q b∨Dm n (vws (upd x j a)) sn' u'.R e q)(om:∀{e q b},y'.op e q b->¬y.op e q b->(y'.tk e/\0<q/\q<=y'.mx e/\0<=b/\b<nb)/\y'.kd e q=b/\y'.has ((u'.R e).P - 1) e q)(ko:∀{e q b c},y'.op e q b->0<c->c<=y'.mx e->y'.kd e c = -1->q<c)(a6:Ln n nb ops'.length (vws (upd x j a)) sn' u' lv' ops' (rs++pend) y' j a.vw)(hm:∀{m},sn' m->sn m∨Lm nb y' m)(hp:pend.length<=1)(D:∀r∈pend,(y'.op r.e r.q r.bl/\r.v=y'.W r.e r.q r.bl/\∀i,0<=i->i<n->bit (u'.R r.e).S i->(u'.R r.e).P≠i+1->∃m,sn' m/\m.k=8/\m.f=i/\m.e=r.e/\m.q=r.q)/\(u.R r.e).P=j+1/\(∀r'∈rs,¬(r'.e=r.e/\r'.q=r.q))/\∃o∈ops',o.nd=j/\o.lf=lv' j/\o.op=r.op/\(o.rd=false->Wf y' r.v r.e r.q)):LI n nb (vws (upd x j a)) sn' u' lv' ops' rs rd j pend y':=by
 have hV:∀{e q b},y.tk e->0<=q->q<=y.mx e->0<=b->b<nb->y.W e q b<=ops.length:=λa b c d e=>(h.wf a b c d e).1;have a4:(ops.length:Int)<=ops'.length:=oG;have hD:∀{e q},y.tk e->Dm n (vws x) sn u.R e q->Dm n (vws (upd x j a)) sn' u'.R e q:=λB=>C.dm (h.tk B).1;have hh:∀{i e q},(i=j∨0<=i/\i<n)->y.has i e q->y.tk e/\0<q/\q<=y.mx e:=by
  rintro i e q (rfl|hi) l;·have:=(h.nd C.h0.1 C.h0.2).hl l;exact⟨this.1,this.2.1,this.2.2.1⟩
  ·have:=(h.nd hi.1 hi.2).hl l;exact⟨this.1,this.2.1,this.2.2.1⟩
 have a8:∀r∈rs++pend,r∈rs++([]:List Rs)∨(u.R r.e).P=j+1:=by
  intro r w;rcases List.mem_append.1 w with l|l;·exact .inl (List.mem_append_left _ l)
  ·exact .inr (D r l).2.1
 have O:∀r∈rs,y.op r.e r.q r.bl/\r.v=y.W r.e r.q r.bl/\_:=λr w=>h.re r (List.mem_append_left _ w);have a0:∀r∈rs,r.v<=ops.length:=λr w=>by obtain⟨F,X,_⟩:=O r w;obtain⟨⟨s,o2,E,M,L⟩,_⟩:=h.om F;rw[X];exact hV s oG E M L
 refine⟨a2,w1,wf,λ{e q b f} V U hlt=>?_,λ{e q b} V=>?_,ko,λ{i} Q i1=>?_,λ{m} hm'=>?_,λr w=>?_,?_,⟨h.rl.1,λi hi l=>?_⟩,λr w=>(D r w).2.2.2⟩
 ·rcases N V with l|⟨_,_,l⟩
  ·by_cases B:y.tk f;·obtain⟨⟨s,o2,E,M,L⟩,_⟩:=h.om l;have A:=(h.tk B).2;rw[p.W B A];exact(h.dd l B hlt).imp (λz=>z.jc p s E (hV B (Int.le_refl _) A M L)) (hD s)
   ·exact dd l U B hlt
  ·exact .inr (l f U hlt)
 ·by_cases l:y.op e q b;·obtain⟨⟨s,o2,E,M,L⟩,o6,o7⟩:=h.om l;refine⟨⟨p.tk s,o2,Int.le_trans E (p.mx s),M,L⟩,by rw[p.kd s E];exact o6,?_⟩;rw[C.R (h.tk s).1];exact p.ha o7
  ·exact om V l
 ·show Ln _ _ _ _ _ _ _ _ _ _ _ ((upd x j a i).vw);by_cases hi:i=j;·subst hi;rw[upd_self];exact a6
  ·rw[upd_ne hi];have q:=C.hi.own Q i1;refine(h.nd Q i1).jc hi p a4 (λV=>(h.om V).1) hV hD N (λt=>?_) C.hu.ad (a9 i hi) a7 (λr w=>?_) (λa3=>(q.o1 a3).1);·have B:=(h.nd Q i1).ac t;refine a5 B.1 (λl=>?_);have A:=(q.t1 t).2.1;have a1:(u.R (x i).d.ep).P=j+1:=l;omega
   ·rcases a8 r w with l|l;·exact .inl l
    ·right;cases t:(x i).act;·exact .inr t
     ·left;intro A;have h7:=(q.t1 t).2.1;rw[A]at l;have a1:(u.R (x i).d.ep).P=j+1:=l;omega
 ·rcases hm hm' with l|l;·have A:=h.ms l;refine⟨λH=>(A.1 H).jc p,λH=>⟨p.ha (A.2 H).1,λh7=>?_⟩⟩;have U:=((C.hi.ms l).s8 H);have h6:=hh (.inr ⟨U.2.2.1,U.2.2.2.1⟩) (A.2 H).1;rw[p.kd h6.1 h6.2.2];exact(A.2 H).2 h7
  ·exact l
 ·rcases List.mem_append.1 w with l|l;·obtain⟨F,X,r3⟩:=O r l;obtain⟨⟨s,o2,E,M,L⟩,_⟩:=h.om F;refine⟨p.op F,by rw[p.W s E];exact X,λi Q i1 i2 i3=>?_⟩;rw[C.R (h.tk s).1]at i2 i3;obtain⟨m,m1,m2⟩:=r3 i Q i1 i2 i3;exact⟨m,C.hs m1,m2⟩
  ·exact(D r l).1
 ·have l:=h.di;rw[List.append_nil]at l;rw[List.pairwise_append];refine⟨l,?_,λF h1 X h2=>(D X h2).2.2.1 F h1⟩;match pend,hp with
  | [],_=>exact .nil
  | [_],_=>exact List.pairwise_singleton _ _
 ·exact(h.rl.2 i hi l).jc p (a0 _ (List.getElem_mem hi))
end
end AG
end Go.Proofs.YtdcainmlcpafbaaGreatDoor
