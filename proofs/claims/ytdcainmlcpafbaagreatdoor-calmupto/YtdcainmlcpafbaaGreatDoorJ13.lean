import Derived.Test.YtdcainmlcpafbaaGreatDoorJ20
import Derived.Test.YtdcainmlcpafbaaGreatDoorJ22
import Derived.Test.YtdcainmlcpafbaaGreatDoorJ23
set_option linter.all false
set_option maxHeartbeats 4000000
set_option maxRecDepth 20000
namespace Go.Proofs.YtdcainmlcpafbaaGreatDoor
open Go.RowKit
open Value renaming slice->J,pointer->P0
open IntKind renaming i64->T
open Option renaming none->Z,some->Y
open Obj renaming cells->G
open Value (bool)
def uD(f:FD)(fs:List FD)(a b:List UInt8):fJ (f::fs) a b=if(f.n==a)=true then⟨f.n,f.d++b,f.s⟩::fs else f::fJ fs a b:=by
 unfold fJ gX;rw[List.findIdx?_cons];by_cases h:(f.n==a)=true;·simp[h]
 ·simp only[h,if_false,Bool.false_eq_true];cases hq:fs.findIdx? (λf=>f.n==a)<;>simp
def uE(f:FD)(fs:List FD)(a:List UInt8):gK (f::fs) a=if(f.n==a)=true then⟨f.n,f.d,f.d.length⟩::fs else f::gK fs a:=by
 unfold gK gX;rw[List.findIdx?_cons];by_cases h:(f.n==a)=true;·simp[h]
 ·simp only[h,if_false,Bool.false_eq_true];cases hq:fs.findIdx? (λf=>f.n==a)<;>simp
def iQ(f:FD)(fs:List FD)(a:List UInt8):dX (f::fs) a=if(f.n==a)=true then some f else dX fs a:=by unfold dX;rw[List.find?_cons];by_cases h:(f.n==a)=true<;>simp[h]
def u9(a b:List UInt8):∀fs:List FD,(fQ (dX (fJ fs a b) a)).d=(fQ (dX fs a)).d++b/\(fQ (dX (fJ fs a b) a)).s=(fQ (dX fs a)).s
 | []=>by simp[fJ,gX,dX,fQ,jJ]
 |f::fs=>by
  rw[uD,iQ f fs];by_cases h:(f.n==a)=true;·rw[if_pos h,if_pos h,iQ,if_pos h];exact⟨rfl,rfl⟩
  ·rw[if_neg h,if_neg h,iQ,if_neg h];exact u9 a b fs
def yO(a:List UInt8):∀fs:List FD,(fQ (dX (gK fs a) a)).d=(fQ (dX fs a)).d/\(fQ (dX (gK fs a) a)).s=(fQ (dX fs a)).d.length
 | []=>by simp[gK,gX,dX,fQ,jJ]
 |f::fs=>by
  rw[uE,iQ f fs];by_cases h:(f.n==a)=true;·rw[if_pos h,if_pos h,iQ,if_pos h];exact⟨rfl,rfl⟩
  ·rw[if_neg h,if_neg h,iQ,if_neg h];exact yO a fs
def ET{b a:List UInt8}(c:b≠a)(e:List UInt8):∀fs:List FD,dX (fJ fs b e) a=dX fs a
 | []=>by simp[fJ,gX,dX,c]
 |f::fs=>by
  rw[uD,iQ f fs];by_cases h:(f.n==b)=true
  ·have d:¬(f.n==a)=true:=by intro g;exact c ((beq_iff_eq.1 h).symm.trans (beq_iff_eq.1 g))
   rw[if_pos h,if_neg d,iQ,if_neg d]
  ·rw[if_neg h,iQ,ET c e fs]
def EU{b a:List UInt8}(d:b≠a):∀fs:List FD,dX (gK fs b) a=dX fs a
 | []=>by simp[gK,gX,dX]
 |f::fs=>by
  rw[uE,iQ f fs];by_cases h:(f.n==b)=true
  ·have c:¬(f.n==a)=true:=by intro e;exact d ((beq_iff_eq.1 h).symm.trans (beq_iff_eq.1 e))
   rw[if_pos h,if_neg c,iQ,if_neg c]
  ·rw[if_neg h,iQ,EU d fs]
def CJ(f:FD)(fs:List FD)(a:List UInt8):eC (f::fs) a=if(f.n==a)=true then eC fs a else f::eC fs a:=by
 unfold eC;rw[List.filter_cons];by_cases h:(f.n==a)=true;·simp[h,bne]
 ·simp only[Bool.not_eq_true]at h;simp[h,bne]
def yP{b a:List UInt8}(c:b≠a):∀fs:List FD,dX (eC fs b) a=dX fs a
 | []=>rfl
 |f::fs=>by
  rw[CJ,iQ f fs];by_cases h:(f.n==b)=true
  ·have e:¬(f.n==a)=true:=by intro d;exact c ((beq_iff_eq.1 h).symm.trans (beq_iff_eq.1 d))
   rw[if_pos h,if_neg e,yP c fs]
  ·rw[if_neg h,iQ,yP c fs]
def vA(a:List UInt8):∀fs:List FD,dX (eC fs a) a=none
 | []=>rfl
 |f::fs=>by
  rw[CJ];by_cases h:(f.n==a)=true;·rw[if_pos h];exact vA a fs
  ·rw[if_neg h,iQ,if_neg h];exact vA a fs
def xR(a:List UInt8):∀(fs:List FD),(∀i,gX fs a=some i->dX fs a=some (fs.getD i jJ))/\(gX fs a=none->dX fs a=none)
 | []=>by simp[gX,dX]
 |f::fs=>by
  obtain⟨b,c⟩:=xR a fs;unfold gX at b c⊢;rw[List.findIdx?_cons,iQ];by_cases h:(f.n==a)=true;·simp[h]
  ·rw[if_neg h];simp only[h,if_false,Bool.false_eq_true];cases hq:fs.findIdx? (λf=>f.n==a) with
   |none=>simpa using c hq
   |some j=>simpa using b j hq
def CK{a:List UInt8}:∀{fs:List FD},dX fs a=none->∀f:FD,(f.n==a)=true->dX (fs++[f]) a=some f
 | [],_,f,hf=>by rw[List.nil_append,iQ,if_pos hf]
 |g::fs,h,f,hf=>by
  rw[iQ]at h;rw[List.cons_append,iQ];by_cases b:(g.n==a)=true;·rw[if_pos b]at h;exact absurd h sG
  ·rw[if_neg b]at h⊢;exact CK h f hf
def PS{a b:List UInt8}(f:a≠b)(fs:List FD)(h:(dX fs a).isSome=true):(fQ (dX (jF fs a b) b)).d=(fQ (dX fs a)).d/\(fQ (dX (jF fs a b) b)).s=(fQ (dX fs a)).s:=by
 obtain⟨c,e⟩:=xR a fs;unfold jF;cases hq:gX fs a with
 |none=>rw[e hq]at h;exact absurd h sG
 |some i=>simp only[if_neg f];rw[CK (vA b _) _ sG,c i hq];exact⟨rfl,rfl⟩
def Sf(fs:List FD):Prop:=∀f∈fs,f.s<=f.d.length
def Sf.app(b e:List UInt8):∀{fs:List FD},Sf fs->Sf (fJ fs b e)
 | [],_=>by intro f a;simp[fJ,gX]at a;subst a;simp
 |g::fs,h=>by
  rw[uD];have i:=h g sG;have d:Sf fs:=λf a=>h f (by simp[a]);by_cases c:(g.n==b)=true
  ·rw[if_pos c];intro f a;rcases List.mem_cons.1 a with rfl|a;·simp;omega
   ·exact d f a
  ·rw[if_neg c];intro f a;rcases List.mem_cons.1 a with rfl|a;·exact i
   ·exact Sf.app b e d f a
def Sf.syn(b:List UInt8):∀{fs:List FD},Sf fs->Sf (gK fs b)
 | [],_=>by intro f a;simp[gK,gX]at a
 |g::fs,h=>by
  rw[uE];have e:=h g sG;have d:Sf fs:=λf a=>h f (by simp[a]);by_cases c:(g.n==b)=true
  ·rw[if_pos c];intro f a;rcases List.mem_cons.1 a with rfl|a;·exact Nat.le_refl _
   ·exact d f a
  ·rw[if_neg c];intro f a;rcases List.mem_cons.1 a with rfl|a;·exact e
   ·exact Sf.syn b d f a
def Sf.out(b:List UInt8){fs:List FD}(h:Sf fs):Sf (eC fs b):=λf a=>h f (List.mem_filter.1 a).1
def Sf.ren(a b:List UInt8){fs:List FD}(h:Sf fs):Sf (jF fs a b):=by
 obtain⟨g,j⟩:=xR a fs;unfold jF;cases hq:gX fs a with
 |none=>exact h
 |some i=>
  dsimp only;split;·exact h
  ·intro f c;rcases List.mem_append.1 c with c|c;·exact(h.out a).out b f c
   ·simp only[List.mem_singleton]at c;subst c;have d:=g i hq;have e:=h _ (List.mem_of_find?_eq_some d);exact e
def uM{K:List FD->Prop}{f:List FD->List FD}(b:∀z,K z->K (f z)){a:Bool×List FD×Int}(h:K a.2.1):K (gN f a).2.1:=by
 unfold gN;split
 ·dsimp only;split;·exact h
  ·exact b _ h
 ·exact h
def KM{f:List FD->List FD}{a:Bool×List FD×Int}(h:(gN f a).1=false):(gN f a).2.1=a.2.1:=by
 unfold gN at h⊢;split at h;·next h1=>rw[if_pos h1];dsimp only at h⊢;rw[decide_eq_false_iff_not,Classical.not_not]at h;rw[if_pos h]
 ·next h1=>rw[if_neg h1]
def uN{f:List FD->List FD}{a:Bool×List FD×Int}(h:(gN f a).1=true):a.1=true/\a.2.2≠0/\(gN f a).2.1=f a.2.1:=by
 unfold gN at h⊢;split at h;·next h1=>rw[if_pos h1];dsimp only at h⊢;rw[decide_eq_true_eq]at h;rw[if_neg h];exact⟨h1,h,rfl⟩
 ·next h1=>exact absurd h h1
def dj:eJ≠eY:=dG
def CL{K:List FD->Prop}(b:∀z,K z->K (eC z eJ))(a:∀z l,K z->K (fJ z eJ l))(c:∀z,K z->K (gK z eJ)){fs:List FD}(h:K fs)(left:Int)(l:List UInt8):K (gN (λz=>gK z eJ) (gN (λz=>fJ z eJ l) (iW fs left))).2.1:=by
 refine uM c (uM (λz=>a z l) ?_);unfold iW;split;·exact uM b h
 ·exact h
def PT{fs fs':List FD}{left left':Int}{l:List UInt8}(h:(false,fs',left')=iE fs left l):dX fs' eY=dX fs eY:=by unfold iE at h;have c:=KM (congrArg Prod.fst h).symm;have b:fs'=_:=(congrArg (λz=>z.2.1) h).trans c;rw[b];exact CL (K:=λz=>dX z eY=dX fs eY) (λz a=>(yP dj z).trans a) (λz l a=>(ET dj l z).trans a) (λz a=>(EU dj z).trans a) rfl left l
def PU{fs fs':List FD}{left left':Int}{l:List UInt8}(h:(true,fs',left')=iE fs left l):(fQ (dX fs' eY)).d=l/\(fQ (dX fs' eY)).s=l.length:=by
 unfold iE at h;obtain⟨a1,x,u⟩:=uN (congrArg Prod.fst h).symm;obtain⟨m,w,q⟩:=uN a1;obtain⟨g,v,c3⟩:=uN m;have o:fs'=_:=(congrArg (λz=>z.2.1) h).trans u;have p:dX (iW fs left).2.1 eJ=none:=by
  unfold iW at g⊢;split at g;·next hh=>rw[if_pos hh,(uN g).2.2];exact vA _ _
  ·next hh=>
   rw[if_neg hh];dsimp only;cases hq:dX fs eJ;·rfl
   ·rw[hq]at hh;exact absurd rfl hh
 rw[o,q,c3];have e:=u9 eJ l (iW fs left).2.1;have k:=yO eJ (fJ (iW fs left).2.1 eJ l);rw[p]at e;have t:(fQ (dX (gK (fJ (iW fs left).2.1 eJ l) eJ) eJ)).d=l:=by rw[k.1,e.1];rfl
 by_cases i:(dX (gK (fJ (iW fs left).2.1 eJ l) eJ) eJ).isSome=true;·have j:=PS dj _ i;rw[j.1,j.2,t,k.2,e.1];exact⟨rfl,rfl⟩
 ·exfalso;have c:∀z:List FD,(dX z eJ).isSome=true->(dX (gK z eJ) eJ).isSome=true:=by
   intro z;induction z with
   |nil=>intro r;simp[dX]at r
   |cons f z ih=>
    rw[uE,iQ];by_cases a:(f.n==eJ)=true;·rw[if_pos a,if_pos a,iQ,if_pos a];intro _;rfl
    ·rw[if_neg a,if_neg a,iQ,if_neg a];exact ih
  have b:∀z:List FD,(dX (fJ z eJ l) eJ).isSome=true:=by
   intro z;induction z with
   |nil=>simp[fJ,gX,dX]
   |cons f z ih=>
    rw[uD];by_cases a:(f.n==eJ)=true;·rw[if_pos a,iQ,if_pos a];rfl
    ·rw[if_neg a,iQ,if_neg a];exact ih
  exact i (c _ (b _))
def EV{fs fs':List FD}{left left':Int}{l:List UInt8}{ok:Bool}(hs:Sf fs)(h:(ok,fs',left')=iE fs left l):Sf fs':=by have b:fs'=_:=congrArg (λz=>z.2.1) h;rw[b];unfold iE;exact uM (K:=Sf) (λz a=>a.ren _ _) (CL (λz a=>a.out _) (λz l a=>a.app _ _) (λz a=>a.syn _) hs left l)
def PW{fs fs':List FD}{left':Int}{l:List UInt8}{ok:Bool}(h:(ok,fs',left')=iE fs (-1) l):ok=true/\left' = -1:=by
 have a:∀(f:List FD->List FD) (b:Bool×List FD×Int),b.1=true/\b.2.2 = -1->(gN f b).1=true/\(gN f b).2.2 = -1:=by rintro f b ⟨e,d⟩;unfold gN;rw[if_pos e,d];exact⟨rfl,rfl⟩
 have g:(iW fs (-1)).1=true/\(iW fs (-1)).2.2 = -1:=by
  unfold iW;split;·exact a _ _ ⟨rfl,rfl⟩
  ·exact⟨rfl,rfl⟩
 have c:=a (λz=>jF z eJ eY) _ (a (λz=>gK z eJ) _ (a (λz=>fJ z eJ l) _ g));unfold iE at h;rw[←h]at c;exact c
def Kq(l:List (Int×PV)):Prop:=(l.map (·.1)).Nodup
def sT(e:Int)(x:PV):∀l:List (Int×PV),∀k,k∈(f8 l e x).map (·.1)↔k∈l.map (·.1)∨k=e
 | [],k=>by simp[f8]
 |y::l,k=>by
  unfold f8;by_cases h:e=y.1
  ·rw[if_pos h];simp only[List.map_cons,List.mem_cons];constructor
   ·rintro(a|a);·exact .inr a
    ·exact .inl (.inr a)
   ·rintro((a|a)|a);·exact .inl (a.trans h.symm)
    ·exact .inr a
    ·exact .inl a
  ·rw[if_neg h];simp only[List.map_cons,List.mem_cons,sT e x l k];constructor
   ·rintro(a|a|a);·exact .inl (.inl a)
    ·exact .inl (.inr a)
    ·exact .inr a
   ·rintro((a|a)|a);·exact .inl a
    ·exact .inr (.inl a)
    ·exact .inr (.inr a)
def Kq.put{l:List (Int×PV)}(h:Kq l)(e:Int)(x:PV):Kq (f8 l e x):=by
 unfold Kq at*;induction l with
 |nil=>simp[f8]
 |cons y l ih=>
  simp only[List.map_cons,List.nodup_cons]at h;unfold f8;by_cases a:e=y.1;·rw[if_pos a];simp only[List.map_cons,List.nodup_cons];rw[a];exact h
  ·rw[if_neg a];simp only[List.map_cons,List.nodup_cons];refine⟨λc=>?_,ih h.2⟩;rcases(sT e x l y.1).1 c with b|b;·exact h.1 b
   ·exact a b.symm
def CM(e:Int):∀l:List (Int×PV),∀k,k∈(fT l e).map (·.1)->k∈l.map (·.1)
 | [],k=>by simp[fT]
 |y::l,k=>by
  unfold fT;split;·intro h;simp only[List.map_cons,List.mem_cons];exact .inr h
  ·intro h;simp only[List.map_cons,List.mem_cons]at h⊢;exact h.imp id (CM e l k)
def Kq.del{l:List (Int×PV)}(h:Kq l)(e:Int):Kq (fT l e):=by
 unfold Kq at*;induction l with
 |nil=>simp[fT]
 |cons y l ih=>
  simp only[List.map_cons,List.nodup_cons]at h;unfold fT;split;·exact h.2
  ·simp only[List.map_cons,List.nodup_cons];exact⟨λa=>h.1 (CM e l _ a),ih h.2⟩
def DW{l:List (Int×PV)}{e:Int}(h:e∉l.map (·.1)):dJ l e=⟨0,0,0,0⟩:=by
 unfold dJ;rw[List.find?_eq_none.2];·rfl
 ·intro y hy a;exact h (by rw[beq_iff_eq.1 a];exact List.mem_map_of_mem hy)
def CO{l:List (Int×PV)}(h:Kq l)(e:Int):dJ (fT l e) e=⟨0,0,0,0⟩:=by
 unfold Kq at h;induction l with
 |nil=>rfl
 |cons y l ih=>
  simp only[List.map_cons,List.nodup_cons]at h;unfold fT;by_cases a:e=y.1;·rw[if_pos a];exact DW (by rw[a];exact h.1)
  ·rw[if_neg a];have b:(e==y.1)=false:=by simpa using a
   have:=ih h.2;unfold dJ at this⊢;simp only[List.find?_cons,b];exact this
def OG{l:List (Int×PV)}{e:Int}:dJ l e=⟨0,0,0,0⟩∨(e,dJ l e)∈l:=by
 unfold dJ;cases hq:l.find? (λx=>e==x.1) with
 |none=>exact .inl rfl
 |some y=>right;have a:=List.mem_of_find?_eq_some hq;have c:=List.find?_some hq;have b:=beq_iff_eq.1 c;show(e,y.2)∈l;rw[b];exact a
structure iL(a b:SD):Prop where
 id:a.id=b.id
 recs:a.recs=b.recs
 vt:∀e,dJ a.3 e=dJ b.3 e
 b0:a.b0=b.b0
 b1:a.b1=b.b1
 b2:a.b2=b.b2
 b3:a.b3=b.b3
 seen:a.seen=b.seen
 last:a.last=b.last
 ky:∀e,e∈a.3.map (·.1)↔e∈b.3.map (·.1)
def iL.refl(a:SD):iL a a:=⟨rfl,rfl,λ_=>rfl,rfl,rfl,rfl,rfl,rfl,rfl,λ_=>Iff.rfl⟩
def iL.trans{a b c:SD}(h:iL a b)(k:iL b c):iL a c:=⟨h.id.trans k.id,h.recs.trans k.recs,λe=>(h.vt e).trans (k.vt e),h.b0.trans k.b0,h.b1.trans k.b1,h.b2.trans k.b2,h.b3.trans k.b3,h.seen.trans k.seen,h.last.trans k.last,λe=>(h.ky e).trans (k.ky e)⟩
def iL.len{a b:SD}(h:iL a b)(d:Kq a.3)(e:Kq b.3):a.3.length=b.3.length:=by have c:=((List.perm_ext_iff_of_nodup d e).2 h.ky).length_eq;simpa using c
def DX{l:List (Int×PV)}(h:Kq l)(e k:Int):k∈(fT l e).map (·.1)↔k∈l.map (·.1)/\k≠e:=by
 unfold Kq at h;induction l with
 |nil=>simp[fT]
 |cons y l ih=>
  simp only[List.map_cons,List.nodup_cons]at h;unfold fT;by_cases c:e=y.1
  ·rw[if_pos c];simp only[List.map_cons,List.mem_cons];subst c;constructor;·intro a;exact⟨.inr a,λb=>h.1 (b ▸ a)⟩
   ·rintro⟨a|a,b⟩;·exact absurd a b
    ·exact a
  ·rw[if_neg c];simp only[List.map_cons,List.mem_cons,ih h.2];constructor
   ·rintro(a|⟨a,b⟩);·exact⟨.inl a,λd=>c (d.symm.trans a)⟩
    ·exact⟨.inr a,b⟩
   ·rintro⟨a|a,b⟩;·exact .inl a
    ·exact .inr ⟨a,b⟩
def Kq.step{d:SD}(h:Kq d.3)(m:dN):Kq (d.stepM m).3:=by
 unfold SD.stepM SD.step;split;·exact h.put _ _
 split;·exact h.put _ _
 split;·exact h.del _
 split;·unfold SD.lg;(repeat' split)<;>exact h
 ·exact h
def Kq.play:∀(ms:List dN) {d:SD},Kq d.3->Kq (d.play ms).3
 | [],d,h=>h
 |m::ms,d,h=>by unfold SD.play;rw[List.foldl_cons];exact Kq.play ms (h.step m)
def iL.step{a b:SD}(h:iL a b)(d:Kq a.3)(g:Kq b.3)(m:dN):iL (a.stepM m) (b.stepM m):=by
 have f:∀E P,a.takes E P=b.takes E P:=λE P=>by unfold SD.takes;rw[h.id,h.seen]
 unfold SD.stepM SD.step;split
 ·refine⟨h.id,h.recs,λe=>?_,h.b0,h.b1,h.b2,h.b3,h.seen,h.last,λe=>?_⟩;·simp only[AG.vmGet_put,h.vt]
  ·simp only[sT,h.ky]
 split
 ·refine⟨h.id,h.recs,λe=>?_,h.b0,h.b1,h.b2,h.b3,h.seen,h.last,λe=>?_⟩;·simp only[AG.vmGet_put,h.vt]
  ·simp only[sT,h.ky]
 split
 ·unfold SD.learn;refine⟨h.id,by simp only[h.recs],λe=>?_,h.b0,h.b1,h.b2,h.b3,by simp only[f,h.seen],by simp only[f,h.last],λe=>?_⟩
  ·dsimp only;by_cases c:e=m.e+1 - 1;·rw[c,CO d,CO g]
   ·rw[AG.vmGet_del _ _ _ c,AG.vmGet_del _ _ _ c];exact h.vt e
  ·dsimp only;rw[DX d,DX g,h.ky]
 split;·unfold SD.lg;(repeat' split)<;>exact⟨h.id,h.recs,h.vt,by first|rfl|exact h.b0,by first|rfl|exact h.b1,by first|rfl|exact h.b2,by first|rfl|exact h.b3,rfl,rfl,h.ky⟩
 ·exact⟨h.id,h.recs,h.vt,by simp only[h.b0],by simp only[h.b1],by simp only[h.b2],by simp only[h.b3],rfl,rfl,h.ky⟩
def fL(id n:Int)(li:Int)(wh:Bool):SD:=⟨id,[⟨0,0,2^n.toNat - 1⟩],[],0,0,0,0,0,0,li,wh⟩
def iL.play{a b:SD}(h:iL a b)(c:Kq a.3)(d:Kq b.3):∀ms:List dN,iL (a.play ms) (b.play ms):=by
 intro ms;induction ms generalizing a b with
 |nil=>exact h
 |cons m ms ih=>unfold SD.play;rw[List.foldl_cons,List.foldl_cons];exact ih (h.step c d m) (c.step m) (d.step m)
def BV(id n:Int)(c b:Int)(d a:Bool):iL (fL id n c d) (fL id n b a):=⟨rfl,rfl,λ_=>rfl,rfl,rfl,rfl,rfl,rfl,rfl,λ_=>Iff.rfl⟩
def pC(id n:Int)(a:Int)(b:Bool):Kq (fL id n a b).3:=by simp[Kq,fL]
structure fS(d:SD)(n:Int):Prop where
 kn:Kq d.3
 vt:∀y∈d.3,(0<=y.1/\y.1<=1000000000000)/\(0<=y.2.pr/\y.2.pr<=1000000000000)/\(0<=y.2.ac/\y.2.ac<=1000000000000)/\(0<=y.2.pm/\y.2.pm<=5)/\(0<=y.2.st/\y.2.st<=31)
 hd:∃tl,d.recs=⟨0,0,2^n.toNat - 1⟩::tl
 re:∀i (h:i<d.recs.length),d.recs[i].E=(i:Int)/\(0<=d.recs[i].P/\d.recs[i].P<=5)/\(0<=d.recs[i].S/\d.recs[i].S<=31)
 se:0<=d.seen/\d.seen<=1000000000000
 la:0<=d.last/\d.last<=1000000000000
 b0:i_ d.b0
 b1:i_ d.b1
 b2:i_ d.b2
 b3:i_ d.b3
def CP(id n a:Int)(b:Bool):∀(rs:List eM) (d:SD),d.3=[]->d.b0=0->d.b1=0->d.b2=0->d.b3=0->d.id=id->(d.play (rs.map kM)).recs=d.recs++rs/\(d.play (rs.map kM)).3=[]/\(d.play (rs.map kM)).id=id
 | [],d,h1,_,_,_,_,h2=>⟨by simp[SD.play],h1,h2⟩
 |r::rs,d,h1,h3,h4,h5,h6,h2=>by
  have hs:d.stepM (kM r)=d.learn r.E r.P r.S:=by unfold SD.stepM SD.step kM;simp
  unfold SD.play;rw[List.map_cons,List.foldl_cons,hs];have ih:=CP id n a b rs (d.learn r.E r.P r.S) (by simp[SD.learn,h1,fT]) h3 h4 h5 h6 h2;refine⟨ih.1.trans ?_,ih.2.1,ih.2.2⟩;simp[SD.learn]
def CQ(V:Int->PV):∀(b:List Int) (d:SD),(d.play (b.flatMap (λe=>[lC e (V e),lD e (V e)]))).recs=d.recs/\(d.play (b.flatMap (λe=>[lC e (V e),lD e (V e)]))).id=d.id/\∀e,(dJ (d.play (b.flatMap (λe=>[lC e (V e),lD e (V e)]))).3 e=if e∈b then V e else dJ d.3 e)/\(e∈(d.play (b.flatMap (λe=>[lC e (V e),lD e (V e)]))).3.map (·.1)↔e∈b∨e∈d.3.map (·.1))
 | [],d=>⟨rfl,rfl,λe=>by simp[SD.play]⟩
 |k::b,d=>by
  rw[List.flatMap_cons];unfold SD.play;rw[List.foldl_append];have hs:List.foldl SD.stepM d [lC k (V k),lD k (V k)]={d with kv:=f8 (f8 d.3 k ⟨(V k).ac,(V k).ac,(V k).pm,(V k).st⟩) k (V k)}:=by simp only[List.foldl_cons,List.foldl_nil];unfold lC lD SD.stepM SD.step;simp[PV.after,AG.vmGet_put]
  rw[hs];have ih:=CQ V b {d with kv:=f8 (f8 d.3 k ⟨(V k).ac,(V k).ac,(V k).pm,(V k).st⟩) k (V k)};refine⟨ih.1,ih.2.1,λe=>⟨(ih.2.2 e).1.trans ?_,(ih.2.2 e).2.trans ?_⟩⟩
  ·dsimp only;simp only[AG.vmGet_put,List.mem_cons];by_cases a:e∈b;·simp[a]
   ·by_cases c:e=k;·subst c;simp[a]
    ·simp[a,c]
  ·dsimp only;simp only[sT,List.mem_cons];constructor
   ·rintro(a|(a|a)|a);·exact .inl (.inr a)
    ·exact .inr a
    ·exact .inl (.inl a)
    ·exact .inl (.inl a)
   ·rintro((a|a)|a);·exact .inr (.inr a)
    ·exact .inl a
    ·exact .inr (.inl (.inl a))
def CR(d:SD)(a b:List dN):d.play (a++b)=(d.play a).play b:=by unfold SD.play;rw[List.foldl_append]
def PX{d:SD}{n:Int}(h:fS d n){c:List Int}(k:c.Perm (d.3.map (·.1)))(m:Option Addr)(o:Nat)(g:Int)(b:Bool):iL ((fL d.id n g b).play (d.jb c m o)) d:=by
 obtain⟨r,i⟩:=h.hd;unfold SD.jb;rw[CR,CR];have f:=CP d.id n g b d.recs.tail (fL d.id n g b) rfl rfl rfl rfl rfl rfl;have a:=CQ (dJ d.3) c ((fL d.id n g b).play (d.recs.tail.map kM));generalize s:((fL d.id n g b).play (d.recs.tail.map kM))=A at f a⊢;generalize t:A.play (c.flatMap (λe=>[lC e (dJ d.3 e),lD e (dJ d.3 e)]))=B at a⊢;have p:B.play [⟨9,0,d.seen,0,0,0,0,d.last,0,0,m,o,[d.b0,d.b1,d.b2,d.b3]⟩]={B with seen:=d.seen,last:=d.last,b0:=d.b0,b1:=d.b1,b2:=d.b2,b3:=d.b3}:=by simp[SD.play,SD.stepM,SD.step]
 rw[p];refine⟨a.2.1.trans f.2.2,?_,λe=>?_,rfl,rfl,rfl,rfl,rfl,rfl,λe=>?_⟩;·show B.recs=d.recs;rw[a.1,f.1,i];rfl
 ·show dJ B.kv e=_;rw[(a.2.2 e).1];by_cases j:e∈c;·rw[if_pos j]
  ·rw[if_neg j,f.2.1,DW (l:=d.3) (λq=>j (k.mem_iff.2 q))];rfl
 ·show e∈B.kv.map (·.1)↔_;rw[(a.2.2 e).2,f.2.1,k.mem_iff];simp
def pI{k f:Int}{a:List Int}(h:fP k f a=true):(1<=k/\k<=10)/\(0<=f/\f<5)/\iS k.toNat a=true:=by unfold fP oN at h;simp only[Bool.and_eq_true,Bool.not_eq_true',decide_eq_false_iff_not]at h;exact⟨oG,oG,h.2⟩
def jK(k:Int):Prop:=k=1∨k=3∨k=6∨k=7∨k=9
def xS(e:Int)(x:PV):∀(l:List (Int×PV)),∀y∈f8 l e x,y∈l∨y=(e,x)
 | [],y,h=>by simp[f8]at h;exact .inr h
 |z::l,y,h=>by
  unfold f8 at h;split at h
  ·rcases List.mem_cons.1 h with h|h;·exact .inr h
   ·exact .inl (by simp[h])
  ·rcases List.mem_cons.1 h with h|h;·exact .inl (by simp[h])
   ·rcases xS e x l y h with h|h;·exact .inl (by simp[h])
    ·exact .inr h
def DY(e:Int):∀(l:List (Int×PV)),∀y∈fT l e,y∈l
 | [],y,h=>by simp[fT]at h
 |z::l,y,h=>by
  unfold fT at h;split at h;·simp[h]
  ·rcases List.mem_cons.1 h with h|h;·simp[h]
   ·simp[DY e l y h]
def fS.at{d:SD}{n:Int}(h:fS d n)(e:Int):(0<=(dJ d.3 e).pr/\(dJ d.3 e).pr<=1000000000000)/\(0<=(dJ d.3 e).ac/\(dJ d.3 e).ac<=1000000000000)/\(0<=(dJ d.3 e).pm/\(dJ d.3 e).pm<=5)/\(0<=(dJ d.3 e).st/\(dJ d.3 e).st<=31):=by
 rcases OG (l:=d.3) (e:=e) with a|a;·rw[a];simp
 ·exact(h.vt _ a).2
def fS.step{d:SD}{n:Int}(h:fS d n){m:dN}(w:iT m)(c:jK m.k)(D:m.k=6->m.e=d.ep/\m.e<1000000000000):fS (d.stepM m) n:=by
 obtain⟨_,_,f⟩:=pI w.1;have o:=h.at m.e;unfold SD.stepM SD.step;rcases c with c|c|c|c|c
 ·rw[if_pos c];rw[c]at f;have a:=(nQ _ _ _ _ _ _ _ _ _).1 f;refine⟨h.kn.put _ _,λy hy=>?_,h.hd,h.re,h.se,h.la,h.b0,h.b1,h.b2,h.b3⟩;rcases xS _ _ _ y hy with hy|rfl;·exact h.vt y hy
  ·simp only[PV.after,show¬((1:Int)=3) by decide,if_false];exact⟨a.1,a.2.1,o.2.1,o.2.2.1,o.2.2.2⟩
 ·rw[if_neg oG,if_pos c];rw[c]at f;have a:=(nR _ _ _ _ _ _ _ _ _).1 f;refine⟨h.kn.put _ _,λy hy=>?_,h.hd,h.re,h.se,h.la,h.b0,h.b1,h.b2,h.b3⟩;rcases xS _ _ _ y hy with hy|rfl;·exact h.vt y hy
  ·simp only[PV.after,if_true];exact⟨a.1,a.2.1,a.2.1,a.2.2.1,a.2.2.2.1⟩
 ·rw[if_neg oG,if_neg oG,if_pos c];obtain⟨E,F⟩:=D c;rw[c]at f;have a:=(oD _ _ _ _ _ _ _ _ _).1 f;obtain⟨x,q⟩:=h.hd;have C:=h.se;have A:=h.la;refine⟨h.kn.del _,λy hy=>h.vt y (DY _ _ y hy),⟨x++[⟨m.e+1,m.p,m.s⟩],by simp[SD.learn,q]⟩,λi hi=>?_,?_,?_,h.b0,h.b1,h.b2,h.b3⟩
  ·simp only[SD.learn]at hi⊢;by_cases v:i<d.recs.length;·rw[List.getElem_append_left v];exact h.re i v
   ·have r:i=d.recs.length:=by simp at hi;omega
    subst r;simp only[List.getElem_append_right r_,Nat.sub_self,List.getElem_cons_zero];refine⟨?_,a.2.1,a.2.2.1⟩;rw[E];unfold SD.ep;omega
  ·simp only[SD.learn];split<;>omega
  ·simp only[SD.learn];split<;>omega
 ·rw[if_neg oG,if_neg oG,if_neg oG,if_pos c];rw[c]at f;have a:=(oF _ _ _ _ _ _ _ _ _).1 f;have j:=h.b0;have t:=h.b1;have l:=h.b2;have u:=h.b3;unfold SD.lg;(repeat' split)<;>exact⟨h.kn,h.vt,h.hd,h.re,a.1,a.2.1,by first|exact j|exact a.2.2.2.1,by first|exact t|exact a.2.2.2.1,by first|exact l|exact a.2.2.2.1,by first|exact u|exact a.2.2.2.1⟩
 ·rw[if_neg oG,if_neg oG,if_neg oG,if_neg oG];rw[c]at f;have a:=(oH _ _ _ _ _ _ _ _ _).1 f;have g:∀(i:Nat) (b:Int),(i_ b)-> -9223372036854775808<=m.zs.getD i b/\m.zs.getD i b<=9223372036854775807:=by
   intro i b B;rw[List.getD_eq_getElem?_getD];cases hq:m.zs[i]? with
   |none=>exact B
   |some z=>exact w.2 z (List.mem_of_getElem? hq)
  exact⟨h.kn,h.vt,h.hd,h.re,a.1,a.2.1,g 0 _ h.b0,g 1 _ h.b1,g 2 _ h.b2,g 3 _ h.b3⟩
def fS.lines{d:SD}{n:Int}(h:fS d n)(a:Int)(wh:Bool):fS {d with lines:=a,wh:=wh} n:=⟨h.kn,h.vt,h.hd,h.re,h.se,h.la,h.b0,h.b1,h.b2,h.b3⟩
def fS.alk{a d:SD}{n:Int}(h:fS d n)(k:iL a d)(e:Kq a.3)(g:∀y∈a.3,dJ a.3 y.1=y.2):fS a n:=by
 refine⟨e,λy hy=>?_,by rw[k.recs];exact h.hd,?_,by rw[k.seen];exact h.se,by rw[k.last];exact h.la,by rw[k.b0];exact h.b0,by rw[k.b1];exact h.b1,by rw[k.b2];exact h.b2,by rw[k.b3];exact h.b3⟩;·have l:y.1∈d.3.map (·.1):=(k.ky _).1 (List.mem_map_of_mem hy);obtain⟨z,m,b⟩:=List.mem_map.1 l;have j:=h.vt z m;have c:=h.at y.1;rw[←k.vt,g y hy]at c;exact⟨by rw[←b];exact j.1,c⟩
 ·intro i hi;have f:=h.re i (by rw[←k.recs];exact hi);simp only[k.recs];exact f
def PY{l:List (Int×PV)}(h:Kq l):∀y∈l,dJ l y.1=y.2:=by
 unfold Kq at h;induction l with
 |nil=>intro y hy;simp at hy
 |cons z l ih=>
  simp only[List.map_cons,List.nodup_cons]at h;intro y hy;rcases List.mem_cons.1 hy with rfl|hy;·simp[dJ]
  ·have a:y.1≠z.1:=λc=>h.1 (by rw[←c];exact List.mem_map_of_mem hy);have b:(y.1==z.1)=false:=by simpa using a
   have:=ih h.2 y hy;unfold dJ at this⊢;simp only[List.find?_cons,b];exact this
structure JD(dt:List UInt8)(ms:List dN)(junk:List UInt8)(d:SD)(n:Int)(t:Nat):Prop where
 dt:dt=ms.flatMap fE++junk
 re:∀m∈ms,iT m/\iI m.k m.bl m.zs.length
 tn:pV junk
 ln:ms.length<=3*t+2
 pl:iL ((fL d.id n 0 true).play ms) d
def dN.ms(m:dN):AG.Ms:=⟨m.k,m.f,m.e,m.b,m.wa,m.p,m.s,m.q,m.bl,m.v,m.zs⟩
structure Jr(fs:List FD)(d:SD)(n:Int)(t:Nat)(dn:Bool)(tr:AG.Ms):Prop where
 sf:Sf fs
 j:(∃ms junk,JD (fQ (dX fs eY)).d ms junk d n t/\(fQ (dX fs eY)).s=(fQ (dX fs eY)).d.length/\(dn=false->d.wh=true->junk=[]))∨(dn=true/\∃ms m,JD (ms.flatMap fE) ms [] d n t/\(fQ (dX fs eY)).d=ms.flatMap fE++fE m/\(fQ (dX fs eY)).s=(ms.flatMap fE).length/\m.ms=tr/\iT m/\iI m.k m.bl m.zs.length/\(m.k=6->m.e=d.ep/\m.e<1000000000000))
def tQ{m:dN}{k bl:Int}{n:Nat}(h:iI k bl n):jK k:=by unfold iI at h;unfold jK;omega
def JD.next{b:List UInt8}{ms:List dN}{a:List UInt8}{d:SD}{n:Int}{t:Nat}(h:JD b ms a d n t):JD b ms a d n (t+1):=⟨h.dt,h.re,h.tn,by have:=h.ln;omega,h.pl⟩
def Jr.next{fs:List FD}{d:SD}{n:Int}{t:Nat}{dn:Bool}{tr:AG.Ms}(h:Jr fs d n t dn tr):Jr fs d n (t+1) dn tr:=by
 refine⟨h.sf,?_⟩;rcases h.j with⟨ms,a,c,b⟩|⟨e,ms,m,c,b⟩;·exact .inl ⟨ms,a,c.next,b⟩
 ·exact .inr ⟨e,ms,m,c.next,b⟩
def KN{d:SD}{n:Int}(h:fS d n)(A:d.recs.length<=40000000){p:List Int}(u:p.Perm (d.3.map (·.1)))(q:Option Addr)(w:Nat):∀m∈d.jb p q w,iT m/\iI m.k m.bl m.zs.length:=by
 intro m a;unfold SD.jb at a;obtain⟨x,t⟩:=h.hd;have f:(0:Int)<=0/\(0:Int)<5:=dG;rcases List.mem_append.1 a with a|a
 ·rcases List.mem_append.1 a with a|a
  ·obtain⟨r,s,rfl⟩:=List.mem_map.1 a;obtain⟨i,hi,rfl⟩:=List.getElem_of_mem s;have o:i+1<d.recs.length:=by simpa using Nat.add_lt_of_lt_sub (by simpa using hi)
   have b:=h.re (i+1) o;rw[List.getElem_tail];refine⟨⟨rZ 0 _ _ _ f ?_ b.2.1 b.2.2,by intro z c;simp[kM]at c⟩,.inr (.inr (.inl rfl))⟩;show 0<=d.recs[i+1].E - 1/\d.recs[i+1].E - 1<=1000000000000;rw[b.1];omega
  ·obtain⟨e,v,a⟩:=List.mem_flatMap.1 a;have l:=u.mem_iff.1 v;obtain⟨y,hy,j⟩:=List.mem_map.1 l;have g:=(h.vt y hy).1;rw[j]at g;have b:=h.at e;simp only[List.mem_cons,List.mem_nil_iff,or_false]at a;rcases a with rfl|rfl;·exact⟨⟨vT 0 _ _ _ _ f g b.2.1 b.2.2.1 b.2.2.2,by intro z c;simp[lC]at c⟩,.inr (.inl rfl)⟩
   ·exact⟨⟨sA 0 _ _ f g b.1,by intro z c;simp[lD]at c⟩,.inl rfl⟩
 ·simp only[List.mem_cons,List.mem_nil_iff,or_false]at a;subst a;refine⟨⟨sB 0 _ _ 4 f h.se h.la dG,?_⟩,.inr (.inr (.inr (.inr ⟨rfl,sG⟩)))⟩;intro z c;simp only[List.mem_cons,List.mem_nil_iff,or_false]at c;rcases c with rfl|rfl|rfl|rfl;·exact h.b0
  ·exact h.b1
  ·exact h.b2
  ·exact h.b3
def Jr.wrote{fs fs':List FD}{d d':SD}{n:Int}{t:Nat}{tr:AG.Ms}{left left':Int}{m:dN}{ok:Bool}(h:Jr fs d n t false tr)(q:fS d n)(E:BG t d)(S:t<=20000000)(y:iT m)(w:iI m.k m.bl m.zs.length)(Q:m.k=6->m.e=d.ep/\m.e<1000000000000)(M:mB d fs left m ok fs' left' d'):Jr fs' (bif ok then d'.stepM m else d') n (t+1) (!ok) m.ms:=by
 have K:=h.j;simp only[Bool.false_eq_true,false_and,or_false]at K;obtain⟨ms,p,a,v,N⟩:=K;have L:=a.ln;rcases M with⟨w1,w2,w3,R,rfl⟩|⟨o,i,l,w1,w2,rfl⟩
 ·have A:=N trivial w1;subst A;have g:=a.dt;rw[List.append_nil]at g;unfold pS at w3;have u:Kq ((fL d.id n 0 true).play ms).3:=Kq.play _ (pC _ _ _ _);have b:iL ((fL d.id n 0 true).play ms) {d with lines:=d.lines+1}:=⟨a.pl.id,a.pl.recs,a.pl.vt,a.pl.b0,a.pl.b1,a.pl.b2,a.pl.b3,a.pl.seen,a.pl.last,a.pl.ky⟩;by_cases s:left=0
  ·rw[if_pos s]at w3;subst w3;have:ok=false:=by rw[w2];simp[s]
   subst this;exact⟨h.sf,.inl ⟨ms,[],⟨a.dt,a.re,a.tn,oG,b⟩,v,λ_ _=>rfl⟩⟩
  ·rw[if_neg s]at w3;by_cases r:left=1
   ·rw[if_pos r]at w3;subst w3;have:ok=false:=by rw[w2];simp[r]
    subst this;have a1:=u9 eY (fE m) fs;refine⟨h.sf.app _ _,.inr ⟨rfl,ms,m,⟨sG,a.re,.inl rfl,oG,b⟩,?_,?_,rfl,y,w,Q⟩⟩;·rw[a1.1,g]
    ·rw[a1.2,v,g]
   ·rw[if_neg r]at w3;subst w3;have:ok=true:=by rw[w2];simp[s,r]
    subst this;have a1:=u9 eY (fE m) fs;have D:=yO eY (fJ fs eY (fE m));refine⟨(h.sf.app _ _).syn _,.inl ⟨ms++[m],[],⟨?_,?_,.inl rfl,nG,?_⟩,?_,λ_ _=>rfl⟩⟩;·rw[D.1,a1.1,g];simp
    ·intro z c;rcases List.mem_append.1 c with c|c;·exact a.re z c
     ·simp at c;subst c;exact⟨y,w⟩
    ·have B:=b.step u q.kn m;rw[sQ];have C:(SD.stepM {d with lines:=d.lines+1} m).id=d.id:=(qD _ _ _ _ _ _ _ _ _ _).2.2.2.2.1;show iL (((fL (SD.stepM {d with lines:=d.lines+1} m).id n 0 true).play ms).stepM m) _;rw[C];exact B
    ·rw[D.2,D.1]
 ·have U:(d.jb o i l).length<=3*t+1:=by rw[xD,w1.length_eq,List.length_map];have:=E.recs;have:=E.kv;omega
  have b:=PX q w1 i l 0 true;have u:Kq ((fL d.id n 0 true).play (d.jb o i l)).3:=Kq.play _ (pC _ _ _ _);cases ok;·have H:=PT w2;have f:=a.pl;refine⟨EV h.sf w2,.inl ⟨ms,p,⟨by rw[H];exact a.dt,a.re,a.tn,oG,⟨f.id,f.recs,f.vt,f.b0,f.b1,f.b2,f.b3,f.seen,f.last,f.ky⟩⟩,by rw[H];exact v,sG⟩⟩
  ·obtain⟨F,O⟩:=PU w2;refine⟨EV h.sf w2,.inl ⟨d.jb o i l++[m],[],⟨by rw[F];simp,?_,.inl rfl,nG,?_⟩,by rw[F,O],λ_ _=>rfl⟩⟩
   ·intro z c;rcases List.mem_append.1 c with c|c;·exact KN q (by have:=E.recs;omega) w1 i l z c
    ·simp at c;subst c;exact⟨y,w⟩
   ·have x:iL ((fL d.id n 0 true).play (d.jb o i l)) {d with lines:=(d.recs.length:Int)+2*(d.3.length:Int)+1,wh:=true}:=⟨b.id,b.recs,b.vt,b.b0,b.b1,b.b2,b.b3,b.seen,b.last,b.ky⟩;have B:=x.step u q.kn m;rw[sQ];have C:(SD.stepM {d with lines:=(d.recs.length:Int)+2*(d.3.length:Int)+1,wh:=true} m).id=d.id:=(qD _ _ _ _ _ _ _ _ _ _).2.2.2.2.1;show iL (((fL (SD.stepM {d with lines:=(d.recs.length:Int)+2*(d.3.length:Int)+1,wh:=true} m).id n 0 true).play (d.jb o i l)).stepM m) _;rw[C];exact B
def iO.ms(m:iO):AG.Ms:=⟨m.k,m.f,m.e,m.b,m.wa,m.p,m.s,m.q,m.bl,m.v,[]⟩
def SD.du(d:SD):AG.Du:=⟨d.id,d.recs,d.3,d.bk,d.seen,d.last⟩
def dK(x:NB)(u:AG.Du)(la lo:List Ky)(rs:List dO)(tr:AG.Ms):AG.Nd:=⟨x.id,x.2,x.nb,u,x.5,x.act,x.ph,x.gP,x.gS,x.jo,x.ba,x.rf,x.fo.ms,la,x.on,x.ow.ms,lo,x.ops,rs,tr⟩
def oJ{d:SD}(h:0<d.recs.length):d.du.rc d.du.ep=d.ek:=by show d.recs.getD ((d.recs.length:Int) - 1).toNat ⟨0,0,0⟩=d.recs.getD (d.recs.length - 1) ⟨0,0,0⟩;rw[show((d.recs.length:Int) - 1).toNat=d.recs.length - 1 by omega]
def CU(d:SD)(E P:Int):d.du.takes E P=d.takes E P:=by unfold AG.Du.takes SD.takes;show(P==d.id+1&&decide (d.seen<E))=_;congr 1
def SB(d:SD)(bl v:Int)(h:0<=bl/\bl<=3)(e q:Int):({d.lg bl v with seen:=e,last:=q}:SD).bk=λi=>if i=bl then v else d.bk i:=by
 funext i;have f:bl=0∨bl=1∨bl=2∨bl=3:=oG;unfold SD.lg SD.bk;rcases f with rfl|rfl|rfl|rfl;·by_cases a:i=0<;>simp[a]
 ·by_cases a:i=0;·simp[a]
  ·by_cases b:i=1<;>simp[a,b]
 ·by_cases a:i=0;·simp[a]
  ·by_cases b:i=1;·simp[b]
   ·by_cases c:i=2<;>simp[a,b,c]
 ·by_cases a:i=0;·simp[a]
  ·by_cases b:i=1;·simp[b]
   ·by_cases c:i=2;·simp[c]
    ·by_cases g:i=3<;>simp[a,b,c,g]
def SC(d:SD)(a:List Int)(h:a.length<=4)(e q:Int):({d with seen:=e,last:=q,b0:=a.getD 0 d.b0,b1:=a.getD 1 d.b1,b2:=a.getD 2 d.b2,b3:=a.getD 3 d.b3}:SD).bk=λi=>bif decide (0<=i) then a.getD i.toNat (d.bk i) else d.bk i:=by
 funext i;unfold SD.bk;by_cases c:i=0;·subst c;simp
 by_cases g:i=1;·subst g;simp
 by_cases b:i=2;·subst b;simp
 by_cases f:i=3;·subst f;simp
 by_cases j:0<=i;·simp only[c,g,b,f,if_false,j,decide_true,cond_true];rw[List.getD_eq_getElem?_getD,List.getElem?_eq_none oG];rfl
 ·simp[c,g,b,f,j]
def DZ(d:SD){m:dN}(g:iI m.k m.bl m.zs.length):(d.stepM m).du=d.du.step m.ms:=by
 unfold SD.stepM SD.step AG.Du.step;show _=if m.k=1 then _ else _;rcases g with a|a|a|⟨a,c⟩|⟨a,c⟩;·rw[if_pos a,if_pos a];rfl
 ·rw[if_neg oG,if_pos a,if_neg oG,if_pos (show m.ms.k=3 from a)];rfl
 ·rw[if_neg oG,if_neg oG,if_pos a,if_neg oG,if_neg (show¬m.ms.k=3 by show¬m.k=3;omega),if_pos (show m.ms.k=6 from a)];unfold SD.learn AG.Du.learn;show(⟨_,_,_,_,_,_⟩:AG.Du)=_;simp only[CU];rfl
 ·rw[if_neg oG,if_neg oG,if_neg oG,if_pos a,if_neg oG,if_neg (show¬m.ms.k=3 by show¬m.k=3;omega),if_neg (show¬m.ms.k=6 by show¬m.k=6;omega),if_pos (show m.ms.k=7 from a)];have b:=SB d m.bl m.v c m.e m.q;unfold SD.du;rw[b];have f:(d.lg m.bl m.v).id=d.id/\(d.lg m.bl m.v).recs=d.recs/\(d.lg m.bl m.v).3=d.3:=by unfold SD.lg;(repeat' split)<;>exact⟨rfl,rfl,rfl⟩
  rw[f.1,f.2.1,f.2.2];rfl
 ·rw[if_neg oG,if_neg oG,if_neg oG,if_neg oG,if_neg oG,if_neg (show¬m.ms.k=3 by show¬m.k=3;omega),if_neg (show¬m.ms.k=6 by show¬m.k=6;omega),if_neg (show¬m.ms.k=7 by show¬m.k=7;omega)];have b:=SC d m.zs c.2 m.e m.q;unfold SD.du;rw[b];rfl
structure Rg(x:NB)(la:List Ky)(rs:List dO)(t:Nat):Prop where
 nn:2<=x.2/\x.2<=5
 id:0<=x.id/\x.id<x.2
 nb:1<=x.nb/\x.nb<=4
 ph:0<=x.ph/\x.ph<=3
 an:1<=x.ph->(0<x.ba∨3<=x.ph)->∃B,x.an=some B
 g:(0<=x.gP/\x.gP<=5)/\(0<=x.gS/\x.gS<=31)
 jo:0<=x.jo/\x.jo<x.2
 ba:0<=x.ba/\x.ba<=1000000000000
 rf:0<=x.rf/\x.rf<=1000000000000
 fo:(0<=x.fo.wa/\x.fo.wa<=1000000000000)/\(0<=x.fo.p/\x.fo.p<=5)/\(0<=x.fo.s/\x.fo.s<=31)
 on:0<x.on->(∃B,x.oa=some B)/\x.ow.k=7/\fP 7 x.id [0,x.ow.e,x.ow.b,x.ow.wa,x.ow.p,x.ow.s,x.ow.q,x.ow.bl,x.ow.v,0]=true
 ops:0<=x.ops/\x.ops<=(t:Int)
 rs:rs.length<=t
 la:la.length<=t+1
def Rg.next{x:NB}{la:List Ky}{rs:List dO}{t:Nat}(h:Rg x la rs t):Rg x la rs (t+1):=⟨h.nn,h.id,h.nb,h.ph,h.an,h.g,h.jo,h.ba,h.rf,h.fo,h.on,by have:=h.ops;omega,by have:=h.rs;omega,by have:=h.la;omega⟩
def Rg.stand{x:NB}{la:List Ky}{rs:List dO}{t:Nat}(h:Rg x la rs t):Rg x.stand [] rs t:=⟨h.nn,h.id,h.nb,by simp[NB.stand],by simp[NB.stand],by simp[NB.stand],by have:=h.nn;simp[NB.stand];omega,by simp[NB.stand],by simp[NB.stand],by simp[NB.stand,iO.nil],by simp[NB.stand],h.ops,h.rs,sG⟩
def Rg.act{x:NB}{la:List Ky}{rs:List dO}{t:Nat}(h:Rg x la rs t)(b c:Bool):Rg {x with act:=b,down:=c} la rs t:=⟨h.nn,h.id,h.nb,h.ph,h.an,h.g,h.jo,h.ba,h.rf,h.fo,h.on,h.ops,h.rs,h.la⟩
def Rg.after{x:NB}{la:List Ky}{rs:List dO}{t:Nat}(h:Rg x la rs t):Rg (x.after false) [] rs t:=h.stand.act false true
structure fV(w:World)(P:Pl)(t:Nat)(C:Nat->Prop)(left:Int)(n:AG.Nd):Prop where
 ex:∃x d fs la lo rs,dP w P x d fs left (eB t) C la lo rs/\BG t d/\fS d x.2/\Rg x la rs t/\d.id=x.id/\n=dK x d.du la lo rs n.tr/\Jr fs d x.2 t x.5 n.tr
def eT(P:Pl)(t:Nat)(C:Nat->Prop)(left:Int)(n:AG.Nd)(ok:Bool)(w w':World):Prop:=∃C' left',fV w' P (t+1) C' left' n/\dR C C' w w'/\(left = -1->ok=true/\left' = -1)
def dP.mono{w:World}{P:Pl}{x:NB}{d:SD}{fs:List FD}{left:Int}{L L':Nat}{C:Nat->Prop}{la lo:List Ky}{rs:List dO}(h:dP w P x d fs left L C la lo rs)(b:L<=L'):dP w P x d fs left L' C la lo rs:=by obtain⟨A,c,a,e⟩:=h.1;exact⟨⟨A,c.mono b,a,e⟩,h.an,h.oa,h.ne,h.row,h.6,h.lt⟩
def xT(t:Nat):eB t<=eB (t+1):=by unfold eB;omega
section
variable {w w':World} {P:Pl} {x x':NB} {d:SD} {fs:List FD} {left:Int} {t:Nat} {C C':Nat->Prop} {la lo la' lo':List Ky} {rs rs':List dO} {tr:AG.Ms} {m:dN}
def eT.keep(a:dP w' P x' d fs left (eB t) C' la' lo' rs')(f:dR C C' w w')(b:BG t d)(g:fS d x'.2)(e:Rg x' la' rs' (t+1))(hi:d.id=x'.id)(c:Jr fs d x'.2 t x'.5 tr):eT P t C left (dK x' d.du la' lo' rs' tr) true w w':=⟨C',left,⟨x',d,fs,la',lo',rs',a.mono (xT t),b.next,g,e,hi,rfl,c.next⟩,f,λh=>⟨rfl,h⟩⟩
def mB.m1{d d':SD}{fs fs':List FD}{left left':Int}{ok:Bool}(h:mB d fs left m ok fs' left' d')(b:left = -1):ok=true/\left' = -1:=by
 subst b;rcases h with⟨_,a,_,c,_⟩|⟨_,_,_,_,a,_⟩;·exact⟨by rw[a];decide,by rw[c];decide⟩
 ·exact PW a
def eT.save(s:eQ P x' d fs left t C la' lo' rs' m true w w')(r:BG t d)(x:t<=20000000)(i:fS d x'.2)(B:Rg x' la' rs' (t+1))(hi:d.id=x'.id)(v:Jr fs d x'.2 t false tr)(l:iT m)(b:iI m.k m.bl m.zs.length)(q:m.k=6->m.e=d.ep/\m.e<1000000000000)(dF:x'.5=false)(o:AG.Ms):eT P t C left (dK x' (d.du.step m.ms) la' lo' rs' o) true w w':=by
 obtain⟨fs',left',d',C',h,u,y⟩:=s;have A:0<=m.e/\m.e<=1000000000000:=by
  obtain⟨_,_,a⟩:=pI l.1;rcases tQ (m:=m) b with g|g|g|g|g<;>rw[g]at a;·exact((nQ _ _ _ _ _ _ _ _ _).1 a).1
  ·exact((nR _ _ _ _ _ _ _ _ _).1 a).1
  ·exact((oD _ _ _ _ _ _ _ _ _).1 a).1
  ·exact((oF _ _ _ _ _ _ _ _ _).1 a).1
  ·exact((oH _ _ _ _ _ _ _ _ _).1 a).1
 have z:=r.step h A;have hs:=h.same;have n:=v.wrote i r x l b q h;have c:d'.du=d.du/\fS d' x'.2/\d'.ep=d.ep:=by
  rcases h with⟨_,_,_,_,rfl⟩|⟨_,_,_,_,_,rfl⟩;·exact⟨rfl,i.lines _ _,rfl⟩
  ·exact⟨rfl,i.lines _ _,rfl⟩
 refine⟨C',left',⟨x',d'.stepM m,fs',la',lo',rs',u,z,c.2.1.step l (tQ (m:=m) b) (by rw[c.2.2];exact q),B,?_,?_,?_⟩,y,h.m1⟩;·exact((qD _ _ _ _ _ _ _ _ _ _).2.2.2.2.1).trans (hs.1.trans hi)
 ·rw[DZ d' b,c.1];rfl
 ·have a:Jr fs' (d'.stepM m) x'.2 (t+1) false m.ms:=n;rw[dF];refine⟨a.sf,.inl ?_⟩;have p:=a.j;simp only[Bool.false_eq_true,false_and,or_false]at p;obtain⟨ms,f,a1,D,E⟩:=p;exact⟨ms,f,a1,D,λ_=>E trivial⟩
def eT.fall(l:eQ P (x.after false) d fs left t C [] [] rs m false w w')(i:BG t d)(p:t<=20000000)(g:fS d x.2)(u:Rg x la rs t)(hi:d.id=x.id)(o:Jr fs d x.2 t false tr)(r:iT m)(j:iI m.k m.bl m.zs.length)(s:m.k=6->m.e=d.ep/\m.e<1000000000000):eT P t C left ((dK x d.du la lo rs tr).fall m.ms) false w w':=by
 obtain⟨fs',left',d',C',c,n,q⟩:=l;have h:=o.wrote g i p r j s c;have b:d'.du=d.du/\fS d' x.2/\BG (t+1) d':=by
  have a:=i.next;have f:=i.wrote c;rcases c with⟨_,_,_,_,rfl⟩|⟨_,_,_,_,_,rfl⟩;·exact⟨rfl,g.lines _ _,⟨a.ne,a.recs,a.3,f.2.2.2.1,by have:=f.2.2.2.2;omega,a.re,a.id⟩⟩
  ·exact⟨rfl,g.lines _ _,⟨a.ne,a.recs,a.3,f.2.2.2.1,by have:=f.2.2.2.2;omega,a.re,a.id⟩⟩
 refine⟨C',left',⟨x.after false,d',fs',[],[],rs,n,b.2.2,b.2.1,u.after.next,c.same.1.trans hi,?_,h⟩,q,c.m1⟩;rw[b.1];rfl
end
def AG.Ms.pk(m:AG.Ms):List UInt8:=gR m.k m.f m.e m.b m.wa m.p m.s m.q m.bl m.v m.zs
def Rl(m:AG.Ms):Prop:=fP m.k m.f [0,m.e,m.b,m.wa,m.p,m.s,m.q,m.bl,m.v,(m.zs.length:Int)]=true/\(∀z∈m.zs,i_ z)/\(m.k=9->1<=m.zs.length)
def fY(l:List (Int×AG.Ms)):List (Int×List UInt8):=l.map (λz=>(z.1,z.2.pk))
def eR(n:Int)(l:List (Int×AG.Ms)):Prop:=∀z∈l,(0<=z.1/\z.1<n)/\Rl z.2
def eR.nil(n:Int):eR n []:=by intro z a;simp at a
def eR.app{n:Int}{a b:List (Int×AG.Ms)}(h:eR n a)(k:eR n b):eR n (a++b):=λz c=>(List.mem_append.1 c).elim (h z) (k z)
def CV(a b:List (Int×AG.Ms)):fY (a++b)=fY a++fY b:=by unfold fY;rw[List.map_append]
def zF(s:Int)(a:List UInt8):∀t:Nat,fZ s a t=(((List.range t).map Int.ofNat).filter (λi=>eU s i.toNat)).map (λi=>(i,a))
 |0=>rfl
 |t+1=>by
  rw[fZ,zF s a t,List.range_succ,List.map_append,List.filter_append,List.map_append];congr 1;simp only[List.map_cons,List.map_nil];cases h:eU s t;·simp[h]
  ·simp[h]
def xF(n:AG.Nd)(m:AG.Ms)(l:List Int):fY (n.tell m l)=l.map (λi=>(i,({m with f:=n.id}:AG.Ms).pk)):=by unfold fY AG.Nd.tell;rw[List.map_map];rfl
def OH:∀n:Fin 6,∀j:Fin 5,j.val<n.val->∀i:Fin 5,i.val<n.val->eU ((2:Int)^n.val - 1 - 2^j.val) i.val=decide (i.val≠j.val):=by decide +kernel
def uA(x:NB)(l:2<=x.2/\x.2<=5)(hi:0<=x.id/\x.id<x.2)(n:AG.Nd)(d:n.id=x.id)(j:n.2=x.2)(m:AG.Ms):fY (n.tell m n.others)=fZ (kH x) ({m with f:=x.id}:AG.Ms).pk x.2.toNat:=by
 rw[xF,zF,d];congr 1;unfold AG.Nd.others;rw[d,j];apply List.filter_congr;intro i e;obtain⟨k,g,rfl⟩:=List.mem_map.1 e;have a:=List.mem_range.1 g;have h:=OH ⟨x.2.toNat,oG⟩ ⟨x.id.toNat,oG⟩ (by dsimp only;omega) ⟨k,oG⟩ a;unfold kH;rw[show(Int.ofNat k).toNat=k from rfl,h];apply decide_eq_decide.2;dsimp only;constructor;·intro b c;apply b;rw[c];show((x.id.toNat:Nat):Int)=x.id;omega
 ·intro b c;apply b;have:((k:Nat):Int)=x.id:=c;omega
def uF(n:AG.Nd)(m:AG.Ms)(h:Rl {m with f:=n.id}):eR n.2 (n.tell m n.others):=by intro z a;unfold AG.Nd.tell at a;obtain⟨i,hi,rfl⟩:=List.mem_map.1 a;unfold AG.Nd.others at hi;obtain⟨k,b,rfl⟩:=List.mem_map.1 (List.mem_filter.1 hi).1;have c:=List.mem_range.1 b;exact⟨⟨Int.natCast_nonneg k,by show(k:Int)<n.2;omega⟩,h⟩
def EW(n:AG.Nd)(m:AG.Ms)(i:Int)(hi:0<=i/\i<n.2)(h:Rl {m with f:=n.id}):eR n.2 (n.tell m [i]):=by intro z a;simp[AG.Nd.tell]at a;subst a;exact⟨hi,h⟩
def D0(x:NB)(b:2<=x.2/\x.2<=5)(n:AG.Nd)(a:n.id=x.id)(m:AG.Ms)(i:Nat)(hi:(i:Int)<x.2):fY (n.tell m [(i:Int)])=fZ (2^i) ({m with f:=x.id}:AG.Ms).pk x.2.toNat:=by rw[xF,a,D3 _ i x.2.toNat oG oG];rfl
def xH(x:NB)(n:AG.Nd)(a:n.id=x.id)(c:n.2=x.2)(S:Int)(b:(n.d.rc n.d.ep).S=S)(m:AG.Ms):fY (n.tell m n.missing)=fZ (gW S x.id n.ow.e n.ow.q n.oa x.2.toNat) ({m with f:=x.id}:AG.Ms).pk x.2.toNat:=by rw[xF,zF,a];unfold AG.Nd.missing;rw[a,c,b]
def xU(n:AG.Nd)(m:AG.Ms)(h:Rl {m with f:=n.id}):eR n.2 (n.tell m n.missing):=by intro z a;unfold AG.Nd.tell at a;obtain⟨i,hi,rfl⟩:=List.mem_map.1 a;unfold AG.Nd.missing at hi;obtain⟨k,b,rfl⟩:=List.mem_map.1 (List.mem_filter.1 hi).1;have c:=List.mem_range.1 b;exact⟨⟨Int.natCast_nonneg k,by show(k:Int)<n.2;omega⟩,h⟩
def gL(P:Pl)(t:Nat)(C:Nat->Prop)(left:Int)(n:Int)(f:AG.Nd×List (Int×AG.Ms))(ok:Bool)(l:Value)(w w':World):Prop:=dZ w' w.1.size l (fY f.2)/\eR n f.2/\eT P t C left f.1 ok w w'
def Q1(e b:Int)(c:0<=e/\e<=1000000000000)(a:0<=b/\b<=1000000000000):iT ⟨1,0,e,b,0,0,0,0,0,0,none,0,[]⟩:=⟨sA 0 e b dG c a,by intro z d;simp at d⟩
def qL{d:SD}{t:Nat}(h:BG t d)(a:t<=20000000):0<=d.ep/\d.ep<=20000001:=by have:=h.ne;have:=h.recs;unfold SD.ep;omega
def pD{d:SD}{n:Int}(h:fS d n)(b:0<d.recs.length):d.ek.E=d.ep/\(0<=d.ek.P/\d.ek.P<=5)/\(0<=d.ek.S/\d.ek.S<=31):=by have a:=h.re (d.recs.length - 1) oG;unfold SD.ek;rw[List.getD_eq_getElem?_getD,List.getElem?_eq_getElem oG,Option.getD_some];refine⟨?_,a.2⟩;rw[a.1];unfold SD.ep;omega
def D1{d:SD}{n:Int}(h:fS d n)(a:0<d.recs.length)(E p s:Int):AG.folB (d.du.rc d.du.ep) E p s=lA d.ek.E d.ek.P d.ek.S E p s:=by have b:=pD h a;unfold AG.folB;rw[oJ a];simp[b.2.2]
def wU{x:NB}{d:SD}{la lo:List Ky}{rs:List dO}{tr:AG.Ms}(m:0<=(dJ d.3 d.ep).pr)(j:0<=x.rf)(hi:0<=x.id)(g:x.5=false)(l:¬1000000000000<x.nb' d)(ok:Bool):(dK x d.du la lo rs tr).fu ok=bif ok then({dK x (d.du.step (fX x d).ms) [(2,d.ep,x.nb' d,x.id)] lo rs tr with ph:=2,ba:=x.nb' d,fo:={(eP d 1 d.ep (x.nb' d)).ms with f:=x.id}},(dK x d.du la lo rs tr).tell {AG.Ms.nil with k:=1,e:=d.ep,b:=x.nb' d} (dK x d.du la lo rs tr).others) else((dK x d.du la lo rs tr).fall (fX x d).ms,[]):=by
 have r:=tI (dJ d.3 d.ep).pr x.rf x.id m j hi;have o:=wM d (x.nb' d) (by unfold NB.nb';omega);have c:=A9 d (x.nb' d) (by unfold NB.nb';omega);unfold jA at c;simp only[Bool.and_eq_true,Bool.not_eq_true',decide_eq_false_iff_not]at c;unfold AG.Nd.fu;dsimp only;have h:(dK x d.du la lo rs tr).fe (dK x d.du la lo rs tr).rf=x.nb' d:=rfl;rw[h,if_neg l];have a:(dK x d.du la lo rs tr).iy {AG.Ms.nil with k:=1,e:=(dK x d.du la lo rs tr).d.ep,b:=x.nb' d} ok=if ok=true then((dK x d.du la lo rs tr).save (fX x d).ms true,(eP d 1 d.ep (x.nb' d)).ms) else((dK x d.du la lo rs tr).fall (fX x d).ms,.nil):=by
  unfold AG.Nd.iy;dsimp only;rw[if_neg (show¬(dK x d.du la lo rs tr).d.ep<(dK x d.du la lo rs tr).d.ep from Int.lt_irrefl _),if_neg (show¬x.nb' d<(dJ (dK x d.du la lo rs tr).d.3 (dK x d.du la lo rs tr).d.ep).pr from c.2.1)];rw[if_neg (show¬(1:Int)=3 by decide),o];have n:¬(((dJ (dK x d.du la lo rs tr).d.3 (dK x d.du la lo rs tr).d.ep).after 1 (x.nb' d) AG.Ms.nil.p AG.Ms.nil.s).nk (dJ (dK x d.du la lo rs tr).d.3 (dK x d.du la lo rs tr).d.ep)=true):=by have:=c.2.2;intro i;have q:(((dJ d.3 d.ep).after 1 (x.nb' d) 0 0).nk (dJ d.3 d.ep))=true:=i;rw[q]at this;exact absurd this sG
  rw[if_neg n];rfl
 cases ok;·rw[if_neg (show¬(false=true) by simp)]at a;rw[a];rw[if_pos (show((dK x d.du la lo rs tr).fall (fX x d).ms).5=true from rfl)];rfl
 ·rw[if_pos rfl]at a;rw[a];rw[if_neg (show¬((dK x d.du la lo rs tr).save (fX x d).ms true).5=true by show¬x.5=true;rw[g];simp)];rfl
end Go.Proofs.YtdcainmlcpafbaaGreatDoor
