import Derived.Test.YtdcainmlcpafbaaGreatDoorJ24
import Derived.Test.YtdcainmlcpafbaaGreatDoorJ21
import Derived.Test.YtdcainmlcpafbaaGreatDoorJ25
set_option linter.all false
set_option maxHeartbeats 4000000
set_option maxRecDepth 20000
namespace Go.Proofs.YtdcainmlcpafbaaGreatDoor
open Go.RowKit
open Value renaming slice->J,pointer->P0
open IntKind renaming i64->T
open Option renaming none->Z,some->Y
open Obj renaming cells->G
open Value (bool)
def tR(f:FD)(fs:List FD)(a b:List UInt8):eO (f::fs) a b=if(f.n==a)=true then⟨f.n,f.d++b,f.s⟩::fs else f::eO fs a b:=by
 unfold eO gU;rw[List.findIdx?_cons];by_cases h:(f.n==a)=true;·simp[h]
 ·simp only[h,if_false,Bool.false_eq_true];cases hq:fs.findIdx? (λf=>f.n==a)<;>simp
def tS(f:FD)(fs:List FD)(a:List UInt8):fM (f::fs) a=if(f.n==a)=true then⟨f.n,f.d,f.d.length⟩::fs else f::fM fs a:=by
 unfold fM gU;rw[List.findIdx?_cons];by_cases h:(f.n==a)=true;·simp[h]
 ·simp only[h,if_false,Bool.false_eq_true];cases hq:fs.findIdx? (λf=>f.n==a)<;>simp
def iM(f:FD)(fs:List FD)(a:List UInt8):dX (f::fs) a=if(f.n==a)=true then some f else dX fs a:=by unfold dX;rw[List.find?_cons];by_cases h:(f.n==a)=true<;>simp[h]
def uO(a b:List UInt8):∀fs:List FD,(fJ (dX (eO fs a b) a)).d=(fJ (dX fs a)).d++b/\(fJ (dX (eO fs a b) a)).s=(fJ (dX fs a)).s
 | []=>by simp[eO,gU,dX,fJ,jG]
 |f::fs=>by
  rw[tR,iM f fs];by_cases h:(f.n==a)=true;·rw[if_pos h,if_pos h,iM,if_pos h];exact⟨rfl,rfl⟩
  ·rw[if_neg h,if_neg h,iM,if_neg h];exact uO a b fs
def xR(a:List UInt8):∀fs:List FD,(fJ (dX (fM fs a) a)).d=(fJ (dX fs a)).d/\(fJ (dX (fM fs a) a)).s=(fJ (dX fs a)).d.length
 | []=>by simp[fM,gU,dX,fJ,jG]
 |f::fs=>by
  rw[tS,iM f fs];by_cases h:(f.n==a)=true;·rw[if_pos h,if_pos h,iM,if_pos h];exact⟨rfl,rfl⟩
  ·rw[if_neg h,if_neg h,iM,if_neg h];exact xR a fs
def D1{b a:List UInt8}(c:b≠a)(e:List UInt8):∀fs:List FD,dX (eO fs b e) a=dX fs a
 | []=>by simp[eO,gU,dX,c]
 |f::fs=>by
  rw[tR,iM f fs];by_cases h:(f.n==b)=true
  ·have d:¬(f.n==a)=true:=by intro g;exact c ((beq_iff_eq.1 h).symm.trans (beq_iff_eq.1 g))
   rw[if_pos h,if_neg d,iM,if_neg d]
  ·rw[if_neg h,iM,D1 c e fs]
def D2{b a:List UInt8}(d:b≠a):∀fs:List FD,dX (fM fs b) a=dX fs a
 | []=>by simp[fM,gU,dX]
 |f::fs=>by
  rw[tS,iM f fs];by_cases h:(f.n==b)=true
  ·have c:¬(f.n==a)=true:=by intro e;exact d ((beq_iff_eq.1 h).symm.trans (beq_iff_eq.1 e))
   rw[if_pos h,if_neg c,iM,if_neg c]
  ·rw[if_neg h,iM,D2 d fs]
def BS(f:FD)(fs:List FD)(a:List UInt8):eB (f::fs) a=if(f.n==a)=true then eB fs a else f::eB fs a:=by
 unfold eB;rw[List.filter_cons];by_cases h:(f.n==a)=true;·simp[h,bne]
 ·simp only[Bool.not_eq_true]at h;simp[h,bne]
def xS{b a:List UInt8}(c:b≠a):∀fs:List FD,dX (eB fs b) a=dX fs a
 | []=>rfl
 |f::fs=>by
  rw[BS,iM f fs];by_cases h:(f.n==b)=true
  ·have e:¬(f.n==a)=true:=by intro d;exact c ((beq_iff_eq.1 h).symm.trans (beq_iff_eq.1 d))
   rw[if_pos h,if_neg e,xS c fs]
  ·rw[if_neg h,iM,xS c fs]
def uP(a:List UInt8):∀fs:List FD,dX (eB fs a) a=none
 | []=>rfl
 |f::fs=>by
  rw[BS];by_cases h:(f.n==a)=true;·rw[if_pos h];exact uP a fs
  ·rw[if_neg h,iM,if_neg h];exact uP a fs
def wV(a:List UInt8):∀(fs:List FD),(∀i,gU fs a=some i->dX fs a=some (fs.getD i jG))/\(gU fs a=none->dX fs a=none)
 | []=>by simp[gU,dX]
 |f::fs=>by
  obtain⟨b,c⟩:=wV a fs;unfold gU at b c⊢;rw[List.findIdx?_cons,iM];by_cases h:(f.n==a)=true;·simp[h]
  ·rw[if_neg h];simp only[h,if_false,Bool.false_eq_true];cases hq:fs.findIdx? (λf=>f.n==a) with
   |none=>simpa using c hq
   |some j=>simpa using b j hq
def BT{a:List UInt8}:∀{fs:List FD},dX fs a=none->∀f:FD,(f.n==a)=true->dX (fs++[f]) a=some f
 | [],_,f,hf=>by rw[List.nil_append,iM,if_pos hf]
 |g::fs,h,f,hf=>by
  rw[iM]at h;rw[List.cons_append,iM];by_cases b:(g.n==a)=true;·rw[if_pos b]at h;exact absurd h sG
  ·rw[if_neg b]at h⊢;exact BT h f hf
def NU{a b:List UInt8}(f:a≠b)(fs:List FD)(h:(dX fs a).isSome=true):(fJ (dX (iU fs a b) b)).d=(fJ (dX fs a)).d/\(fJ (dX (iU fs a b) b)).s=(fJ (dX fs a)).s:=by
 obtain⟨c,e⟩:=wV a fs;unfold iU;cases hq:gU fs a with
 |none=>rw[e hq]at h;exact absurd h sG
 |some i=>simp only[if_neg f];rw[BT (uP b _) _ sG,c i hq];exact⟨rfl,rfl⟩
def Sf(fs:List FD):Prop:=∀f∈fs,f.s<=f.d.length
def Sf.app(b e:List UInt8):∀{fs:List FD},Sf fs->Sf (eO fs b e)
 | [],_=>by intro f a;simp[eO,gU]at a;subst a;simp
 |g::fs,h=>by
  rw[tR];have i:=h g sG;have d:Sf fs:=λf a=>h f (by simp[a]);by_cases c:(g.n==b)=true
  ·rw[if_pos c];intro f a;rcases List.mem_cons.1 a with rfl|a;·simp;omega
   ·exact d f a
  ·rw[if_neg c];intro f a;rcases List.mem_cons.1 a with rfl|a;·exact i
   ·exact Sf.app b e d f a
def Sf.syn(b:List UInt8):∀{fs:List FD},Sf fs->Sf (fM fs b)
 | [],_=>by intro f a;simp[fM,gU]at a
 |g::fs,h=>by
  rw[tS];have e:=h g sG;have d:Sf fs:=λf a=>h f (by simp[a]);by_cases c:(g.n==b)=true
  ·rw[if_pos c];intro f a;rcases List.mem_cons.1 a with rfl|a;·exact Nat.le_refl _
   ·exact d f a
  ·rw[if_neg c];intro f a;rcases List.mem_cons.1 a with rfl|a;·exact e
   ·exact Sf.syn b d f a
def Sf.out(b:List UInt8){fs:List FD}(h:Sf fs):Sf (eB fs b):=λf a=>h f (List.mem_filter.1 a).1
def Sf.ren(a b:List UInt8){fs:List FD}(h:Sf fs):Sf (iU fs a b):=by
 obtain⟨g,j⟩:=wV a fs;unfold iU;cases hq:gU fs a with
 |none=>exact h
 |some i=>
  dsimp only;split;·exact h
  ·intro f c;rcases List.mem_append.1 c with c|c;·exact(h.out a).out b f c
   ·simp only[List.mem_singleton]at c;subst c;have d:=g i hq;have e:=h _ (List.mem_of_find?_eq_some d);exact e
def uA{K:List FD->Prop}{f:List FD->List FD}(b:∀z,K z->K (f z)){a:Bool×List FD×Int}(h:K a.2.1):K (fY f a).2.1:=by
 unfold fY;split
 ·dsimp only;split;·exact h
  ·exact b _ h
 ·exact h
def JL{f:List FD->List FD}{a:Bool×List FD×Int}(h:(fY f a).1=false):(fY f a).2.1=a.2.1:=by
 unfold fY at h⊢;split at h;·next h1=>rw[if_pos h1];dsimp only at h⊢;rw[decide_eq_false_iff_not,Classical.not_not]at h;rw[if_pos h]
 ·next h1=>rw[if_neg h1]
def uB{f:List FD->List FD}{a:Bool×List FD×Int}(h:(fY f a).1=true):a.1=true/\a.2.2≠0/\(fY f a).2.1=f a.2.1:=by
 unfold fY at h⊢;split at h;·next h1=>rw[if_pos h1];dsimp only at h⊢;rw[decide_eq_true_eq]at h;rw[if_neg h];exact⟨h1,h,rfl⟩
 ·next h1=>exact absurd h h1
def dj:dT≠eS:=dG
def BU{K:List FD->Prop}(b:∀z,K z->K (eB z dT))(a:∀z l,K z->K (eO z dT l))(c:∀z,K z->K (fM z dT)){fs:List FD}(h:K fs)(left:Int)(l:List UInt8):K (fY (λz=>fM z dT) (fY (λz=>eO z dT l) (iS fs left))).2.1:=by
 refine uA c (uA (λz=>a z l) ?_);unfold iS;split;·exact uA b h
 ·exact h
def NV{fs fs':List FD}{left left':Int}{l:List UInt8}(h:(false,fs',left')=gD fs left l):dX fs' eS=dX fs eS:=by unfold gD at h;have c:=JL (congrArg Prod.fst h).symm;have b:fs'=_:=(congrArg (λz=>z.2.1) h).trans c;rw[b];exact BU (K:=λz=>dX z eS=dX fs eS) (λz a=>(xS dj z).trans a) (λz l a=>(D1 dj l z).trans a) (λz a=>(D2 dj z).trans a) rfl left l
def NW{fs fs':List FD}{left left':Int}{l:List UInt8}(h:(true,fs',left')=gD fs left l):(fJ (dX fs' eS)).d=l/\(fJ (dX fs' eS)).s=l.length:=by
 unfold gD at h;obtain⟨a1,x,u⟩:=uB (congrArg Prod.fst h).symm;obtain⟨m,w,q⟩:=uB a1;obtain⟨g,v,c3⟩:=uB m;have o:fs'=_:=(congrArg (λz=>z.2.1) h).trans u;have p:dX (iS fs left).2.1 dT=none:=by
  unfold iS at g⊢;split at g;·next hh=>rw[if_pos hh,(uB g).2.2];exact uP _ _
  ·next hh=>
   rw[if_neg hh];dsimp only;cases hq:dX fs dT;·rfl
   ·rw[hq]at hh;exact absurd rfl hh
 rw[o,q,c3];have e:=uO dT l (iS fs left).2.1;have k:=xR dT (eO (iS fs left).2.1 dT l);rw[p]at e;have t:(fJ (dX (fM (eO (iS fs left).2.1 dT l) dT) dT)).d=l:=by rw[k.1,e.1];rfl
 by_cases i:(dX (fM (eO (iS fs left).2.1 dT l) dT) dT).isSome=true;·have j:=NU dj _ i;rw[j.1,j.2,t,k.2,e.1];exact⟨rfl,rfl⟩
 ·exfalso;have c:∀z:List FD,(dX z dT).isSome=true->(dX (fM z dT) dT).isSome=true:=by
   intro z;induction z with
   |nil=>intro r;simp[dX]at r
   |cons f z ih=>
    rw[tS,iM];by_cases a:(f.n==dT)=true;·rw[if_pos a,if_pos a,iM,if_pos a];intro _;rfl
    ·rw[if_neg a,if_neg a,iM,if_neg a];exact ih
  have b:∀z:List FD,(dX (eO z dT l) dT).isSome=true:=by
   intro z;induction z with
   |nil=>simp[eO,gU,dX]
   |cons f z ih=>
    rw[tR];by_cases a:(f.n==dT)=true;·rw[if_pos a,iM,if_pos a];rfl
    ·rw[if_neg a,iM,if_neg a];exact ih
  exact i (c _ (b _))
def D3{fs fs':List FD}{left left':Int}{l:List UInt8}{ok:Bool}(hs:Sf fs)(h:(ok,fs',left')=gD fs left l):Sf fs':=by have b:fs'=_:=congrArg (λz=>z.2.1) h;rw[b];unfold gD;exact uA (K:=Sf) (λz a=>a.ren _ _) (BU (λz a=>a.out _) (λz l a=>a.app _ _) (λz a=>a.syn _) hs left l)
def NX{fs fs':List FD}{left':Int}{l:List UInt8}{ok:Bool}(h:(ok,fs',left')=gD fs (-1) l):ok=true/\left' = -1:=by
 have a:∀(f:List FD->List FD) (b:Bool×List FD×Int),b.1=true/\b.2.2 = -1->(fY f b).1=true/\(fY f b).2.2 = -1:=by rintro f b ⟨e,d⟩;unfold fY;rw[if_pos e,d];exact⟨rfl,rfl⟩
 have g:(iS fs (-1)).1=true/\(iS fs (-1)).2.2 = -1:=by
  unfold iS;split;·exact a _ _ ⟨rfl,rfl⟩
  ·exact⟨rfl,rfl⟩
 have c:=a (λz=>iU z dT eS) _ (a (λz=>fM z dT) _ (a (λz=>eO z dT l) _ g));unfold gD at h;rw[←h]at c;exact c
def Kq(l:List (Int×PV)):Prop:=(l.map (·.1)).Nodup
def sB(e:Int)(x:PV):∀l:List (Int×PV),∀k,k∈(gA l e x).map (·.1)↔k∈l.map (·.1)∨k=e
 | [],k=>by simp[gA]
 |y::l,k=>by
  unfold gA;by_cases h:e=y.1
  ·rw[if_pos h];simp only[List.map_cons,List.mem_cons];constructor
   ·rintro(a|a);·exact .inr a
    ·exact .inl (.inr a)
   ·rintro((a|a)|a);·exact .inl (a.trans h.symm)
    ·exact .inr a
    ·exact .inl a
  ·rw[if_neg h];simp only[List.map_cons,List.mem_cons,sB e x l k];constructor
   ·rintro(a|a|a);·exact .inl (.inl a)
    ·exact .inl (.inr a)
    ·exact .inr a
   ·rintro((a|a)|a);·exact .inl a
    ·exact .inr (.inl a)
    ·exact .inr (.inr a)
def Kq.put{l:List (Int×PV)}(h:Kq l)(e:Int)(x:PV):Kq (gA l e x):=by
 unfold Kq at*;induction l with
 |nil=>simp[gA]
 |cons y l ih=>
  simp only[List.map_cons,List.nodup_cons]at h;unfold gA;by_cases a:e=y.1;·rw[if_pos a];simp only[List.map_cons,List.nodup_cons];rw[a];exact h
  ·rw[if_neg a];simp only[List.map_cons,List.nodup_cons];refine⟨λc=>?_,ih h.2⟩;rcases(sB e x l y.1).1 c with b|b;·exact h.1 b
   ·exact a b.symm
def BV(e:Int):∀l:List (Int×PV),∀k,k∈(gM l e).map (·.1)->k∈l.map (·.1)
 | [],k=>by simp[gM]
 |y::l,k=>by
  unfold gM;split;·intro h;simp only[List.map_cons,List.mem_cons];exact .inr h
  ·intro h;simp only[List.map_cons,List.mem_cons]at h⊢;exact h.imp id (BV e l k)
def Kq.del{l:List (Int×PV)}(h:Kq l)(e:Int):Kq (gM l e):=by
 unfold Kq at*;induction l with
 |nil=>simp[gM]
 |cons y l ih=>
  simp only[List.map_cons,List.nodup_cons]at h;unfold gM;split;·exact h.2
  ·simp only[List.map_cons,List.nodup_cons];exact⟨λa=>h.1 (BV e l _ a),ih h.2⟩
def CX{l:List (Int×PV)}{e:Int}(h:e∉l.map (·.1)):dH l e=⟨0,0,0,0⟩:=by
 unfold dH;rw[List.find?_eq_none.2];·rfl
 ·intro y hy a;exact h (by rw[beq_iff_eq.1 a];exact List.mem_map_of_mem hy)
def BW{l:List (Int×PV)}(h:Kq l)(e:Int):dH (gM l e) e=⟨0,0,0,0⟩:=by
 unfold Kq at h;induction l with
 |nil=>rfl
 |cons y l ih=>
  simp only[List.map_cons,List.nodup_cons]at h;unfold gM;by_cases a:e=y.1;·rw[if_pos a];exact CX (by rw[a];exact h.1)
  ·rw[if_neg a];have b:(e==y.1)=false:=by simpa using a
   have:=ih h.2;unfold dH at this⊢;simp only[List.find?_cons,b];exact this
def MR{l:List (Int×PV)}{e:Int}:dH l e=⟨0,0,0,0⟩∨(e,dH l e)∈l:=by
 unfold dH;cases hq:l.find? (λx=>e==x.1) with
 |none=>exact .inl rfl
 |some y=>right;have a:=List.mem_of_find?_eq_some hq;have c:=List.find?_some hq;have b:=beq_iff_eq.1 c;show(e,y.2)∈l;rw[b];exact a
structure iH(a b:SD):Prop where
 id:a.id=b.id
 recs:a.recs=b.recs
 vt:∀e,dH a.dw e=dH b.dw e
 b0:a.b0=b.b0
 b1:a.b1=b.b1
 b2:a.b2=b.b2
 b3:a.b3=b.b3
 seen:a.seen=b.seen
 last:a.last=b.last
 ky:∀e,e∈a.dw.map (·.1)↔e∈b.dw.map (·.1)
def iH.refl(a:SD):iH a a:=⟨rfl,rfl,λ_=>rfl,rfl,rfl,rfl,rfl,rfl,rfl,λ_=>Iff.rfl⟩
def iH.trans{a b c:SD}(h:iH a b)(k:iH b c):iH a c:=⟨h.id.trans k.id,h.recs.trans k.recs,λe=>(h.vt e).trans (k.vt e),h.b0.trans k.b0,h.b1.trans k.b1,h.b2.trans k.b2,h.b3.trans k.b3,h.seen.trans k.seen,h.last.trans k.last,λe=>(h.ky e).trans (k.ky e)⟩
def iH.len{a b:SD}(h:iH a b)(d:Kq a.dw)(e:Kq b.dw):a.dw.length=b.dw.length:=by have c:=((List.perm_ext_iff_of_nodup d e).2 h.ky).length_eq;simpa using c
def CY{l:List (Int×PV)}(h:Kq l)(e k:Int):k∈(gM l e).map (·.1)↔k∈l.map (·.1)/\k≠e:=by
 unfold Kq at h;induction l with
 |nil=>simp[gM]
 |cons y l ih=>
  simp only[List.map_cons,List.nodup_cons]at h;unfold gM;by_cases c:e=y.1
  ·rw[if_pos c];simp only[List.map_cons,List.mem_cons];subst c;constructor;·intro a;exact⟨.inr a,λb=>h.1 (b ▸ a)⟩
   ·rintro⟨a|a,b⟩;·exact absurd a b
    ·exact a
  ·rw[if_neg c];simp only[List.map_cons,List.mem_cons,ih h.2];constructor
   ·rintro(a|⟨a,b⟩);·exact⟨.inl a,λd=>c (d.symm.trans a)⟩
    ·exact⟨.inr a,b⟩
   ·rintro⟨a|a,b⟩;·exact .inl a
    ·exact .inr ⟨a,b⟩
def Kq.step{d:SD}(h:Kq d.dw)(m:dK):Kq (d.stepM m).dw:=by
 unfold SD.stepM SD.step;split;·exact h.put _ _
 split;·exact h.put _ _
 split;·exact h.del _
 split;·unfold SD.jy;(repeat' split)<;>exact h
 ·exact h
def Kq.play:∀(ms:List dK) {d:SD},Kq d.dw->Kq (d.play ms).dw
 | [],d,h=>h
 |m::ms,d,h=>by unfold SD.play;rw[List.foldl_cons];exact Kq.play ms (h.step m)
def iH.step{a b:SD}(h:iH a b)(d:Kq a.dw)(g:Kq b.dw)(m:dK):iH (a.stepM m) (b.stepM m):=by
 have f:∀E P,a.takes E P=b.takes E P:=λE P=>by unfold SD.takes;rw[h.id,h.seen]
 unfold SD.stepM SD.step;split
 ·refine⟨h.id,h.recs,λe=>?_,h.b0,h.b1,h.b2,h.b3,h.seen,h.last,λe=>?_⟩;·simp only[AG.vmGet_put,h.vt]
  ·simp only[sB,h.ky]
 split
 ·refine⟨h.id,h.recs,λe=>?_,h.b0,h.b1,h.b2,h.b3,h.seen,h.last,λe=>?_⟩;·simp only[AG.vmGet_put,h.vt]
  ·simp only[sB,h.ky]
 split
 ·unfold SD.learn;refine⟨h.id,by simp only[h.recs],λe=>?_,h.b0,h.b1,h.b2,h.b3,by simp only[f,h.seen],by simp only[f,h.last],λe=>?_⟩
  ·dsimp only;by_cases c:e=m.e+1 - 1;·rw[c,BW d,BW g]
   ·rw[AG.vmGet_del _ _ _ c,AG.vmGet_del _ _ _ c];exact h.vt e
  ·dsimp only;rw[CY d,CY g,h.ky]
 split;·unfold SD.jy;(repeat' split)<;>exact⟨h.id,h.recs,h.vt,by first|rfl|exact h.b0,by first|rfl|exact h.b1,by first|rfl|exact h.b2,by first|rfl|exact h.b3,rfl,rfl,h.ky⟩
 ·exact⟨h.id,h.recs,h.vt,by simp only[h.b0],by simp only[h.b1],by simp only[h.b2],by simp only[h.b3],rfl,rfl,h.ky⟩
def fE(id n:Int)(li:Int)(wh:Bool):SD:=⟨id,[⟨0,0,2^n.toNat - 1⟩],[],0,0,0,0,0,0,li,wh⟩
def iH.play{a b:SD}(h:iH a b)(c:Kq a.dw)(d:Kq b.dw):∀ms:List dK,iH (a.play ms) (b.play ms):=by
 intro ms;induction ms generalizing a b with
 |nil=>exact h
 |cons m ms ih=>unfold SD.play;rw[List.foldl_cons,List.foldl_cons];exact ih (h.step c d m) (c.step m) (d.step m)
def AV(id n:Int)(c b:Int)(d a:Bool):iH (fE id n c d) (fE id n b a):=⟨rfl,rfl,λ_=>rfl,rfl,rfl,rfl,rfl,rfl,rfl,λ_=>Iff.rfl⟩
def oW(id n:Int)(a:Int)(b:Bool):Kq (fE id n a b).dw:=by simp[Kq,fE]
structure fN(d:SD)(n:Int):Prop where
 kn:Kq d.dw
 vt:∀y∈d.dw,(0<=y.1/\y.1<=1000000000000)/\(0<=y.2.pr/\y.2.pr<=1000000000000)/\(0<=y.2.ac/\y.2.ac<=1000000000000)/\(0<=y.2.pm/\y.2.pm<=5)/\(0<=y.2.st/\y.2.st<=31)
 hd:∃tl,d.recs=⟨0,0,2^n.toNat - 1⟩::tl
 re:∀i (h:i<d.recs.length),d.recs[i].E=(i:Int)/\(0<=d.recs[i].P/\d.recs[i].P<=5)/\(0<=d.recs[i].S/\d.recs[i].S<=31)
 se:0<=d.seen/\d.seen<=1000000000000
 la:0<=d.last/\d.last<=1000000000000
 b0:i_ d.b0
 b1:i_ d.b1
 b2:i_ d.b2
 b3:i_ d.b3
def BX(id n a:Int)(b:Bool):∀(rs:List eH) (d:SD),d.dw=[]->d.b0=0->d.b1=0->d.b2=0->d.b3=0->d.id=id->(d.play (rs.map kH)).recs=d.recs++rs/\(d.play (rs.map kH)).dw=[]/\(d.play (rs.map kH)).id=id
 | [],d,h1,_,_,_,_,h2=>⟨by simp[SD.play],h1,h2⟩
 |r::rs,d,h1,h3,h4,h5,h6,h2=>by
  have hs:d.stepM (kH r)=d.learn r.E r.P r.S:=by unfold SD.stepM SD.step kH;simp
  unfold SD.play;rw[List.map_cons,List.foldl_cons,hs];have ih:=BX id n a b rs (d.learn r.E r.P r.S) (by simp[SD.learn,h1,gM]) h3 h4 h5 h6 h2;refine⟨ih.1.trans ?_,ih.2.1,ih.2.2⟩;simp[SD.learn]
def BY(V:Int->PV):∀(b:List Int) (d:SD),(d.play (b.flatMap (λe=>[kW e (V e),kX e (V e)]))).recs=d.recs/\(d.play (b.flatMap (λe=>[kW e (V e),kX e (V e)]))).id=d.id/\∀e,(dH (d.play (b.flatMap (λe=>[kW e (V e),kX e (V e)]))).dw e=if e∈b then V e else dH d.dw e)/\(e∈(d.play (b.flatMap (λe=>[kW e (V e),kX e (V e)]))).dw.map (·.1)↔e∈b∨e∈d.dw.map (·.1))
 | [],d=>⟨rfl,rfl,λe=>by simp[SD.play]⟩
 |k::b,d=>by
  rw[List.flatMap_cons];unfold SD.play;rw[List.foldl_append];have hs:List.foldl SD.stepM d [kW k (V k),kX k (V k)]={d with dw:=gA (gA d.dw k ⟨(V k).ac,(V k).ac,(V k).pm,(V k).st⟩) k (V k)}:=by simp only[List.foldl_cons,List.foldl_nil];unfold kW kX SD.stepM SD.step;simp[PV.after,AG.vmGet_put]
  rw[hs];have ih:=BY V b {d with dw:=gA (gA d.dw k ⟨(V k).ac,(V k).ac,(V k).pm,(V k).st⟩) k (V k)};refine⟨ih.1,ih.2.1,λe=>⟨(ih.2.2 e).1.trans ?_,(ih.2.2 e).2.trans ?_⟩⟩
  ·dsimp only;simp only[AG.vmGet_put,List.mem_cons];by_cases a:e∈b;·simp[a]
   ·by_cases c:e=k;·subst c;simp[a]
    ·simp[a,c]
  ·dsimp only;simp only[sB,List.mem_cons];constructor
   ·rintro(a|(a|a)|a);·exact .inl (.inr a)
    ·exact .inr a
    ·exact .inl (.inl a)
    ·exact .inl (.inl a)
   ·rintro((a|a)|a);·exact .inr (.inr a)
    ·exact .inl a
    ·exact .inr (.inl (.inl a))
def BZ(d:SD)(a b:List dK):d.play (a++b)=(d.play a).play b:=by unfold SD.play;rw[List.foldl_append]
def NY{d:SD}{n:Int}(h:fN d n){c:List Int}(k:c.Perm (d.dw.map (·.1)))(m:Option Addr)(o:Nat)(g:Int)(b:Bool):iH ((fE d.id n g b).play (d.msgs c m o)) d:=by
 obtain⟨r,i⟩:=h.hd;unfold SD.msgs;rw[BZ,BZ];have f:=BX d.id n g b d.recs.tail (fE d.id n g b) rfl rfl rfl rfl rfl rfl;have a:=BY (dH d.dw) c ((fE d.id n g b).play (d.recs.tail.map kH));generalize s:((fE d.id n g b).play (d.recs.tail.map kH))=A at f a⊢;generalize t:A.play (c.flatMap (λe=>[kW e (dH d.dw e),kX e (dH d.dw e)]))=B at a⊢;have p:B.play [⟨9,0,d.seen,0,0,0,0,d.last,0,0,m,o,[d.b0,d.b1,d.b2,d.b3]⟩]={B with seen:=d.seen,last:=d.last,b0:=d.b0,b1:=d.b1,b2:=d.b2,b3:=d.b3}:=by simp[SD.play,SD.stepM,SD.step]
 rw[p];refine⟨a.2.1.trans f.2.2,?_,λe=>?_,rfl,rfl,rfl,rfl,rfl,rfl,λe=>?_⟩;·show B.recs=d.recs;rw[a.1,f.1,i];rfl
 ·show dH B.dw e=_;rw[(a.2.2 e).1];by_cases j:e∈c;·rw[if_pos j]
  ·rw[if_neg j,f.2.1,CX (l:=d.dw) (λq=>j (k.mem_iff.2 q))];rfl
 ·show e∈B.dw.map (·.1)↔_;rw[(a.2.2 e).2,f.2.1,k.mem_iff];simp
def oZ{k f:Int}{a:List Int}(h:fH k f a=true):(1<=k/\k<=10)/\(0<=f/\f<5)/\iO k.toNat a=true:=by unfold fH oF at h;simp only[Bool.and_eq_true,Bool.not_eq_true',decide_eq_false_iff_not]at h;exact⟨oG,oG,h.2⟩
def jK(k:Int):Prop:=k=1∨k=3∨k=6∨k=7∨k=9
def wW(e:Int)(x:PV):∀(l:List (Int×PV)),∀y∈gA l e x,y∈l∨y=(e,x)
 | [],y,h=>by simp[gA]at h;exact .inr h
 |z::l,y,h=>by
  unfold gA at h;split at h
  ·rcases List.mem_cons.1 h with h|h;·exact .inr h
   ·exact .inl (by simp[h])
  ·rcases List.mem_cons.1 h with h|h;·exact .inl (by simp[h])
   ·rcases wW e x l y h with h|h;·exact .inl (by simp[h])
    ·exact .inr h
def CZ(e:Int):∀(l:List (Int×PV)),∀y∈gM l e,y∈l
 | [],y,h=>by simp[gM]at h
 |z::l,y,h=>by
  unfold gM at h;split at h;·simp[h]
  ·rcases List.mem_cons.1 h with h|h;·simp[h]
   ·simp[CZ e l y h]
def fN.at{d:SD}{n:Int}(h:fN d n)(e:Int):(0<=(dH d.dw e).pr/\(dH d.dw e).pr<=1000000000000)/\(0<=(dH d.dw e).ac/\(dH d.dw e).ac<=1000000000000)/\(0<=(dH d.dw e).pm/\(dH d.dw e).pm<=5)/\(0<=(dH d.dw e).st/\(dH d.dw e).st<=31):=by
 rcases MR (l:=d.dw) (e:=e) with a|a;·rw[a];simp
 ·exact(h.vt _ a).2
def fN.step{d:SD}{n:Int}(h:fN d n){m:dK}(w:iP m)(c:jK m.k)(D:m.k=6->m.e=d.ep/\m.e<1000000000000):fN (d.stepM m) n:=by
 obtain⟨_,_,f⟩:=oZ w.1;have o:=h.at m.e;unfold SD.stepM SD.step;rcases c with c|c|c|c|c
 ·rw[if_pos c];rw[c]at f;have a:=(nA _ _ _ _ _ _ _ _ _).1 f;refine⟨h.kn.put _ _,λy hy=>?_,h.hd,h.re,h.se,h.la,h.b0,h.b1,h.b2,h.b3⟩;rcases wW _ _ _ y hy with hy|rfl;·exact h.vt y hy
  ·simp only[PV.after,show¬((1:Int)=3) by decide,if_false];exact⟨a.1,a.2.1,o.2.1,o.2.2.1,o.2.2.2⟩
 ·rw[if_neg oG,if_pos c];rw[c]at f;have a:=(nB _ _ _ _ _ _ _ _ _).1 f;refine⟨h.kn.put _ _,λy hy=>?_,h.hd,h.re,h.se,h.la,h.b0,h.b1,h.b2,h.b3⟩;rcases wW _ _ _ y hy with hy|rfl;·exact h.vt y hy
  ·simp only[PV.after,if_true];exact⟨a.1,a.2.1,a.2.1,a.2.2.1,a.2.2.2.1⟩
 ·rw[if_neg oG,if_neg oG,if_pos c];obtain⟨E,F⟩:=D c;rw[c]at f;have a:=(nT _ _ _ _ _ _ _ _ _).1 f;obtain⟨x,q⟩:=h.hd;have C:=h.se;have A:=h.la;refine⟨h.kn.del _,λy hy=>h.vt y (CZ _ _ y hy),⟨x++[⟨m.e+1,m.p,m.s⟩],by simp[SD.learn,q]⟩,λi hi=>?_,?_,?_,h.b0,h.b1,h.b2,h.b3⟩
  ·simp only[SD.learn]at hi⊢;by_cases v:i<d.recs.length;·rw[List.getElem_append_left v];exact h.re i v
   ·have r:i=d.recs.length:=by simp at hi;omega
    subst r;simp only[List.getElem_append_right r_,Nat.sub_self,List.getElem_cons_zero];refine⟨?_,a.2.1,a.2.2.1⟩;rw[E];unfold SD.ep;omega
  ·simp only[SD.learn];split<;>omega
  ·simp only[SD.learn];split<;>omega
 ·rw[if_neg oG,if_neg oG,if_neg oG,if_pos c];rw[c]at f;have a:=(nU _ _ _ _ _ _ _ _ _).1 f;have j:=h.b0;have t:=h.b1;have l:=h.b2;have u:=h.b3;unfold SD.jy;(repeat' split)<;>exact⟨h.kn,h.vt,h.hd,h.re,a.1,a.2.1,by first|exact j|exact a.2.2.2.1,by first|exact t|exact a.2.2.2.1,by first|exact l|exact a.2.2.2.1,by first|exact u|exact a.2.2.2.1⟩
 ·rw[if_neg oG,if_neg oG,if_neg oG,if_neg oG];rw[c]at f;have a:=(nV _ _ _ _ _ _ _ _ _).1 f;have g:∀(i:Nat) (b:Int),(i_ b)-> -9223372036854775808<=m.zs.getD i b/\m.zs.getD i b<=9223372036854775807:=by
   intro i b B;rw[List.getD_eq_getElem?_getD];cases hq:m.zs[i]? with
   |none=>exact B
   |some z=>exact w.2 z (List.mem_of_getElem? hq)
  exact⟨h.kn,h.vt,h.hd,h.re,a.1,a.2.1,g 0 _ h.b0,g 1 _ h.b1,g 2 _ h.b2,g 3 _ h.b3⟩
def fN.lines{d:SD}{n:Int}(h:fN d n)(a:Int)(wh:Bool):fN {d with lines:=a,wh:=wh} n:=⟨h.kn,h.vt,h.hd,h.re,h.se,h.la,h.b0,h.b1,h.b2,h.b3⟩
def fN.alk{a d:SD}{n:Int}(h:fN d n)(k:iH a d)(e:Kq a.dw)(g:∀y∈a.dw,dH a.dw y.1=y.2):fN a n:=by
 refine⟨e,λy hy=>?_,by rw[k.recs];exact h.hd,?_,by rw[k.seen];exact h.se,by rw[k.last];exact h.la,by rw[k.b0];exact h.b0,by rw[k.b1];exact h.b1,by rw[k.b2];exact h.b2,by rw[k.b3];exact h.b3⟩;·have l:y.1∈d.dw.map (·.1):=(k.ky _).1 (List.mem_map_of_mem hy);obtain⟨z,m,b⟩:=List.mem_map.1 l;have j:=h.vt z m;have c:=h.at y.1;rw[←k.vt,g y hy]at c;exact⟨by rw[←b];exact j.1,c⟩
 ·intro i hi;have f:=h.re i (by rw[←k.recs];exact hi);simp only[k.recs];exact f
def NZ{l:List (Int×PV)}(h:Kq l):∀y∈l,dH l y.1=y.2:=by
 unfold Kq at h;induction l with
 |nil=>intro y hy;simp at hy
 |cons z l ih=>
  simp only[List.map_cons,List.nodup_cons]at h;intro y hy;rcases List.mem_cons.1 hy with rfl|hy;·simp[dH]
  ·have a:y.1≠z.1:=λc=>h.1 (by rw[←c];exact List.mem_map_of_mem hy);have b:(y.1==z.1)=false:=by simpa using a
   have:=ih h.2 y hy;unfold dH at this⊢;simp only[List.find?_cons,b];exact this
structure JD(dt:List UInt8)(ms:List dK)(junk:List UInt8)(d:SD)(n:Int)(t:Nat):Prop where
 dt:dt=ms.flatMap eT++junk
 re:∀m∈ms,iP m/\iE m.k m.bl m.zs.length
 tn:pI junk
 ln:ms.length<=3*t+2
 pl:iH ((fE d.id n 0 true).play ms) d
def dK.ms(m:dK):AG.Ms:=⟨m.k,m.f,m.e,m.b,m.wa,m.p,m.s,m.q,m.bl,m.v,m.zs⟩
structure Jr(fs:List FD)(d:SD)(n:Int)(t:Nat)(dn:Bool)(tr:AG.Ms):Prop where
 sf:Sf fs
 j:(∃ms junk,JD (fJ (dX fs eS)).d ms junk d n t/\(fJ (dX fs eS)).s=(fJ (dX fs eS)).d.length/\(dn=false->d.wh=true->junk=[]))∨(dn=true/\∃ms m,JD (ms.flatMap eT) ms [] d n t/\(fJ (dX fs eS)).d=ms.flatMap eT++eT m/\(fJ (dX fs eS)).s=(ms.flatMap eT).length/\m.ms=tr/\iP m/\iE m.k m.bl m.zs.length/\(m.k=6->m.e=d.ep/\m.e<1000000000000))
def tA{m:dK}{k bl:Int}{n:Nat}(h:iE k bl n):jK k:=by unfold iE at h;unfold jK;omega
def JD.next{b:List UInt8}{ms:List dK}{a:List UInt8}{d:SD}{n:Int}{t:Nat}(h:JD b ms a d n t):JD b ms a d n (t+1):=⟨h.dt,h.re,h.tn,by have:=h.ln;omega,h.pl⟩
def Jr.next{fs:List FD}{d:SD}{n:Int}{t:Nat}{dn:Bool}{tr:AG.Ms}(h:Jr fs d n t dn tr):Jr fs d n (t+1) dn tr:=by
 refine⟨h.sf,?_⟩;rcases h.j with⟨ms,a,c,b⟩|⟨e,ms,m,c,b⟩;·exact .inl ⟨ms,a,c.next,b⟩
 ·exact .inr ⟨e,ms,m,c.next,b⟩
def JM{d:SD}{n:Int}(h:fN d n)(A:d.recs.length<=2000000){p:List Int}(u:p.Perm (d.dw.map (·.1)))(q:Option Addr)(w:Nat):∀m∈d.msgs p q w,iP m/\iE m.k m.bl m.zs.length:=by
 intro m a;unfold SD.msgs at a;obtain⟨x,t⟩:=h.hd;have f:(0:Int)<=0/\(0:Int)<5:=dG;rcases List.mem_append.1 a with a|a
 ·rcases List.mem_append.1 a with a|a
  ·obtain⟨r,s,rfl⟩:=List.mem_map.1 a;obtain⟨i,hi,rfl⟩:=List.getElem_of_mem s;have o:i+1<d.recs.length:=by simpa using Nat.add_lt_of_lt_sub (by simpa using hi)
   have b:=h.re (i+1) o;rw[List.getElem_tail];refine⟨⟨rF 0 _ _ _ f ?_ b.2.1 b.2.2,by intro z c;simp[kH]at c⟩,.inr (.inr (.inl rfl))⟩;show 0<=d.recs[i+1].E - 1/\d.recs[i+1].E - 1<=1000000000000;rw[b.1];omega
  ·obtain⟨e,v,a⟩:=List.mem_flatMap.1 a;have l:=u.mem_iff.1 v;obtain⟨y,hy,j⟩:=List.mem_map.1 l;have g:=(h.vt y hy).1;rw[j]at g;have b:=h.at e;simp only[List.mem_cons,List.mem_nil_iff,or_false]at a;rcases a with rfl|rfl;·exact⟨⟨uY 0 _ _ _ _ f g b.2.1 b.2.2.1 b.2.2.2,by intro z c;simp[kW]at c⟩,.inr (.inl rfl)⟩
   ·exact⟨⟨rG 0 _ _ f g b.1,by intro z c;simp[kX]at c⟩,.inl rfl⟩
 ·simp only[List.mem_cons,List.mem_nil_iff,or_false]at a;subst a;refine⟨⟨rH 0 _ _ 4 f h.se h.la dG,?_⟩,.inr (.inr (.inr (.inr ⟨rfl,sG⟩)))⟩;intro z c;simp only[List.mem_cons,List.mem_nil_iff,or_false]at c;rcases c with rfl|rfl|rfl|rfl;·exact h.b0
  ·exact h.b1
  ·exact h.b2
  ·exact h.b3
def Jr.wrote{fs fs':List FD}{d d':SD}{n:Int}{t:Nat}{tr:AG.Ms}{left left':Int}{m:dK}{ok:Bool}(h:Jr fs d n t false tr)(q:fN d n)(E:BG t d)(S:t<=1000000)(y:iP m)(w:iE m.k m.bl m.zs.length)(Q:m.k=6->m.e=d.ep/\m.e<1000000000000)(M:lV d fs left m ok fs' left' d'):Jr fs' (bif ok then d'.stepM m else d') n (t+1) (!ok) m.ms:=by
 have K:=h.j;simp only[Bool.false_eq_true,false_and,or_false]at K;obtain⟨ms,p,a,v,N⟩:=K;have L:=a.ln;rcases M with⟨w1,w2,w3,R,rfl⟩|⟨o,i,l,w1,w2,rfl⟩
 ·have A:=N trivial w1;subst A;have g:=a.dt;rw[List.append_nil]at g;unfold pE at w3;have u:Kq ((fE d.id n 0 true).play ms).dw:=Kq.play _ (oW _ _ _ _);have b:iH ((fE d.id n 0 true).play ms) {d with lines:=d.lines+1}:=⟨a.pl.id,a.pl.recs,a.pl.vt,a.pl.b0,a.pl.b1,a.pl.b2,a.pl.b3,a.pl.seen,a.pl.last,a.pl.ky⟩;by_cases s:left=0
  ·rw[if_pos s]at w3;subst w3;have:ok=false:=by rw[w2];simp[s]
   subst this;exact⟨h.sf,.inl ⟨ms,[],⟨a.dt,a.re,a.tn,oG,b⟩,v,λ_ _=>rfl⟩⟩
  ·rw[if_neg s]at w3;by_cases r:left=1
   ·rw[if_pos r]at w3;subst w3;have:ok=false:=by rw[w2];simp[r]
    subst this;have a1:=uO eS (eT m) fs;refine⟨h.sf.app _ _,.inr ⟨rfl,ms,m,⟨sG,a.re,.inl rfl,oG,b⟩,?_,?_,rfl,y,w,Q⟩⟩;·rw[a1.1,g]
    ·rw[a1.2,v,g]
   ·rw[if_neg r]at w3;subst w3;have:ok=true:=by rw[w2];simp[s,r]
    subst this;have a1:=uO eS (eT m) fs;have D:=xR eS (eO fs eS (eT m));refine⟨(h.sf.app _ _).syn _,.inl ⟨ms++[m],[],⟨?_,?_,.inl rfl,by simp;omega,?_⟩,?_,λ_ _=>rfl⟩⟩;·rw[D.1,a1.1,g];simp
    ·intro z c;rcases List.mem_append.1 c with c|c;·exact a.re z c
     ·simp at c;subst c;exact⟨y,w⟩
    ·have B:=b.step u q.kn m;rw[rV];have C:(SD.stepM {d with lines:=d.lines+1} m).id=d.id:=(pP _ _ _ _ _ _ _ _ _ _).2.2.2.2.1;show iH (((fE (SD.stepM {d with lines:=d.lines+1} m).id n 0 true).play ms).stepM m) _;rw[C];exact B
    ·rw[D.2,D.1]
 ·have U:(d.msgs o i l).length<=3*t+1:=by rw[tX,w1.length_eq,List.length_map];have:=E.recs;have:=E.dw;omega
  have b:=NY q w1 i l 0 true;have u:Kq ((fE d.id n 0 true).play (d.msgs o i l)).dw:=Kq.play _ (oW _ _ _ _);cases ok;·have H:=NV w2;have f:=a.pl;refine⟨D3 h.sf w2,.inl ⟨ms,p,⟨by rw[H];exact a.dt,a.re,a.tn,oG,⟨f.id,f.recs,f.vt,f.b0,f.b1,f.b2,f.b3,f.seen,f.last,f.ky⟩⟩,by rw[H];exact v,sG⟩⟩
  ·obtain⟨F,O⟩:=NW w2;refine⟨D3 h.sf w2,.inl ⟨d.msgs o i l++[m],[],⟨by rw[F];simp,?_,.inl rfl,by simp;omega,?_⟩,by rw[F,O],λ_ _=>rfl⟩⟩
   ·intro z c;rcases List.mem_append.1 c with c|c;·exact JM q (by have:=E.recs;omega) w1 i l z c
    ·simp at c;subst c;exact⟨y,w⟩
   ·have x:iH ((fE d.id n 0 true).play (d.msgs o i l)) {d with lines:=(d.recs.length:Int)+2*(d.dw.length:Int)+1,wh:=true}:=⟨b.id,b.recs,b.vt,b.b0,b.b1,b.b2,b.b3,b.seen,b.last,b.ky⟩;have B:=x.step u q.kn m;rw[rV];have C:(SD.stepM {d with lines:=(d.recs.length:Int)+2*(d.dw.length:Int)+1,wh:=true} m).id=d.id:=(pP _ _ _ _ _ _ _ _ _ _).2.2.2.2.1;show iH (((fE (SD.stepM {d with lines:=(d.recs.length:Int)+2*(d.dw.length:Int)+1,wh:=true} m).id n 0 true).play (d.msgs o i l)).stepM m) _;rw[C];exact B
def iJ.ms(m:iJ):AG.Ms:=⟨m.k,m.f,m.e,m.b,m.wa,m.p,m.s,m.q,m.bl,m.v,[]⟩
def SD.du(d:SD):AG.Du:=⟨d.id,d.recs,d.dw,d.bk,d.seen,d.last⟩
def dD(x:NB)(u:AG.Du)(la lo:List Ky)(rs:List dJ)(tr:AG.Ms):AG.Nd:=⟨x.id,x.nodes,x.nb,u,x.down,x.act,x.ph,x.gP,x.gS,x.jo,x.ba,x.rf,x.fo.ms,la,x.on,x.ow.ms,lo,x.ops,rs,tr⟩
def nX{d:SD}(h:0<d.recs.length):d.du.rc d.du.ep=d.dh:=by show d.recs.getD ((d.recs.length:Int) - 1).toNat ⟨0,0,0⟩=d.recs.getD (d.recs.length - 1) ⟨0,0,0⟩;rw[show((d.recs.length:Int) - 1).toNat=d.recs.length - 1 by omega]
def B1(d:SD)(E P:Int):d.du.takes E P=d.takes E P:=by unfold AG.Du.takes SD.takes;show(P==d.id+1&&decide (d.seen<E))=_;congr 1
def QC(d:SD)(bl v:Int)(h:0<=bl/\bl<=3)(e q:Int):({d.jy bl v with seen:=e,last:=q}:SD).bk=λi=>if i=bl then v else d.bk i:=by
 funext i;have f:bl=0∨bl=1∨bl=2∨bl=3:=oG;unfold SD.jy SD.bk;rcases f with rfl|rfl|rfl|rfl;·by_cases a:i=0<;>simp[a]
 ·by_cases a:i=0;·simp[a]
  ·by_cases b:i=1<;>simp[a,b]
 ·by_cases a:i=0;·simp[a]
  ·by_cases b:i=1;·simp[b]
   ·by_cases c:i=2<;>simp[a,b,c]
 ·by_cases a:i=0;·simp[a]
  ·by_cases b:i=1;·simp[b]
   ·by_cases c:i=2;·simp[c]
    ·by_cases g:i=3<;>simp[a,b,c,g]
def QD(d:SD)(a:List Int)(h:a.length<=4)(e q:Int):({d with seen:=e,last:=q,b0:=a.getD 0 d.b0,b1:=a.getD 1 d.b1,b2:=a.getD 2 d.b2,b3:=a.getD 3 d.b3}:SD).bk=λi=>bif decide (0<=i) then a.getD i.toNat (d.bk i) else d.bk i:=by
 funext i;unfold SD.bk;by_cases c:i=0;·subst c;simp
 by_cases g:i=1;·subst g;simp
 by_cases b:i=2;·subst b;simp
 by_cases f:i=3;·subst f;simp
 by_cases j:0<=i;·simp only[c,g,b,f,if_false,j,decide_true,cond_true];rw[List.getD_eq_getElem?_getD,List.getElem?_eq_none oG];rfl
 ·simp[c,g,b,f,j]
def C0(d:SD){m:dK}(g:iE m.k m.bl m.zs.length):(d.stepM m).du=d.du.step m.ms:=by
 unfold SD.stepM SD.step AG.Du.step;show _=if m.k=1 then _ else _;rcases g with a|a|a|⟨a,c⟩|⟨a,c⟩;·rw[if_pos a,if_pos a];rfl
 ·rw[if_neg oG,if_pos a,if_neg oG,if_pos (show m.ms.k=3 from a)];rfl
 ·rw[if_neg oG,if_neg oG,if_pos a,if_neg oG,if_neg (show¬m.ms.k=3 by show¬m.k=3;omega),if_pos (show m.ms.k=6 from a)];unfold SD.learn AG.Du.learn;show(⟨_,_,_,_,_,_⟩:AG.Du)=_;simp only[B1];rfl
 ·rw[if_neg oG,if_neg oG,if_neg oG,if_pos a,if_neg oG,if_neg (show¬m.ms.k=3 by show¬m.k=3;omega),if_neg (show¬m.ms.k=6 by show¬m.k=6;omega),if_pos (show m.ms.k=7 from a)];have b:=QC d m.bl m.v c m.e m.q;unfold SD.du;rw[b];have f:(d.jy m.bl m.v).id=d.id/\(d.jy m.bl m.v).recs=d.recs/\(d.jy m.bl m.v).dw=d.dw:=by unfold SD.jy;(repeat' split)<;>exact⟨rfl,rfl,rfl⟩
  rw[f.1,f.2.1,f.2.2];rfl
 ·rw[if_neg oG,if_neg oG,if_neg oG,if_neg oG,if_neg oG,if_neg (show¬m.ms.k=3 by show¬m.k=3;omega),if_neg (show¬m.ms.k=6 by show¬m.k=6;omega),if_neg (show¬m.ms.k=7 by show¬m.k=7;omega)];have b:=QD d m.zs c.2 m.e m.q;unfold SD.du;rw[b];rfl
structure Rg(x:NB)(la:List Ky)(rs:List dJ)(t:Nat):Prop where
 nn:2<=x.nodes/\x.nodes<=5
 id:0<=x.id/\x.id<x.nodes
 nb:1<=x.nb/\x.nb<=4
 ph:0<=x.ph/\x.ph<=3
 an:1<=x.ph->(0<x.ba∨3<=x.ph)->∃B,x.an=some B
 g:(0<=x.gP/\x.gP<=5)/\(0<=x.gS/\x.gS<=31)
 jo:0<=x.jo/\x.jo<x.nodes
 ba:0<=x.ba/\x.ba<=1000000000000
 rf:0<=x.rf/\x.rf<=1000000000000
 fo:(0<=x.fo.wa/\x.fo.wa<=1000000000000)/\(0<=x.fo.p/\x.fo.p<=5)/\(0<=x.fo.s/\x.fo.s<=31)
 on:0<x.on->(∃B,x.oa=some B)/\x.ow.k=7/\fH 7 x.id [0,x.ow.e,x.ow.b,x.ow.wa,x.ow.p,x.ow.s,x.ow.q,x.ow.bl,x.ow.v,0]=true
 ops:0<=x.ops/\x.ops<=(t:Int)
 rs:rs.length<=t
 la:la.length<=t+1
def Rg.next{x:NB}{la:List Ky}{rs:List dJ}{t:Nat}(h:Rg x la rs t):Rg x la rs (t+1):=⟨h.nn,h.id,h.nb,h.ph,h.an,h.g,h.jo,h.ba,h.rf,h.fo,h.on,by have:=h.ops;omega,by have:=h.rs;omega,by have:=h.la;omega⟩
def Rg.stand{x:NB}{la:List Ky}{rs:List dJ}{t:Nat}(h:Rg x la rs t):Rg x.stand [] rs t:=⟨h.nn,h.id,h.nb,by simp[NB.stand],by simp[NB.stand],by simp[NB.stand],by have:=h.nn;simp[NB.stand];omega,by simp[NB.stand],by simp[NB.stand],by simp[NB.stand,iJ.nil],by simp[NB.stand],h.ops,h.rs,sG⟩
def Rg.act{x:NB}{la:List Ky}{rs:List dJ}{t:Nat}(h:Rg x la rs t)(b c:Bool):Rg {x with act:=b,down:=c} la rs t:=⟨h.nn,h.id,h.nb,h.ph,h.an,h.g,h.jo,h.ba,h.rf,h.fo,h.on,h.ops,h.rs,h.la⟩
def Rg.after{x:NB}{la:List Ky}{rs:List dJ}{t:Nat}(h:Rg x la rs t):Rg (x.after false) [] rs t:=h.stand.act false true
structure fW(w:World)(P:Pl)(t:Nat)(C:Nat->Prop)(left:Int)(n:AG.Nd):Prop where
 ex:∃x d fs la lo rs,dO w P x d fs left (eA t) C la lo rs/\BG t d/\fN d x.nodes/\Rg x la rs t/\d.id=x.id/\n=dD x d.du la lo rs n.tr/\Jr fs d x.nodes t x.down n.tr
def eP(P:Pl)(t:Nat)(C:Nat->Prop)(left:Int)(n:AG.Nd)(ok:Bool)(w w':World):Prop:=∃C' left',fW w' P (t+1) C' left' n/\dP C C' w w'/\(left = -1->ok=true/\left' = -1)
def dO.mono{w:World}{P:Pl}{x:NB}{d:SD}{fs:List FD}{left:Int}{L L':Nat}{C:Nat->Prop}{la lo:List Ky}{rs:List dJ}(h:dO w P x d fs left L C la lo rs)(b:L<=L'):dO w P x d fs left L' C la lo rs:=by obtain⟨A,c,a,e⟩:=h.nod;exact⟨⟨A,c.mono b,a,e⟩,h.an,h.oa,h.ne,h.row,h.jq,h.lt⟩
def wX(t:Nat):eA t<=eA (t+1):=by unfold eA;omega
section
variable {w w':World} {P:Pl} {x x':NB} {d:SD} {fs:List FD} {left:Int} {t:Nat} {C C':Nat->Prop} {la lo la' lo':List Ky} {rs rs':List dJ} {tr:AG.Ms} {m:dK}
def eP.keep(a:dO w' P x' d fs left (eA t) C' la' lo' rs')(f:dP C C' w w')(b:BG t d)(g:fN d x'.nodes)(e:Rg x' la' rs' (t+1))(hi:d.id=x'.id)(c:Jr fs d x'.nodes t x'.down tr):eP P t C left (dD x' d.du la' lo' rs' tr) true w w':=⟨C',left,⟨x',d,fs,la',lo',rs',a.mono (wX t),b.next,g,e,hi,rfl,c.next⟩,f,λh=>⟨rfl,h⟩⟩
def lV.m1{d d':SD}{fs fs':List FD}{left left':Int}{ok:Bool}(h:lV d fs left m ok fs' left' d')(b:left = -1):ok=true/\left' = -1:=by
 subst b;rcases h with⟨_,a,_,c,_⟩|⟨_,_,_,_,a,_⟩;·exact⟨by rw[a];decide,by rw[c];decide⟩
 ·exact NX a
def eP.save(s:eK P x' d fs left t C la' lo' rs' m true w w')(r:BG t d)(x:t<=1000000)(i:fN d x'.nodes)(B:Rg x' la' rs' (t+1))(hi:d.id=x'.id)(v:Jr fs d x'.nodes t false tr)(l:iP m)(b:iE m.k m.bl m.zs.length)(q:m.k=6->m.e=d.ep/\m.e<1000000000000)(dA:x'.down=false)(o:AG.Ms):eP P t C left (dD x' (d.du.step m.ms) la' lo' rs' o) true w w':=by
 obtain⟨fs',left',d',C',h,u,y⟩:=s;have A:0<=m.e/\m.e<=1000000000000:=by
  obtain⟨_,_,a⟩:=oZ l.1;rcases tA (m:=m) b with g|g|g|g|g<;>rw[g]at a;·exact((nA _ _ _ _ _ _ _ _ _).1 a).1
  ·exact((nB _ _ _ _ _ _ _ _ _).1 a).1
  ·exact((nT _ _ _ _ _ _ _ _ _).1 a).1
  ·exact((nU _ _ _ _ _ _ _ _ _).1 a).1
  ·exact((nV _ _ _ _ _ _ _ _ _).1 a).1
 have z:=r.step h A;have hs:=h.same;have n:=v.wrote i r x l b q h;have c:d'.du=d.du/\fN d' x'.nodes/\d'.ep=d.ep:=by
  rcases h with⟨_,_,_,_,rfl⟩|⟨_,_,_,_,_,rfl⟩;·exact⟨rfl,i.lines _ _,rfl⟩
  ·exact⟨rfl,i.lines _ _,rfl⟩
 refine⟨C',left',⟨x',d'.stepM m,fs',la',lo',rs',u,z,c.2.1.step l (tA (m:=m) b) (by rw[c.2.2];exact q),B,?_,?_,?_⟩,y,h.m1⟩;·exact((pP _ _ _ _ _ _ _ _ _ _).2.2.2.2.1).trans (hs.1.trans hi)
 ·rw[C0 d' b,c.1];rfl
 ·have a:Jr fs' (d'.stepM m) x'.nodes (t+1) false m.ms:=n;rw[dA];refine⟨a.sf,.inl ?_⟩;have p:=a.j;simp only[Bool.false_eq_true,false_and,or_false]at p;obtain⟨ms,f,a1,D,E⟩:=p;exact⟨ms,f,a1,D,λ_=>E trivial⟩
def eP.fall(l:eK P (x.after false) d fs left t C [] [] rs m false w w')(i:BG t d)(p:t<=1000000)(g:fN d x.nodes)(u:Rg x la rs t)(hi:d.id=x.id)(o:Jr fs d x.nodes t false tr)(r:iP m)(j:iE m.k m.bl m.zs.length)(s:m.k=6->m.e=d.ep/\m.e<1000000000000):eP P t C left ((dD x d.du la lo rs tr).fall m.ms) false w w':=by
 obtain⟨fs',left',d',C',c,n,q⟩:=l;have h:=o.wrote g i p r j s c;have b:d'.du=d.du/\fN d' x.nodes/\BG (t+1) d':=by
  have a:=i.next;have f:=i.wrote c;rcases c with⟨_,_,_,_,rfl⟩|⟨_,_,_,_,_,rfl⟩;·exact⟨rfl,g.lines _ _,⟨a.ne,a.recs,a.dw,f.2.2.2.1,by have:=f.2.2.2.2;omega,a.re,a.id⟩⟩
  ·exact⟨rfl,g.lines _ _,⟨a.ne,a.recs,a.dw,f.2.2.2.1,by have:=f.2.2.2.2;omega,a.re,a.id⟩⟩
 refine⟨C',left',⟨x.after false,d',fs',[],[],rs,n,b.2.2,b.2.1,u.after.next,c.same.1.trans hi,?_,h⟩,q,c.m1⟩;rw[b.1];rfl
end
def AG.Ms.pk(m:AG.Ms):List UInt8:=gO m.k m.f m.e m.b m.wa m.p m.s m.q m.bl m.v m.zs
def Rl(m:AG.Ms):Prop:=fH m.k m.f [0,m.e,m.b,m.wa,m.p,m.s,m.q,m.bl,m.v,(m.zs.length:Int)]=true/\(∀z∈m.zs,i_ z)/\(m.k=9->1<=m.zs.length)
def fS(l:List (Int×AG.Ms)):List (Int×List UInt8):=l.map (λz=>(z.1,z.2.pk))
def eM(n:Int)(l:List (Int×AG.Ms)):Prop:=∀z∈l,(0<=z.1/\z.1<n)/\Rl z.2
def eM.nil(n:Int):eM n []:=by intro z a;simp at a
def eM.app{n:Int}{a b:List (Int×AG.Ms)}(h:eM n a)(k:eM n b):eM n (a++b):=λz c=>(List.mem_append.1 c).elim (h z) (k z)
def B3(a b:List (Int×AG.Ms)):fS (a++b)=fS a++fS b:=by unfold fS;rw[List.map_append]
def yH(s:Int)(a:List UInt8):∀t:Nat,fT s a t=(((List.range t).map Int.ofNat).filter (λi=>fK s i.toNat)).map (λi=>(i,a))
 |0=>rfl
 |t+1=>by
  rw[fT,yH s a t,List.range_succ,List.map_append,List.filter_append,List.map_append];congr 1;simp only[List.map_cons,List.map_nil];cases h:fK s t;·simp[h]
  ·simp[h]
def wM(n:AG.Nd)(m:AG.Ms)(l:List Int):fS (n.tell m l)=l.map (λi=>(i,({m with f:=n.id}:AG.Ms).pk)):=by unfold fS AG.Nd.tell;rw[List.map_map];rfl
def MT:∀n:Fin 6,∀j:Fin 5,j.val<n.val->∀i:Fin 5,i.val<n.val->fK ((2:Int)^n.val - 1 - 2^j.val) i.val=decide (i.val≠j.val):=by decide +kernel
def tN(x:NB)(l:2<=x.nodes/\x.nodes<=5)(hi:0<=x.id/\x.id<x.nodes)(n:AG.Nd)(d:n.id=x.id)(j:n.nodes=x.nodes)(m:AG.Ms):fS (n.tell m n.others)=fT (kC x) ({m with f:=x.id}:AG.Ms).pk x.nodes.toNat:=by
 rw[wM,yH,d];congr 1;unfold AG.Nd.others;rw[d,j];apply List.filter_congr;intro i e;obtain⟨k,g,rfl⟩:=List.mem_map.1 e;have a:=List.mem_range.1 g;have h:=MT ⟨x.nodes.toNat,oG⟩ ⟨x.id.toNat,oG⟩ (by dsimp only;omega) ⟨k,oG⟩ a;unfold kC;rw[show(Int.ofNat k).toNat=k from rfl,h];apply decide_eq_decide.2;dsimp only;constructor;·intro b c;apply b;rw[c];show((x.id.toNat:Nat):Int)=x.id;omega
 ·intro b c;apply b;have:((k:Nat):Int)=x.id:=c;omega
def tT(n:AG.Nd)(m:AG.Ms)(h:Rl {m with f:=n.id}):eM n.nodes (n.tell m n.others):=by intro z a;unfold AG.Nd.tell at a;obtain⟨i,hi,rfl⟩:=List.mem_map.1 a;unfold AG.Nd.others at hi;obtain⟨k,b,rfl⟩:=List.mem_map.1 (List.mem_filter.1 hi).1;have c:=List.mem_range.1 b;exact⟨⟨Int.natCast_nonneg k,by show(k:Int)<n.nodes;omega⟩,h⟩
def D4(n:AG.Nd)(m:AG.Ms)(i:Int)(hi:0<=i/\i<n.nodes)(h:Rl {m with f:=n.id}):eM n.nodes (n.tell m [i]):=by intro z a;simp[AG.Nd.tell]at a;subst a;exact⟨hi,h⟩
def C1(x:NB)(b:2<=x.nodes/\x.nodes<=5)(n:AG.Nd)(a:n.id=x.id)(m:AG.Ms)(i:Nat)(hi:(i:Int)<x.nodes):fS (n.tell m [(i:Int)])=fT (2^i) ({m with f:=x.id}:AG.Ms).pk x.nodes.toNat:=by rw[wM,a,CT _ i x.nodes.toNat oG oG];rfl
def wN(x:NB)(n:AG.Nd)(a:n.id=x.id)(c:n.nodes=x.nodes)(S:Int)(b:(n.d.rc n.d.ep).S=S)(m:AG.Ms):fS (n.tell m n.missing)=fT (iD S x.id n.ow.e n.ow.q n.oa x.nodes.toNat) ({m with f:=x.id}:AG.Ms).pk x.nodes.toNat:=by rw[wM,yH,a];unfold AG.Nd.missing;rw[a,c,b]
def wY(n:AG.Nd)(m:AG.Ms)(h:Rl {m with f:=n.id}):eM n.nodes (n.tell m n.missing):=by intro z a;unfold AG.Nd.tell at a;obtain⟨i,hi,rfl⟩:=List.mem_map.1 a;unfold AG.Nd.missing at hi;obtain⟨k,b,rfl⟩:=List.mem_map.1 (List.mem_filter.1 hi).1;have c:=List.mem_range.1 b;exact⟨⟨Int.natCast_nonneg k,by show(k:Int)<n.nodes;omega⟩,h⟩
def gJ(P:Pl)(t:Nat)(C:Nat->Prop)(left:Int)(n:Int)(f:AG.Nd×List (Int×AG.Ms))(ok:Bool)(l:Value)(w w':World):Prop:=dY w' w.heap.size l (fS f.2)/\eM n f.2/\eP P t C left f.1 ok w w'
def O2(e b:Int)(c:0<=e/\e<=1000000000000)(a:0<=b/\b<=1000000000000):iP ⟨1,0,e,b,0,0,0,0,0,0,none,0,[]⟩:=⟨rG 0 e b dG c a,by intro z d;simp at d⟩
def p9{d:SD}{t:Nat}(h:BG t d)(a:t<=1000000):0<=d.ep/\d.ep<=1000001:=by have:=h.ne;have:=h.recs;unfold SD.ep;omega
def oX{d:SD}{n:Int}(h:fN d n)(b:0<d.recs.length):d.dh.E=d.ep/\(0<=d.dh.P/\d.dh.P<=5)/\(0<=d.dh.S/\d.dh.S<=31):=by have a:=h.re (d.recs.length - 1) oG;unfold SD.dh;rw[List.getD_eq_getElem?_getD,List.getElem?_eq_getElem oG,Option.getD_some];refine⟨?_,a.2⟩;rw[a.1];unfold SD.ep;omega
def C3{d:SD}{n:Int}(h:fN d n)(a:0<d.recs.length)(E p s:Int):AG.folB (d.du.rc d.du.ep) E p s=kU d.dh.E d.dh.P d.dh.S E p s:=by have b:=oX h a;unfold AG.folB;rw[nX a];simp[b.2.2]
def wC{x:NB}{d:SD}{la lo:List Ky}{rs:List dJ}{tr:AG.Ms}(m:0<=(dH d.dw d.ep).pr)(j:0<=x.rf)(hi:0<=x.id)(g:x.down=false)(l:¬1000000000000<x.nb' d)(ok:Bool):(dD x d.du la lo rs tr).prepare ok=bif ok then({dD x (d.du.step (fR x d).ms) [(2,d.ep,x.nb' d,x.id)] lo rs tr with ph:=2,ba:=x.nb' d,fo:={(eJ d 1 d.ep (x.nb' d)).ms with f:=x.id}},(dD x d.du la lo rs tr).tell {AG.Ms.nil with k:=1,e:=d.ep,b:=x.nb' d} (dD x d.du la lo rs tr).others) else((dD x d.du la lo rs tr).fall (fR x d).ms,[]):=by
 have r:=sQ (dH d.dw d.ep).pr x.rf x.id m j hi;have o:=vO d (x.nb' d) (by unfold NB.nb';omega);have c:=zZ d (x.nb' d) (by unfold NB.nb';omega);unfold iZ at c;simp only[Bool.and_eq_true,Bool.not_eq_true',decide_eq_false_iff_not]at c;unfold AG.Nd.prepare;dsimp only;have h:(dD x d.du la lo rs tr).gu (dD x d.du la lo rs tr).rf=x.nb' d:=rfl;rw[h,if_neg l];have a:(dD x d.du la lo rs tr).iy {AG.Ms.nil with k:=1,e:=(dD x d.du la lo rs tr).d.ep,b:=x.nb' d} ok=if ok=true then((dD x d.du la lo rs tr).save (fR x d).ms true,(eJ d 1 d.ep (x.nb' d)).ms) else((dD x d.du la lo rs tr).fall (fR x d).ms,.nil):=by
  unfold AG.Nd.iy;dsimp only;rw[if_neg (show¬(dD x d.du la lo rs tr).d.ep<(dD x d.du la lo rs tr).d.ep from Int.lt_irrefl _),if_neg (show¬x.nb' d<(dH (dD x d.du la lo rs tr).d.dw (dD x d.du la lo rs tr).d.ep).pr from c.2.1)];rw[if_neg (show¬(1:Int)=3 by decide),o];have n:¬(((dH (dD x d.du la lo rs tr).d.dw (dD x d.du la lo rs tr).d.ep).after 1 (x.nb' d) AG.Ms.nil.p AG.Ms.nil.s).ql (dH (dD x d.du la lo rs tr).d.dw (dD x d.du la lo rs tr).d.ep)=true):=by have:=c.2.2;intro i;have q:(((dH d.dw d.ep).after 1 (x.nb' d) 0 0).ql (dH d.dw d.ep))=true:=i;rw[q]at this;exact absurd this sG
  rw[if_neg n];rfl
 cases ok;·rw[if_neg (show¬(false=true) by simp)]at a;rw[a];rw[if_pos (show((dD x d.du la lo rs tr).fall (fR x d).ms).down=true from rfl)];rfl
 ·rw[if_pos rfl]at a;rw[a];rw[if_neg (show¬((dD x d.du la lo rs tr).save (fR x d).ms true).down=true by show¬x.down=true;rw[g];simp)];rfl
end Go.Proofs.YtdcainmlcpafbaaGreatDoor
