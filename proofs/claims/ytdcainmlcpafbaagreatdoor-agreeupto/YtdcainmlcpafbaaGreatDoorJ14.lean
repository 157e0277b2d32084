import Derived.Test.YtdcainmlcpafbaaGreatDoorJ22
import Derived.Test.YtdcainmlcpafbaaGreatDoorJ26
import Derived.Test.YtdcainmlcpafbaaGreatDoorJ27
set_option linter.all false
set_option maxHeartbeats 4000000
set_option maxRecDepth 20000
namespace Go.Proofs.YtdcainmlcpafbaaGreatDoor
open Go.RowKit
open Value renaming int->I,slice->J,pointer->P0
open IntKind renaming i64->T
open Option renaming none->Z,some->Y
open Obj renaming cells->G
open Value (bool)
theorem sT(f:FD)(fs:List FD)(a b:List UInt8):eK (f::fs) a b=if(f.n==a)=true then⟨f.n,f.d++b,f.s⟩::fs else f::eK fs a b:=by
 unfold eK gM;rw[List.findIdx?_cons];by_cases h:(f.n==a)=true;·simp[h]
 ·simp only[h,if_false,Bool.false_eq_true];cases hq:fs.findIdx? (fun f=>f.n==a)<;>simp
theorem sU(f:FD)(fs:List FD)(a:List UInt8):fI (f::fs) a=if(f.n==a)=true then⟨f.n,f.d,f.d.length⟩::fs else f::fI fs a:=by
 unfold fI gM;rw[List.findIdx?_cons];by_cases h:(f.n==a)=true;·simp[h]
 ·simp only[h,if_false,Bool.false_eq_true];cases hq:fs.findIdx? (fun f=>f.n==a)<;>simp
theorem iE(f:FD)(fs:List FD)(a:List UInt8):dV (f::fs) a=if(f.n==a)=true then some f else dV fs a:=by unfold dV;rw[List.find?_cons];by_cases h:(f.n==a)=true<;>simp[h]
theorem tQ(a b:List UInt8):∀fs:List FD,(fE (dV (eK fs a b) a)).d=(fE (dV fs a)).d++b/\(fE (dV (eK fs a b) a)).s=(fE (dV fs a)).s
 | []=>by simp[eK,gM,dV,fE,i5]
 |f::fs=>by
  rw[sT,iE f fs];by_cases h:(f.n==a)=true;·rw[if_pos h,if_pos h,iE,if_pos h];exact⟨rfl,rfl⟩
  ·rw[if_neg h,if_neg h,iE,if_neg h];exact tQ a b fs
theorem wH(a:List UInt8):∀fs:List FD,(fE (dV (fI fs a) a)).d=(fE (dV fs a)).d/\(fE (dV (fI fs a) a)).s=(fE (dV fs a)).d.length
 | []=>by simp[fI,gM,dV,fE,i5]
 |f::fs=>by
  rw[sU,iE f fs];by_cases h:(f.n==a)=true;·rw[if_pos h,if_pos h,iE,if_pos h];exact⟨rfl,rfl⟩
  ·rw[if_neg h,if_neg h,iE,if_neg h];exact wH a fs
theorem CP{b a:List UInt8}(c:b≠a)(e:List UInt8):∀fs:List FD,dV (eK fs b e) a=dV fs a
 | []=>by simp[eK,gM,dV,c]
 |f::fs=>by
  rw[sT,iE f fs];by_cases h:(f.n==b)=true
  ·have d:¬(f.n==a)=true:=by intro g;exact c ((beq_iff_eq.1 h).symm.trans (beq_iff_eq.1 g))
   rw[if_pos h,if_neg d,iE,if_neg d]
  ·rw[if_neg h,iE,CP c e fs]
theorem CR{b a:List UInt8}(d:b≠a):∀fs:List FD,dV (fI fs b) a=dV fs a
 | []=>by simp[fI,gM,dV]
 |f::fs=>by
  rw[sU,iE f fs];by_cases h:(f.n==b)=true
  ·have c:¬(f.n==a)=true:=by intro e;exact d ((beq_iff_eq.1 h).symm.trans (beq_iff_eq.1 e))
   rw[if_pos h,if_neg c,iE,if_neg c]
  ·rw[if_neg h,iE,CR d fs]
theorem AB(f:FD)(fs:List FD)(a:List UInt8):dY (f::fs) a=if(f.n==a)=true then dY fs a else f::dY fs a:=by
 unfold dY;rw[List.filter_cons];by_cases h:(f.n==a)=true;·simp[h,bne]
 ·simp only[Bool.not_eq_true]at h;simp[h,bne]
theorem wI{b a:List UInt8}(c:b≠a):∀fs:List FD,dV (dY fs b) a=dV fs a
 | []=>rfl
 |f::fs=>by
  rw[AB,iE f fs];by_cases h:(f.n==b)=true
  ·have e:¬(f.n==a)=true:=by intro d;exact c ((beq_iff_eq.1 h).symm.trans (beq_iff_eq.1 d))
   rw[if_pos h,if_neg e,wI c fs]
  ·rw[if_neg h,iE,wI c fs]
theorem tR(a:List UInt8):∀fs:List FD,dV (dY fs a) a=none
 | []=>rfl
 |f::fs=>by
  rw[AB];by_cases h:(f.n==a)=true;·rw[if_pos h];exact tR a fs
  ·rw[if_neg h,iE,if_neg h];exact tR a fs
theorem vM(a:List UInt8):∀(fs:List FD),(∀i,gM fs a=some i->dV fs a=some (fs.getD i i5))/\(gM fs a=none->dV fs a=none)
 | []=>by simp[gM,dV]
 |f::fs=>by
  obtain⟨b,c⟩:=vM a fs;unfold gM at b c⊢;rw[List.findIdx?_cons,iE];by_cases h:(f.n==a)=true;·simp[h]
  ·rw[if_neg h];simp only[h,if_false,Bool.false_eq_true];cases hq:fs.findIdx? (fun f=>f.n==a) with
   |none=>simpa using c hq
   |some j=>simpa using b j hq
theorem AC{a:List UInt8}:∀{fs:List FD},dV fs a=none->∀f:FD,(f.n==a)=true->dV (fs++[f]) a=some f
 | [],_,f,hf=>by rw[List.nil_append,iE,if_pos hf]
 |g::fs,h,f,hf=>by
  rw[iE]at h;rw[List.cons_append,iE];by_cases b:(g.n==a)=true;·rw[if_pos b]at h;exact absurd h (by simp)
  ·rw[if_neg b]at h⊢;exact AC h f hf
theorem MT{a b:List UInt8}(f:a≠b)(fs:List FD)(h:(dV fs a).isSome=true):(fE (dV (iN fs a b) b)).d=(fE (dV fs a)).d/\(fE (dV (iN fs a b) b)).s=(fE (dV fs a)).s:=by
 obtain⟨c,e⟩:=vM a fs;unfold iN;cases hq:gM fs a with
 |none=>rw[e hq]at h;exact absurd h (by simp)
 |some i=>simp only[if_neg f];rw[AC (tR b _) _ (by simp),c i hq];exact⟨rfl,rfl⟩
def Sf(fs:List FD):Prop:=∀f∈fs,f.s<=f.d.length
theorem Sf.app(b e:List UInt8):∀{fs:List FD},Sf fs->Sf (eK fs b e)
 | [],_=>by intro f a;simp[eK,gM]at a;subst a;simp
 |g::fs,h=>by
  rw[sT];have i:=h g (by simp);have d:Sf fs:=fun f a=>h f (by simp[a]);by_cases c:(g.n==b)=true
  ·rw[if_pos c];intro f a;rcases List.mem_cons.1 a with rfl|a;·simp;omega
   ·exact d f a
  ·rw[if_neg c];intro f a;rcases List.mem_cons.1 a with rfl|a;·exact i
   ·exact Sf.app b e d f a
theorem Sf.syn(b:List UInt8):∀{fs:List FD},Sf fs->Sf (fI fs b)
 | [],_=>by intro f a;simp[fI,gM]at a
 |g::fs,h=>by
  rw[sU];have e:=h g (by simp);have d:Sf fs:=fun f a=>h f (by simp[a]);by_cases c:(g.n==b)=true
  ·rw[if_pos c];intro f a;rcases List.mem_cons.1 a with rfl|a;·exact Nat.le_refl _
   ·exact d f a
  ·rw[if_neg c];intro f a;rcases List.mem_cons.1 a with rfl|a;·exact e
   ·exact Sf.syn b d f a
theorem Sf.out(b:List UInt8){fs:List FD}(h:Sf fs):Sf (dY fs b):=fun f a=>h f (List.mem_filter.1 a).1
theorem Sf.ren(a b:List UInt8){fs:List FD}(h:Sf fs):Sf (iN fs a b):=by
 obtain⟨g,j⟩:=vM a fs;unfold iN;cases hq:gM fs a with
 |none=>exact h
 |some i=>
  dsimp only;split;·exact h
  ·intro f c;rcases List.mem_append.1 c with c|c;·exact(h.out a).out b f c
   ·simp only[List.mem_singleton]at c;subst c;have d:=g i hq;have e:=h _ (List.mem_of_find?_eq_some d);exact e
theorem tC{K:List FD->Prop}{f:List FD->List FD}(b:∀z,K z->K (f z)){a:Bool×List FD×Int}(h:K a.2.1):K (fV f a).2.1:=by
 unfold fV;split
 ·dsimp only;split;·exact h
  ·exact b _ h
 ·exact h
theorem IE{f:List FD->List FD}{a:Bool×List FD×Int}(h:(fV f a).1=false):(fV f a).2.1=a.2.1:=by
 unfold fV at h⊢;split at h;·next h1=>rw[if_pos h1];dsimp only at h⊢;rw[decide_eq_false_iff_not,Classical.not_not]at h;rw[if_pos h]
 ·next h1=>rw[if_neg h1]
theorem tD{f:List FD->List FD}{a:Bool×List FD×Int}(h:(fV f a).1=true):a.1=true/\a.2.2≠0/\(fV f a).2.1=f a.2.1:=by
 unfold fV at h⊢;split at h;·next h1=>rw[if_pos h1];dsimp only at h⊢;rw[decide_eq_true_eq]at h;rw[if_neg h];exact⟨h1,h,rfl⟩
 ·next h1=>exact absurd h h1
theorem dj:dQ≠eP:=by decide
theorem AD{K:List FD->Prop}(b:∀z,K z->K (dY z dQ))(a:∀z l,K z->K (eK z dQ l))(c:∀z,K z->K (fI z dQ)){fs:List FD}(h:K fs)(left:Int)(l:List UInt8):K (fV (fun z=>fI z dQ) (fV (fun z=>eK z dQ l) (iL fs left))).2.1:=by
 refine tC c (tC (fun z=>a z l) ?_);unfold iL;split;·exact tC b h
 ·exact h
theorem MU{fs fs':List FD}{left left':Int}{l:List UInt8}(h:(false,fs',left')=fZ fs left l):dV fs' eP=dV fs eP:=by unfold fZ at h;have c:=IE (congrArg Prod.fst h).symm;have b:fs'=_:=(congrArg (fun z=>z.2.1) h).trans c;rw[b];exact AD (K:=fun z=>dV z eP=dV fs eP) (fun z a=>(wI dj z).trans a) (fun z l a=>(CP dj l z).trans a) (fun z a=>(CR dj z).trans a) rfl left l
theorem MV{fs fs':List FD}{left left':Int}{l:List UInt8}(h:(true,fs',left')=fZ fs left l):(fE (dV fs' eP)).d=l/\(fE (dV fs' eP)).s=l.length:=by
 unfold fZ at h;obtain⟨a1,x,u⟩:=tD (congrArg Prod.fst h).symm;obtain⟨m,w,q⟩:=tD a1;obtain⟨g,v,c3⟩:=tD m;have o:fs'=_:=(congrArg (fun z=>z.2.1) h).trans u;have p:dV (iL fs left).2.1 dQ=none:=by
  unfold iL at g⊢;split at g;·next hh=>rw[if_pos hh,(tD g).2.2];exact tR _ _
  ·next hh=>
   rw[if_neg hh];dsimp only;cases hq:dV fs dQ;·rfl
   ·rw[hq]at hh;exact absurd rfl hh
 rw[o,q,c3];have e:=tQ dQ l (iL fs left).2.1;have k:=wH dQ (eK (iL fs left).2.1 dQ l);rw[p]at e;have t:(fE (dV (fI (eK (iL fs left).2.1 dQ l) dQ) dQ)).d=l:=by rw[k.1,e.1];rfl
 by_cases i:(dV (fI (eK (iL fs left).2.1 dQ l) dQ) dQ).isSome=true;·have j:=MT dj _ i;rw[j.1,j.2,t,k.2,e.1];exact⟨rfl,rfl⟩
 ·exfalso;have c:∀z:List FD,(dV z dQ).isSome=true->(dV (fI z dQ) dQ).isSome=true:=by
   intro z;induction z with
   |nil=>intro r;simp[dV]at r
   |cons f z ih=>
    rw[sU,iE];by_cases a:(f.n==dQ)=true;·rw[if_pos a,if_pos a,iE,if_pos a];intro _;rfl
    ·rw[if_neg a,if_neg a,iE,if_neg a];exact ih
  have b:∀z:List FD,(dV (eK z dQ l) dQ).isSome=true:=by
   intro z;induction z with
   |nil=>simp[eK,gM,dV]
   |cons f z ih=>
    rw[sT];by_cases a:(f.n==dQ)=true;·rw[if_pos a,iE,if_pos a];rfl
    ·rw[if_neg a,iE,if_neg a];exact ih
  exact i (c _ (b _))
theorem CT{fs fs':List FD}{left left':Int}{l:List UInt8}{ok:Bool}(hs:Sf fs)(h:(ok,fs',left')=fZ fs left l):Sf fs':=by have b:fs'=_:=congrArg (fun z=>z.2.1) h;rw[b];unfold fZ;exact tC (K:=Sf) (fun z a=>a.ren _ _) (AD (fun z a=>a.out _) (fun z l a=>a.app _ _) (fun z a=>a.syn _) hs left l)
theorem MW{fs fs':List FD}{left':Int}{l:List UInt8}{ok:Bool}(h:(ok,fs',left')=fZ fs (-1) l):ok=true/\left' = -1:=by
 have a:∀(f:List FD->List FD) (b:Bool×List FD×Int),b.1=true/\b.2.2 = -1->(fV f b).1=true/\(fV f b).2.2 = -1:=by rintro f b ⟨e,d⟩;unfold fV;rw[if_pos e,d];exact⟨rfl,rfl⟩
 have g:(iL fs (-1)).1=true/\(iL fs (-1)).2.2 = -1:=by
  unfold iL;split;·exact a _ _ ⟨rfl,rfl⟩
  ·exact⟨rfl,rfl⟩
 have c:=a (fun z=>iN z dQ eP) _ (a (fun z=>fI z dQ) _ (a (fun z=>eK z dQ l) _ g));unfold fZ at h;rw[←h]at c;exact c
def Kq(l:List (Int×PV)):Prop:=(l.map (·.1)).Nodup
theorem qY(e:Int)(x:PV):∀l:List (Int×PV),∀k,k∈(fX l e x).map (·.1)↔k∈l.map (·.1)∨k=e
 | [],k=>by simp[fX]
 |y::l,k=>by
  unfold fX;by_cases h:e=y.1
  ·rw[if_pos h];simp only[List.map_cons,List.mem_cons];constructor
   ·rintro(a|a);·exact .inr a
    ·exact .inl (.inr a)
   ·rintro((a|a)|a);·exact .inl (a.trans h.symm)
    ·exact .inr a
    ·exact .inl a
  ·rw[if_neg h];simp only[List.map_cons,List.mem_cons,qY e x l k];constructor
   ·rintro(a|a|a);·exact .inl (.inl a)
    ·exact .inl (.inr a)
    ·exact .inr a
   ·rintro((a|a)|a);·exact .inl a
    ·exact .inr (.inl a)
    ·exact .inr (.inr a)
theorem Kq.put{l:List (Int×PV)}(h:Kq l)(e:Int)(x:PV):Kq (fX l e x):=by
 unfold Kq at*;induction l with
 |nil=>simp[fX]
 |cons y l ih=>
  simp only[List.map_cons,List.nodup_cons]at h;unfold fX;by_cases a:e=y.1;·rw[if_pos a];simp only[List.map_cons,List.nodup_cons];rw[a];exact h
  ·rw[if_neg a];simp only[List.map_cons,List.nodup_cons];refine⟨fun c=>?_,ih h.2⟩;rcases(qY e x l y.1).1 c with b|b;·exact h.1 b
   ·exact a b.symm
theorem AE(e:Int):∀l:List (Int×PV),∀k,k∈(gH l e).map (·.1)->k∈l.map (·.1)
 | [],k=>by simp[gH]
 |y::l,k=>by
  unfold gH;split;·intro h;simp only[List.map_cons,List.mem_cons];exact .inr h
  ·intro h;simp only[List.map_cons,List.mem_cons]at h⊢;exact h.imp id (AE e l k)
theorem Kq.del{l:List (Int×PV)}(h:Kq l)(e:Int):Kq (gH l e):=by
 unfold Kq at*;induction l with
 |nil=>simp[gH]
 |cons y l ih=>
  simp only[List.map_cons,List.nodup_cons]at h;unfold gH;split;·exact h.2
  ·simp only[List.map_cons,List.nodup_cons];exact⟨fun a=>h.1 (AE e l _ a),ih h.2⟩
theorem BL{l:List (Int×PV)}{e:Int}(h:e∉l.map (·.1)):dG l e=⟨0,0,0,0⟩:=by
 unfold dG;rw[List.find?_eq_none.2];·rfl
 ·intro y hy a;exact h (by rw[beq_iff_eq.1 a];exact List.mem_map_of_mem hy)
theorem AF{l:List (Int×PV)}(h:Kq l)(e:Int):dG (gH l e) e=⟨0,0,0,0⟩:=by
 unfold Kq at h;induction l with
 |nil=>rfl
 |cons y l ih=>
  simp only[List.map_cons,List.nodup_cons]at h;unfold gH;by_cases a:e=y.1;·rw[if_pos a];exact BL (by rw[a];exact h.1)
  ·rw[if_neg a];have b:(e==y.1)=false:=by simpa using a
   have:=ih h.2;unfold dG at this⊢;simp only[List.find?_cons,b];exact this
theorem LO{l:List (Int×PV)}{e:Int}:dG l e=⟨0,0,0,0⟩∨(e,dG l e)∈l:=by
 unfold dG;cases hq:l.find? (fun x=>e==x.1) with
 |none=>exact .inl rfl
 |some y=>right;have a:=List.mem_of_find?_eq_some hq;have c:=List.find?_some hq;have b:=beq_iff_eq.1 c;show(e,y.2)∈l;rw[b];exact a
structure iA(a b:SD):Prop where
 id:a.id=b.id
 recs:a.recs=b.recs
 vt:∀e,dG a.di e=dG b.di e
 b0:a.b0=b.b0
 b1:a.b1=b.b1
 b2:a.b2=b.b2
 b3:a.b3=b.b3
 seen:a.seen=b.seen
 last:a.last=b.last
 ky:∀e,e∈a.di.map (·.1)↔e∈b.di.map (·.1)
theorem iA.refl(a:SD):iA a a:=⟨rfl,rfl,fun _=>rfl,rfl,rfl,rfl,rfl,rfl,rfl,fun _=>Iff.rfl⟩
theorem iA.trans{a b c:SD}(h:iA a b)(k:iA b c):iA a c:=⟨h.id.trans k.id,h.recs.trans k.recs,fun e=>(h.vt e).trans (k.vt e),h.b0.trans k.b0,h.b1.trans k.b1,h.b2.trans k.b2,h.b3.trans k.b3,h.seen.trans k.seen,h.last.trans k.last,fun e=>(h.ky e).trans (k.ky e)⟩
theorem iA.len{a b:SD}(h:iA a b)(d:Kq a.di)(e:Kq b.di):a.di.length=b.di.length:=by have c:=((List.perm_ext_iff_of_nodup d e).2 h.ky).length_eq;simpa using c
theorem BM{l:List (Int×PV)}(h:Kq l)(e k:Int):k∈(gH l e).map (·.1)↔k∈l.map (·.1)/\k≠e:=by
 unfold Kq at h;induction l with
 |nil=>simp[gH]
 |cons y l ih=>
  simp only[List.map_cons,List.nodup_cons]at h;unfold gH;by_cases c:e=y.1
  ·rw[if_pos c];simp only[List.map_cons,List.mem_cons];subst c;constructor;·intro a;exact⟨.inr a,fun b=>h.1 (b ▸ a)⟩
   ·rintro⟨a|a,b⟩;·exact absurd a b
    ·exact a
  ·rw[if_neg c];simp only[List.map_cons,List.mem_cons,ih h.2];constructor
   ·rintro(a|⟨a,b⟩);·exact⟨.inl a,fun d=>c (d.symm.trans a)⟩
    ·exact⟨.inr a,b⟩
   ·rintro⟨a|a,b⟩;·exact .inl a
    ·exact .inr ⟨a,b⟩
theorem Kq.step{d:SD}(h:Kq d.di)(m:dI):Kq (d.stepM m).di:=by
 unfold SD.stepM SD.step;split;·exact h.put _ _
 split;·exact h.put _ _
 split;·exact h.del _
 split;·unfold SD.jr;(repeat' split)<;>exact h
 ·exact h
theorem Kq.play:∀(ms:List dI) {d:SD},Kq d.di->Kq (d.play ms).di
 | [],d,h=>h
 |m::ms,d,h=>by unfold SD.play;rw[List.foldl_cons];exact Kq.play ms (h.step m)
theorem iA.step{a b:SD}(h:iA a b)(d:Kq a.di)(g:Kq b.di)(m:dI):iA (a.stepM m) (b.stepM m):=by
 have f:∀E P,a.takes E P=b.takes E P:=fun E P=>by unfold SD.takes;rw[h.id,h.seen]
 unfold SD.stepM SD.step;split
 ·refine⟨h.id,h.recs,fun e=>?_,h.b0,h.b1,h.b2,h.b3,h.seen,h.last,fun e=>?_⟩;·simp only[AG.vmGet_put,h.vt]
  ·simp only[qY,h.ky]
 split
 ·refine⟨h.id,h.recs,fun e=>?_,h.b0,h.b1,h.b2,h.b3,h.seen,h.last,fun e=>?_⟩;·simp only[AG.vmGet_put,h.vt]
  ·simp only[qY,h.ky]
 split
 ·unfold SD.learn;refine⟨h.id,by simp only[h.recs],fun e=>?_,h.b0,h.b1,h.b2,h.b3,by simp only[f,h.seen],by simp only[f,h.last],fun e=>?_⟩
  ·dsimp only;by_cases c:e=m.e+1 - 1;·rw[c,AF d,AF g]
   ·rw[AG.vmGet_del _ _ _ c,AG.vmGet_del _ _ _ c];exact h.vt e
  ·dsimp only;rw[BM d,BM g,h.ky]
 split;·unfold SD.jr;(repeat' split)<;>exact⟨h.id,h.recs,h.vt,by first|rfl|exact h.b0,by first|rfl|exact h.b1,by first|rfl|exact h.b2,by first|rfl|exact h.b3,rfl,rfl,h.ky⟩
 ·exact⟨h.id,h.recs,h.vt,by simp only[h.b0],by simp only[h.b1],by simp only[h.b2],by simp only[h.b3],rfl,rfl,h.ky⟩
def fB(id n:Int)(li:Int)(wh:Bool):SD:=⟨id,[⟨0,0,2^n.toNat - 1⟩],[],0,0,0,0,0,0,li,wh⟩
theorem iA.play{a b:SD}(h:iA a b)(c:Kq a.di)(d:Kq b.di):∀ms:List dI,iA (a.play ms) (b.play ms):=by
 intro ms;induction ms generalizing a b with
 |nil=>exact h
 |cons m ms ih=>unfold SD.play;rw[List.foldl_cons,List.foldl_cons];exact ih (h.step c d m) (c.step m) (d.step m)
theorem zH(id n:Int)(c b:Int)(d a:Bool):iA (fB id n c d) (fB id n b a):=⟨rfl,rfl,fun _=>rfl,rfl,rfl,rfl,rfl,rfl,rfl,fun _=>Iff.rfl⟩
theorem nY(id n:Int)(a:Int)(b:Bool):Kq (fB id n a b).di:=by simp[Kq,fB]
structure fJ(d:SD)(n:Int):Prop where
 kn:Kq d.di
 vt:∀y∈d.di,(0<=y.1/\y.1<=1000000000000)/\(0<=y.2.pr/\y.2.pr<=1000000000000)/\(0<=y.2.ac/\y.2.ac<=1000000000000)/\(0<=y.2.pm/\y.2.pm<=5)/\(0<=y.2.st/\y.2.st<=31)
 hd:∃tl,d.recs=⟨0,0,2^n.toNat - 1⟩::tl
 re:∀i (h:i<d.recs.length),d.recs[i].E=(i:Int)/\(0<=d.recs[i].P/\d.recs[i].P<=5)/\(0<=d.recs[i].S/\d.recs[i].S<=31)
 se:0<=d.seen/\d.seen<=1000000000000
 la:0<=d.last/\d.last<=1000000000000
 b0:i_ d.b0
 b1:i_ d.b1
 b2:i_ d.b2
 b3:i_ d.b3
theorem AH(id n a:Int)(b:Bool):∀(rs:List eE) (d:SD),d.di=[]->d.b0=0->d.b1=0->d.b2=0->d.b3=0->d.id=id->(d.play (rs.map jP)).recs=d.recs++rs/\(d.play (rs.map jP)).di=[]/\(d.play (rs.map jP)).id=id
 | [],d,h1,_,_,_,_,h2=>⟨by simp[SD.play],h1,h2⟩
 |r::rs,d,h1,h3,h4,h5,h6,h2=>by
  have hs:d.stepM (jP r)=d.learn r.E r.P r.S:=by unfold SD.stepM SD.step jP;simp
  unfold SD.play;rw[List.map_cons,List.foldl_cons,hs];have ih:=AH id n a b rs (d.learn r.E r.P r.S) (by simp[SD.learn,h1,gH]) h3 h4 h5 h6 h2;refine⟨ih.1.trans ?_,ih.2.1,ih.2.2⟩;simp[SD.learn]
theorem AI(V:Int->PV):∀(b:List Int) (d:SD),(d.play (b.flatMap (fun e=>[kJ e (V e),kK e (V e)]))).recs=d.recs/\(d.play (b.flatMap (fun e=>[kJ e (V e),kK e (V e)]))).id=d.id/\∀e,(dG (d.play (b.flatMap (fun e=>[kJ e (V e),kK e (V e)]))).di e=if e∈b then V e else dG d.di e)/\(e∈(d.play (b.flatMap (fun e=>[kJ e (V e),kK e (V e)]))).di.map (·.1)↔e∈b∨e∈d.di.map (·.1))
 | [],d=>⟨rfl,rfl,fun e=>by simp[SD.play]⟩
 |k::b,d=>by
  rw[List.flatMap_cons];unfold SD.play;rw[List.foldl_append];have hs:List.foldl SD.stepM d [kJ k (V k),kK k (V k)]={d with di:=fX (fX d.di k ⟨(V k).ac,(V k).ac,(V k).pm,(V k).st⟩) k (V k)}:=by simp only[List.foldl_cons,List.foldl_nil];unfold kJ kK SD.stepM SD.step;simp[PV.after,AG.vmGet_put]
  rw[hs];have ih:=AI V b {d with di:=fX (fX d.di k ⟨(V k).ac,(V k).ac,(V k).pm,(V k).st⟩) k (V k)};refine⟨ih.1,ih.2.1,fun e=>⟨(ih.2.2 e).1.trans ?_,(ih.2.2 e).2.trans ?_⟩⟩
  ·dsimp only;simp only[AG.vmGet_put,List.mem_cons];by_cases a:e∈b;·simp[a]
   ·by_cases c:e=k;·subst c;simp[a]
    ·simp[a,c]
  ·dsimp only;simp only[qY,List.mem_cons];constructor
   ·rintro(a|(a|a)|a);·exact .inl (.inr a)
    ·exact .inr a
    ·exact .inl (.inl a)
    ·exact .inl (.inl a)
   ·rintro((a|a)|a);·exact .inr (.inr a)
    ·exact .inl a
    ·exact .inr (.inl (.inl a))
theorem AJ(d:SD)(a b:List dI):d.play (a++b)=(d.play a).play b:=by unfold SD.play;rw[List.foldl_append]
theorem MX{d:SD}{n:Int}(h:fJ d n){c:List Int}(k:c.Perm (d.di.map (·.1)))(m:Option Addr)(o:Nat)(g:Int)(b:Bool):iA ((fB d.id n g b).play (d.ig c m o)) d:=by
 obtain⟨r,i⟩:=h.hd;unfold SD.ig;rw[AJ,AJ];have f:=AH d.id n g b d.recs.tail (fB d.id n g b) rfl rfl rfl rfl rfl rfl;have a:=AI (dG d.di) c ((fB d.id n g b).play (d.recs.tail.map jP));generalize s:((fB d.id n g b).play (d.recs.tail.map jP))=A at f a⊢;generalize t:A.play (c.flatMap (fun e=>[kJ e (dG d.di e),kK e (dG d.di e)]))=B at a⊢;have p:B.play [⟨9,0,d.seen,0,0,0,0,d.last,0,0,m,o,[d.b0,d.b1,d.b2,d.b3]⟩]={B with seen:=d.seen,last:=d.last,b0:=d.b0,b1:=d.b1,b2:=d.b2,b3:=d.b3}:=by simp[SD.play,SD.stepM,SD.step]
 rw[p];refine⟨a.2.1.trans f.2.2,?_,fun e=>?_,rfl,rfl,rfl,rfl,rfl,rfl,fun e=>?_⟩;·show B.recs=d.recs;rw[a.1,f.1,i];rfl
 ·show dG B.di e=_;rw[(a.2.2 e).1];by_cases j:e∈c;·rw[if_pos j]
  ·rw[if_neg j,f.2.1,BL (l:=d.di) (fun q=>j (k.mem_iff.2 q))];rfl
 ·show e∈B.di.map (·.1)↔_;rw[(a.2.2 e).2,f.2.1,k.mem_iff];simp
theorem oC{k f:Int}{a:List Int}(h:fD k f a=true):(1<=k/\k<=10)/\(0<=f/\f<5)/\iG k.toNat a=true:=by unfold fD nK at h;simp only[Bool.and_eq_true,Bool.not_eq_true',decide_eq_false_iff_not]at h;exact⟨by omega,by omega,h.2⟩
def jK(k:Int):Prop:=k=1∨k=3∨k=6∨k=7∨k=9
theorem vN(e:Int)(x:PV):∀(l:List (Int×PV)),∀y∈fX l e x,y∈l∨y=(e,x)
 | [],y,h=>by simp[fX]at h;exact .inr h
 |z::l,y,h=>by
  unfold fX at h;split at h
  ·rcases List.mem_cons.1 h with h|h;·exact .inr h
   ·exact .inl (by simp[h])
  ·rcases List.mem_cons.1 h with h|h;·exact .inl (by simp[h])
   ·rcases vN e x l y h with h|h;·exact .inl (by simp[h])
    ·exact .inr h
theorem BN(e:Int):∀(l:List (Int×PV)),∀y∈gH l e,y∈l
 | [],y,h=>by simp[gH]at h
 |z::l,y,h=>by
  unfold gH at h;split at h;·simp[h]
  ·rcases List.mem_cons.1 h with h|h;·simp[h]
   ·simp[BN e l y h]
theorem fJ.at{d:SD}{n:Int}(h:fJ d n)(e:Int):(0<=(dG d.di e).pr/\(dG d.di e).pr<=1000000000000)/\(0<=(dG d.di e).ac/\(dG d.di e).ac<=1000000000000)/\(0<=(dG d.di e).pm/\(dG d.di e).pm<=5)/\(0<=(dG d.di e).st/\(dG d.di e).st<=31):=by
 rcases LO (l:=d.di) (e:=e) with a|a;·rw[a];simp
 ·exact(h.vt _ a).2
theorem fJ.step{d:SD}{n:Int}(h:fJ d n){m:dI}(w:iH m)(c:jK m.k)(D:m.k=6->m.e=d.ep/\m.e<1000000000000):fJ (d.stepM m) n:=by
 obtain⟨_,_,f⟩:=oC w.1;have o:=h.at m.e;unfold SD.stepM SD.step;rcases c with c|c|c|c|c
 ·rw[if_pos c];rw[c]at f;have a:=(mJ _ _ _ _ _ _ _ _ _).1 f;refine⟨h.kn.put _ _,fun y hy=>?_,h.hd,h.re,h.se,h.la,h.b0,h.b1,h.b2,h.b3⟩;rcases vN _ _ _ y hy with hy|rfl;·exact h.vt y hy
  ·simp only[PV.after,show¬((1:Int)=3) by decide,if_false];exact⟨a.1,a.2.1,o.2.1,o.2.2.1,o.2.2.2⟩
 ·rw[if_neg (by omega),if_pos c];rw[c]at f;have a:=(mK _ _ _ _ _ _ _ _ _).1 f;refine⟨h.kn.put _ _,fun y hy=>?_,h.hd,h.re,h.se,h.la,h.b0,h.b1,h.b2,h.b3⟩;rcases vN _ _ _ y hy with hy|rfl;·exact h.vt y hy
  ·simp only[PV.after,if_true];exact⟨a.1,a.2.1,a.2.1,a.2.2.1,a.2.2.2.1⟩
 ·rw[if_neg (by omega),if_neg (by omega),if_pos c];obtain⟨E,F⟩:=D c;rw[c]at f;have a:=(mY _ _ _ _ _ _ _ _ _).1 f;obtain⟨x,q⟩:=h.hd;have C:=h.se;have A:=h.la;refine⟨h.kn.del _,fun y hy=>h.vt y (BN _ _ y hy),⟨x++[⟨m.e+1,m.p,m.s⟩],by simp[SD.learn,q]⟩,fun i hi=>?_,?_,?_,h.b0,h.b1,h.b2,h.b3⟩
  ·simp only[SD.learn]at hi⊢;by_cases v:i<d.recs.length;·rw[List.getElem_append_left v];exact h.re i v
   ·have r:i=d.recs.length:=by simp at hi;omega
    subst r;simp only[List.getElem_append_right r_,Nat.sub_self,List.getElem_cons_zero];refine⟨?_,a.2.1,a.2.2.1⟩;rw[E];unfold SD.ep;omega
  ·simp only[SD.learn];split<;>omega
  ·simp only[SD.learn];split<;>omega
 ·rw[if_neg (by omega),if_neg (by omega),if_neg (by omega),if_pos c];rw[c]at f;have a:=(mZ _ _ _ _ _ _ _ _ _).1 f;have j:=h.b0;have t:=h.b1;have l:=h.b2;have u:=h.b3;unfold SD.jr;(repeat' split)<;>exact⟨h.kn,h.vt,h.hd,h.re,a.1,a.2.1,by first|exact j|exact a.2.2.2.1,by first|exact t|exact a.2.2.2.1,by first|exact l|exact a.2.2.2.1,by first|exact u|exact a.2.2.2.1⟩
 ·rw[if_neg (by omega),if_neg (by omega),if_neg (by omega),if_neg (by omega)];rw[c]at f;have a:=(nA _ _ _ _ _ _ _ _ _).1 f;have g:∀(i:Nat) (b:Int),(i_ b)-> -9223372036854775808<=m.zs.getD i b/\m.zs.getD i b<=9223372036854775807:=by
   intro i b B;rw[List.getD_eq_getElem?_getD];cases hq:m.zs[i]? with
   |none=>exact B
   |some z=>exact w.2 z (List.mem_of_getElem? hq)
  exact⟨h.kn,h.vt,h.hd,h.re,a.1,a.2.1,g 0 _ h.b0,g 1 _ h.b1,g 2 _ h.b2,g 3 _ h.b3⟩
theorem fJ.lines{d:SD}{n:Int}(h:fJ d n)(a:Int)(wh:Bool):fJ {d with lines:=a,wh:=wh} n:=⟨h.kn,h.vt,h.hd,h.re,h.se,h.la,h.b0,h.b1,h.b2,h.b3⟩
theorem fJ.alk{a d:SD}{n:Int}(h:fJ d n)(k:iA a d)(e:Kq a.di)(g:∀y∈a.di,dG a.di y.1=y.2):fJ a n:=by
 refine⟨e,fun y hy=>?_,by rw[k.recs];exact h.hd,?_,by rw[k.seen];exact h.se,by rw[k.last];exact h.la,by rw[k.b0];exact h.b0,by rw[k.b1];exact h.b1,by rw[k.b2];exact h.b2,by rw[k.b3];exact h.b3⟩;·have l:y.1∈d.di.map (·.1):=(k.ky _).1 (List.mem_map_of_mem hy);obtain⟨z,m,b⟩:=List.mem_map.1 l;have j:=h.vt z m;have c:=h.at y.1;rw[←k.vt,g y hy]at c;exact⟨by rw[←b];exact j.1,c⟩
 ·intro i hi;have f:=h.re i (by rw[←k.recs];exact hi);simp only[k.recs];exact f
theorem MY{l:List (Int×PV)}(h:Kq l):∀y∈l,dG l y.1=y.2:=by
 unfold Kq at h;induction l with
 |nil=>intro y hy;simp at hy
 |cons z l ih=>
  simp only[List.map_cons,List.nodup_cons]at h;intro y hy;rcases List.mem_cons.1 hy with rfl|hy;·simp[dG]
  ·have a:y.1≠z.1:=fun c=>h.1 (by rw[←c];exact List.mem_map_of_mem hy);have b:(y.1==z.1)=false:=by simpa using a
   have:=ih h.2 y hy;unfold dG at this⊢;simp only[List.find?_cons,b];exact this
structure JD(dt:List UInt8)(ms:List dI)(junk:List UInt8)(d:SD)(n:Int)(t:Nat):Prop where
 dt:dt=ms.flatMap eQ++junk
 re:∀m∈ms,iH m/\gZ m.k m.bl m.zs.length
 tn:oL junk
 ln:ms.length<=3*t+2
 pl:iA ((fB d.id n 0 true).play ms) d
def dI.ms(m:dI):AG.Ms:=⟨m.k,m.f,m.e,m.b,m.wa,m.p,m.s,m.q,m.bl,m.v,m.zs⟩
structure Jr(fs:List FD)(d:SD)(n:Int)(t:Nat)(dn:Bool)(tr:AG.Ms):Prop where
 sf:Sf fs
 j:(∃ms junk,JD (fE (dV fs eP)).d ms junk d n t/\(fE (dV fs eP)).s=(fE (dV fs eP)).d.length/\(dn=false->d.wh=true->junk=[]))∨(dn=true/\∃ms m,JD (ms.flatMap eQ) ms [] d n t/\(fE (dV fs eP)).d=ms.flatMap eQ++eQ m/\(fE (dV fs eP)).s=(ms.flatMap eQ).length/\m.ms=tr/\iH m/\gZ m.k m.bl m.zs.length/\(m.k=6->m.e=d.ep/\m.e<1000000000000))
theorem sC{m:dI}{k bl:Int}{n:Nat}(h:gZ k bl n):jK k:=by unfold gZ at h;unfold jK;omega
theorem JD.next{b:List UInt8}{ms:List dI}{a:List UInt8}{d:SD}{n:Int}{t:Nat}(h:JD b ms a d n t):JD b ms a d n (t+1):=⟨h.dt,h.re,h.tn,by have:=h.ln;omega,h.pl⟩
theorem Jr.next{fs:List FD}{d:SD}{n:Int}{t:Nat}{dn:Bool}{tr:AG.Ms}(h:Jr fs d n t dn tr):Jr fs d n (t+1) dn tr:=by
 refine⟨h.sf,?_⟩;rcases h.j with⟨ms,a,c,b⟩|⟨e,ms,m,c,b⟩;·exact .inl ⟨ms,a,c.next,b⟩
 ·exact .inr ⟨e,ms,m,c.next,b⟩
theorem IF{d:SD}{n:Int}(h:fJ d n)(A:d.recs.length<=2000000){p:List Int}(u:p.Perm (d.di.map (·.1)))(q:Option Addr)(w:Nat):∀m∈d.ig p q w,iH m/\gZ m.k m.bl m.zs.length:=by
 intro m a;unfold SD.ig at a;obtain⟨x,t⟩:=h.hd;have f:(0:Int)<=0/\(0:Int)<5:=by decide
 rcases List.mem_append.1 a with a|a
 ·rcases List.mem_append.1 a with a|a
  ·obtain⟨r,s,rfl⟩:=List.mem_map.1 a;obtain⟨i,hi,rfl⟩:=List.getElem_of_mem s;have o:i+1<d.recs.length:=by simpa using Nat.add_lt_of_lt_sub (by simpa using hi)
   have b:=h.re (i+1) o;rw[List.getElem_tail];refine⟨⟨qI 0 _ _ _ f ?_ b.2.1 b.2.2,by intro z c;simp[jP]at c⟩,.inr (.inr (.inl rfl))⟩;show 0<=d.recs[i+1].E - 1/\d.recs[i+1].E - 1<=1000000000000;rw[b.1];omega
  ·obtain⟨e,v,a⟩:=List.mem_flatMap.1 a;have l:=u.mem_iff.1 v;obtain⟨y,hy,j⟩:=List.mem_map.1 l;have g:=(h.vt y hy).1;rw[j]at g;have b:=h.at e;simp only[List.mem_cons,List.mem_nil_iff,or_false]at a;rcases a with rfl|rfl;·exact⟨⟨tZ 0 _ _ _ _ f g b.2.1 b.2.2.1 b.2.2.2,by intro z c;simp[kJ]at c⟩,.inr (.inl rfl)⟩
   ·exact⟨⟨qJ 0 _ _ f g b.1,by intro z c;simp[kK]at c⟩,.inl rfl⟩
 ·simp only[List.mem_cons,List.mem_nil_iff,or_false]at a;subst a;refine⟨⟨qK 0 _ _ 4 f h.se h.la (by decide),?_⟩,.inr (.inr (.inr (.inr ⟨rfl,by simp⟩)))⟩;intro z c;simp only[List.mem_cons,List.mem_nil_iff,or_false]at c;rcases c with rfl|rfl|rfl|rfl;·exact h.b0
  ·exact h.b1
  ·exact h.b2
  ·exact h.b3
theorem Jr.wrote{fs fs':List FD}{d d':SD}{n:Int}{t:Nat}{tr:AG.Ms}{left left':Int}{m:dI}{ok:Bool}(h:Jr fs d n t false tr)(q:fJ d n)(E:BG t d)(S:t<=1000000)(y:iH m)(w:gZ m.k m.bl m.zs.length)(Q:m.k=6->m.e=d.ep/\m.e<1000000000000)(M:lF d fs left m ok fs' left' d'):Jr fs' (bif ok then d'.stepM m else d') n (t+1) (!ok) m.ms:=by
 have K:=h.j;simp only[Bool.false_eq_true,false_and,or_false]at K;obtain⟨ms,p,a,v,N⟩:=K;have L:=a.ln;rcases M with⟨w1,w2,w3,R,rfl⟩|⟨o,i,l,w1,w2,rfl⟩
 ·have A:=N trivial w1;subst A;have g:=a.dt;rw[List.append_nil]at g;unfold oI at w3;have u:Kq ((fB d.id n 0 true).play ms).di:=Kq.play _ (nY _ _ _ _);have b:iA ((fB d.id n 0 true).play ms) {d with lines:=d.lines+1}:=⟨a.pl.id,a.pl.recs,a.pl.vt,a.pl.b0,a.pl.b1,a.pl.b2,a.pl.b3,a.pl.seen,a.pl.last,a.pl.ky⟩;by_cases s:left=0
  ·rw[if_pos s]at w3;subst w3;have:ok=false:=by rw[w2];simp[s]
   subst this;exact⟨h.sf,.inl ⟨ms,[],⟨a.dt,a.re,a.tn,by omega,b⟩,v,fun _ _=>rfl⟩⟩
  ·rw[if_neg s]at w3;by_cases r:left=1
   ·rw[if_pos r]at w3;subst w3;have:ok=false:=by rw[w2];simp[r]
    subst this;have a1:=tQ eP (eQ m) fs;refine⟨h.sf.app _ _,.inr ⟨rfl,ms,m,⟨by simp,a.re,.inl rfl,by omega,b⟩,?_,?_,rfl,y,w,Q⟩⟩;·rw[a1.1,g]
    ·rw[a1.2,v,g]
   ·rw[if_neg r]at w3;subst w3;have:ok=true:=by rw[w2];simp[s,r]
    subst this;have a1:=tQ eP (eQ m) fs;have D:=wH eP (eK fs eP (eQ m));refine⟨(h.sf.app _ _).syn _,.inl ⟨ms++[m],[],⟨?_,?_,.inl rfl,by simp;omega,?_⟩,?_,fun _ _=>rfl⟩⟩;·rw[D.1,a1.1,g];simp
    ·intro z c;rcases List.mem_append.1 c with c|c;·exact a.re z c
     ·simp at c;subst c;exact⟨y,w⟩
    ·have B:=b.step u q.kn m;rw[qU];have C:(SD.stepM {d with lines:=d.lines+1} m).id=d.id:=(oT _ _ _ _ _ _ _ _ _ _).2.2.2.2.1;show iA (((fB (SD.stepM {d with lines:=d.lines+1} m).id n 0 true).play ms).stepM m) _;rw[C];exact B
    ·rw[D.2,D.1]
 ·have U:(d.ig o i l).length<=3*t+1:=by rw[sZ,w1.length_eq,List.length_map];have:=E.recs;have:=E.di;omega
  have b:=MX q w1 i l 0 true;have u:Kq ((fB d.id n 0 true).play (d.ig o i l)).di:=Kq.play _ (nY _ _ _ _);cases ok;·have H:=MU w2;have f:=a.pl;refine⟨CT h.sf w2,.inl ⟨ms,p,⟨by rw[H];exact a.dt,a.re,a.tn,by omega,⟨f.id,f.recs,f.vt,f.b0,f.b1,f.b2,f.b3,f.seen,f.last,f.ky⟩⟩,by rw[H];exact v,by simp⟩⟩
  ·obtain⟨F,O⟩:=MV w2;refine⟨CT h.sf w2,.inl ⟨d.ig o i l++[m],[],⟨by rw[F];simp,?_,.inl rfl,by simp;omega,?_⟩,by rw[F,O],fun _ _=>rfl⟩⟩
   ·intro z c;rcases List.mem_append.1 c with c|c;·exact IF q (by have:=E.recs;omega) w1 i l z c
    ·simp at c;subst c;exact⟨y,w⟩
   ·have x:iA ((fB d.id n 0 true).play (d.ig o i l)) {d with lines:=(d.recs.length:Int)+2*(d.di.length:Int)+1,wh:=true}:=⟨b.id,b.recs,b.vt,b.b0,b.b1,b.b2,b.b3,b.seen,b.last,b.ky⟩;have B:=x.step u q.kn m;rw[qU];have C:(SD.stepM {d with lines:=(d.recs.length:Int)+2*(d.di.length:Int)+1,wh:=true} m).id=d.id:=(oT _ _ _ _ _ _ _ _ _ _).2.2.2.2.1;show iA (((fB (SD.stepM {d with lines:=(d.recs.length:Int)+2*(d.di.length:Int)+1,wh:=true} m).id n 0 true).play (d.ig o i l)).stepM m) _;rw[C];exact B
def iC.ms(m:iC):AG.Ms:=⟨m.k,m.f,m.e,m.b,m.wa,m.p,m.s,m.q,m.bl,m.v,[]⟩
def SD.du(d:SD):AG.Du:=⟨d.id,d.recs,d.di,d.bk,d.seen,d.last⟩
def dD(x:NB)(u:AG.Du)(la lo:List Ky)(rs:List dJ)(tr:AG.Ms):AG.Nd:=⟨x.id,x.nodes,x.nb,u,x.down,x.act,x.ph,x.gP,x.gS,x.jo,x.ba,x.rf,x.fo.ms,la,x.on,x.ow.ms,lo,x.ops,rs,tr⟩
theorem nD{d:SD}(h:0<d.recs.length):d.du.rc d.du.ep=d.dh:=by show d.recs.getD ((d.recs.length:Int) - 1).toNat ⟨0,0,0⟩=d.recs.getD (d.recs.length - 1) ⟨0,0,0⟩;rw[show((d.recs.length:Int) - 1).toNat=d.recs.length - 1 by omega]
theorem AK(d:SD)(E P:Int):d.du.takes E P=d.takes E P:=by unfold AG.Du.takes SD.takes;show(P==d.id+1&&decide (d.seen<E))=_;congr 1
theorem O6(d:SD)(bl v:Int)(h:0<=bl/\bl<=3)(e q:Int):({d.jr bl v with seen:=e,last:=q}:SD).bk=fun i=>if i=bl then v else d.bk i:=by
 funext i;have f:bl=0∨bl=1∨bl=2∨bl=3:=by omega
 unfold SD.jr SD.bk;rcases f with rfl|rfl|rfl|rfl;·by_cases a:i=0<;>simp[a]
 ·by_cases a:i=0;·simp[a]
  ·by_cases b:i=1<;>simp[a,b]
 ·by_cases a:i=0;·simp[a]
  ·by_cases b:i=1;·simp[b]
   ·by_cases c:i=2<;>simp[a,b,c]
 ·by_cases a:i=0;·simp[a]
  ·by_cases b:i=1;·simp[b]
   ·by_cases c:i=2;·simp[c]
    ·by_cases g:i=3<;>simp[a,b,c,g]
theorem O7(d:SD)(a:List Int)(h:a.length<=4)(e q:Int):({d with seen:=e,last:=q,b0:=a.getD 0 d.b0,b1:=a.getD 1 d.b1,b2:=a.getD 2 d.b2,b3:=a.getD 3 d.b3}:SD).bk=fun i=>bif decide (0<=i) then a.getD i.toNat (d.bk i) else d.bk i:=by
 funext i;unfold SD.bk;by_cases c:i=0;·subst c;simp
 by_cases g:i=1;·subst g;simp
 by_cases b:i=2;·subst b;simp
 by_cases f:i=3;·subst f;simp
 by_cases j:0<=i;·simp only[c,g,b,f,if_false,j,decide_true,cond_true];rw[List.getD_eq_getElem?_getD,List.getElem?_eq_none (by omega)];rfl
 ·simp[c,g,b,f,j]
theorem BO(d:SD){m:dI}(g:gZ m.k m.bl m.zs.length):(d.stepM m).du=d.du.step m.ms:=by
 unfold SD.stepM SD.step AG.Du.step;show _=if m.k=1 then _ else _;rcases g with a|a|a|⟨a,c⟩|⟨a,c⟩;·rw[if_pos a,if_pos a];rfl
 ·rw[if_neg (by omega),if_pos a,if_neg (by omega),if_pos (show m.ms.k=3 from a)];rfl
 ·rw[if_neg (by omega),if_neg (by omega),if_pos a,if_neg (by omega),if_neg (show¬m.ms.k=3 by show¬m.k=3;omega),if_pos (show m.ms.k=6 from a)];unfold SD.learn AG.Du.learn;show(⟨_,_,_,_,_,_⟩:AG.Du)=_;simp only[AK];rfl
 ·rw[if_neg (by omega),if_neg (by omega),if_neg (by omega),if_pos a,if_neg (by omega),if_neg (show¬m.ms.k=3 by show¬m.k=3;omega),if_neg (show¬m.ms.k=6 by show¬m.k=6;omega),if_pos (show m.ms.k=7 from a)];have b:=O6 d m.bl m.v c m.e m.q;unfold SD.du;rw[b];have f:(d.jr m.bl m.v).id=d.id/\(d.jr m.bl m.v).recs=d.recs/\(d.jr m.bl m.v).di=d.di:=by unfold SD.jr;(repeat' split)<;>exact⟨rfl,rfl,rfl⟩
  rw[f.1,f.2.1,f.2.2];rfl
 ·rw[if_neg (by omega),if_neg (by omega),if_neg (by omega),if_neg (by omega),if_neg (by omega),if_neg (show¬m.ms.k=3 by show¬m.k=3;omega),if_neg (show¬m.ms.k=6 by show¬m.k=6;omega),if_neg (show¬m.ms.k=7 by show¬m.k=7;omega)];have b:=O7 d m.zs c.2 m.e m.q;unfold SD.du;rw[b];rfl
structure Rg(x:NB)(la:List Ky)(rs:List dJ)(t:Nat):Prop where
 nn:2<=x.nodes/\x.nodes<=5
 id:0<=x.id/\x.id<x.nodes
 nb:1<=x.nb/\x.nb<=4
 ph:0<=x.ph/\x.ph<=3
 an:1<=x.ph->(0<x.ba∨3<=x.ph)->∃B,x.an=some B
 g:(0<=x.gP/\x.gP<=5)/\(0<=x.gS/\x.gS<=31)
 jo:0<=x.jo/\x.jo<x.nodes
 ba:0<=x.ba/\x.ba<=1000000000000
 rf:0<=x.rf/\x.rf<=1000000000000
 fo:(0<=x.fo.wa/\x.fo.wa<=1000000000000)/\(0<=x.fo.p/\x.fo.p<=5)/\(0<=x.fo.s/\x.fo.s<=31)
 on:0<x.on->(∃B,x.oa=some B)/\x.ow.k=7/\fD 7 x.id [0,x.ow.e,x.ow.b,x.ow.wa,x.ow.p,x.ow.s,x.ow.q,x.ow.bl,x.ow.v,0]=true
 ops:0<=x.ops/\x.ops<=(t:Int)
 rs:rs.length<=t
 la:la.length<=t+1
theorem Rg.next{x:NB}{la:List Ky}{rs:List dJ}{t:Nat}(h:Rg x la rs t):Rg x la rs (t+1):=⟨h.nn,h.id,h.nb,h.ph,h.an,h.g,h.jo,h.ba,h.rf,h.fo,h.on,by have:=h.ops;omega,by have:=h.rs;omega,by have:=h.la;omega⟩
theorem Rg.stand{x:NB}{la:List Ky}{rs:List dJ}{t:Nat}(h:Rg x la rs t):Rg x.stand [] rs t:=⟨h.nn,h.id,h.nb,by simp[NB.stand],by simp[NB.stand],by simp[NB.stand],by have:=h.nn;simp[NB.stand];omega,by simp[NB.stand],by simp[NB.stand],by simp[NB.stand,iC.nil],by simp[NB.stand],h.ops,h.rs,by simp⟩
theorem Rg.act{x:NB}{la:List Ky}{rs:List dJ}{t:Nat}(h:Rg x la rs t)(b c:Bool):Rg {x with act:=b,down:=c} la rs t:=⟨h.nn,h.id,h.nb,h.ph,h.an,h.g,h.jo,h.ba,h.rf,h.fo,h.on,h.ops,h.rs,h.la⟩
theorem Rg.after{x:NB}{la:List Ky}{rs:List dJ}{t:Nat}(h:Rg x la rs t):Rg (x.after false) [] rs t:=h.stand.act false true
structure fT(w:World)(P:Pl)(t:Nat)(C:Nat->Prop)(left:Int)(n:AG.Nd):Prop where
 ex:∃x d fs la lo rs,dM w P x d fs left (dX t) C la lo rs/\BG t d/\fJ d x.nodes/\Rg x la rs t/\d.id=x.id/\n=dD x d.du la lo rs n.tr/\Jr fs d x.nodes t x.down n.tr
def eL(P:Pl)(t:Nat)(C:Nat->Prop)(left:Int)(n:AG.Nd)(ok:Bool)(w w':World):Prop:=∃C' left',fT w' P (t+1) C' left' n/\dN C C' w w'/\(left = -1->ok=true/\left' = -1)
theorem dM.mono{w:World}{P:Pl}{x:NB}{d:SD}{fs:List FD}{left:Int}{L L':Nat}{C:Nat->Prop}{la lo:List Ky}{rs:List dJ}(h:dM w P x d fs left L C la lo rs)(b:L<=L'):dM w P x d fs left L' C la lo rs:=by obtain⟨A,c,a,e⟩:=h.nod;exact⟨⟨A,c.mono b,a,e⟩,h.an,h.oa,h.ne,h.row,h.jm,h.lt⟩
theorem vO(t:Nat):dX t<=dX (t+1):=by unfold dX;omega
section
variable {w w':World} {P:Pl} {x x':NB} {d:SD} {fs:List FD} {left:Int} {t:Nat} {C C':Nat->Prop} {la lo la' lo':List Ky} {rs rs':List dJ} {tr:AG.Ms} {m:dI}
theorem eL.keep(a:dM w' P x' d fs left (dX t) C' la' lo' rs')(f:dN C C' w w')(b:BG t d)(g:fJ d x'.nodes)(e:Rg x' la' rs' (t+1))(hi:d.id=x'.id)(c:Jr fs d x'.nodes t x'.down tr):eL P t C left (dD x' d.du la' lo' rs' tr) true w w':=⟨C',left,⟨x',d,fs,la',lo',rs',a.mono (vO t),b.next,g,e,hi,rfl,c.next⟩,f,fun h=>⟨rfl,h⟩⟩
theorem lF.m1{d d':SD}{fs fs':List FD}{left left':Int}{ok:Bool}(h:lF d fs left m ok fs' left' d')(b:left = -1):ok=true/\left' = -1:=by
 subst b;rcases h with⟨_,a,_,c,_⟩|⟨_,_,_,_,a,_⟩;·exact⟨by rw[a];decide,by rw[c];decide⟩
 ·exact MW a
theorem eL.save(s:eI P x' d fs left t C la' lo' rs' m true w w')(r:BG t d)(x:t<=1000000)(i:fJ d x'.nodes)(B:Rg x' la' rs' (t+1))(hi:d.id=x'.id)(v:Jr fs d x'.nodes t false tr)(l:iH m)(b:gZ m.k m.bl m.zs.length)(q:m.k=6->m.e=d.ep/\m.e<1000000000000)(dA:x'.down=false)(o:AG.Ms):eL P t C left (dD x' (d.du.step m.ms) la' lo' rs' o) true w w':=by
 obtain⟨fs',left',d',C',h,u,y⟩:=s;have A:0<=m.e/\m.e<=1000000000000:=by
  obtain⟨_,_,a⟩:=oC l.1;rcases sC (m:=m) b with g|g|g|g|g<;>rw[g]at a;·exact((mJ _ _ _ _ _ _ _ _ _).1 a).1
  ·exact((mK _ _ _ _ _ _ _ _ _).1 a).1
  ·exact((mY _ _ _ _ _ _ _ _ _).1 a).1
  ·exact((mZ _ _ _ _ _ _ _ _ _).1 a).1
  ·exact((nA _ _ _ _ _ _ _ _ _).1 a).1
 have z:=r.step h A;have hs:=h.same;have n:=v.wrote i r x l b q h;have c:d'.du=d.du/\fJ d' x'.nodes/\d'.ep=d.ep:=by
  rcases h with⟨_,_,_,_,rfl⟩|⟨_,_,_,_,_,rfl⟩;·exact⟨rfl,i.lines _ _,rfl⟩
  ·exact⟨rfl,i.lines _ _,rfl⟩
 refine⟨C',left',⟨x',d'.stepM m,fs',la',lo',rs',u,z,c.2.1.step l (sC (m:=m) b) (by rw[c.2.2];exact q),B,?_,?_,?_⟩,y,h.m1⟩;·exact((oT _ _ _ _ _ _ _ _ _ _).2.2.2.2.1).trans (hs.1.trans hi)
 ·rw[BO d' b,c.1];rfl
 ·have a:Jr fs' (d'.stepM m) x'.nodes (t+1) false m.ms:=n;rw[dA];refine⟨a.sf,.inl ?_⟩;have p:=a.j;simp only[Bool.false_eq_true,false_and,or_false]at p;obtain⟨ms,f,a1,D,E⟩:=p;exact⟨ms,f,a1,D,fun _=>E trivial⟩
theorem eL.fall(l:eI P (x.after false) d fs left t C [] [] rs m false w w')(i:BG t d)(p:t<=1000000)(g:fJ d x.nodes)(u:Rg x la rs t)(hi:d.id=x.id)(o:Jr fs d x.nodes t false tr)(r:iH m)(j:gZ m.k m.bl m.zs.length)(s:m.k=6->m.e=d.ep/\m.e<1000000000000):eL P t C left ((dD x d.du la lo rs tr).fall m.ms) false w w':=by
 obtain⟨fs',left',d',C',c,n,q⟩:=l;have h:=o.wrote g i p r j s c;have b:d'.du=d.du/\fJ d' x.nodes/\BG (t+1) d':=by
  have a:=i.next;have f:=i.wrote c;rcases c with⟨_,_,_,_,rfl⟩|⟨_,_,_,_,_,rfl⟩;·exact⟨rfl,g.lines _ _,⟨a.ne,a.recs,a.di,f.2.2.2.1,by have:=f.2.2.2.2;omega,a.re,a.id⟩⟩
  ·exact⟨rfl,g.lines _ _,⟨a.ne,a.recs,a.di,f.2.2.2.1,by have:=f.2.2.2.2;omega,a.re,a.id⟩⟩
 refine⟨C',left',⟨x.after false,d',fs',[],[],rs,n,b.2.2,b.2.1,u.after.next,c.same.1.trans hi,?_,h⟩,q,c.m1⟩;rw[b.1];rfl
end
def AG.Ms.pk(m:AG.Ms):List UInt8:=gJ m.k m.f m.e m.b m.wa m.p m.s m.q m.bl m.v m.zs
def Rl(m:AG.Ms):Prop:=fD m.k m.f [0,m.e,m.b,m.wa,m.p,m.s,m.q,m.bl,m.v,(m.zs.length:Int)]=true/\(∀z∈m.zs,i_ z)/\(m.k=9->1<=m.zs.length)
def fP(l:List (Int×AG.Ms)):List (Int×List UInt8):=l.map (fun z=>(z.1,z.2.pk))
def eJ(n:Int)(l:List (Int×AG.Ms)):Prop:=∀z∈l,(0<=z.1/\z.1<n)/\Rl z.2
theorem eJ.nil(n:Int):eJ n []:=by intro z a;simp at a
theorem eJ.app{n:Int}{a b:List (Int×AG.Ms)}(h:eJ n a)(k:eJ n b):eJ n (a++b):=fun z c=>(List.mem_append.1 c).elim (h z) (k z)
theorem AL(a b:List (Int×AG.Ms)):fP (a++b)=fP a++fP b:=by unfold fP;rw[List.map_append]
theorem xA(s:Int)(a:List UInt8):∀t:Nat,fQ s a t=(((List.range t).map Int.ofNat).filter (fun i=>fH s i.toNat)).map (fun i=>(i,a))
 |0=>rfl
 |t+1=>by
  rw[fQ,xA s a t,List.range_succ,List.map_append,List.filter_append,List.map_append];congr 1;simp only[List.map_cons,List.map_nil];cases h:fH s t;·simp[h]
  ·simp[h]
theorem vE(n:AG.Nd)(m:AG.Ms)(l:List Int):fP (n.tell m l)=l.map (fun i=>(i,({m with f:=n.id}:AG.Ms).pk)):=by unfold fP AG.Nd.tell;rw[List.map_map];rfl
theorem LP:∀n:Fin 6,∀j:Fin 5,j.val<n.val->∀i:Fin 5,i.val<n.val->fH ((2:Int)^n.val - 1 - 2^j.val) i.val=decide (i.val≠j.val):=by decide +kernel
theorem sP(x:NB)(l:2<=x.nodes/\x.nodes<=5)(hi:0<=x.id/\x.id<x.nodes)(n:AG.Nd)(d:n.id=x.id)(j:n.nodes=x.nodes)(m:AG.Ms):fP (n.tell m n.others)=fQ (jN x) ({m with f:=x.id}:AG.Ms).pk x.nodes.toNat:=by
 rw[vE,xA,d];congr 1;unfold AG.Nd.others;rw[d,j];apply List.filter_congr;intro i e;obtain⟨k,g,rfl⟩:=List.mem_map.1 e;have a:=List.mem_range.1 g;have h:=LP ⟨x.nodes.toNat,by omega⟩ ⟨x.id.toNat,by omega⟩ (by dsimp only;omega) ⟨k,by omega⟩ a;unfold jN;rw[show(Int.ofNat k).toNat=k from rfl,h];apply decide_eq_decide.2;dsimp only;constructor;·intro b c;apply b;rw[c];show((x.id.toNat:Nat):Int)=x.id;omega
 ·intro b c;apply b;have:((k:Nat):Int)=x.id:=c;omega
theorem sV(n:AG.Nd)(m:AG.Ms)(h:Rl {m with f:=n.id}):eJ n.nodes (n.tell m n.others):=by intro z a;unfold AG.Nd.tell at a;obtain⟨i,hi,rfl⟩:=List.mem_map.1 a;unfold AG.Nd.others at hi;obtain⟨k,b,rfl⟩:=List.mem_map.1 (List.mem_filter.1 hi).1;have c:=List.mem_range.1 b;exact⟨⟨Int.natCast_nonneg k,by show(k:Int)<n.nodes;omega⟩,h⟩
theorem CU(n:AG.Nd)(m:AG.Ms)(i:Int)(hi:0<=i/\i<n.nodes)(h:Rl {m with f:=n.id}):eJ n.nodes (n.tell m [i]):=by intro z a;simp[AG.Nd.tell]at a;subst a;exact⟨hi,h⟩
theorem BP(x:NB)(b:2<=x.nodes/\x.nodes<=5)(n:AG.Nd)(a:n.id=x.id)(m:AG.Ms)(i:Nat)(hi:(i:Int)<x.nodes):fP (n.tell m [(i:Int)])=fQ (2^i) ({m with f:=x.id}:AG.Ms).pk x.nodes.toNat:=by rw[vE,a,BS _ i x.nodes.toNat (by omega) (by omega)];rfl
theorem vF(x:NB)(n:AG.Nd)(a:n.id=x.id)(c:n.nodes=x.nodes)(S:Int)(b:(n.d.rc n.d.ep).S=S)(m:AG.Ms):fP (n.tell m n.missing)=fQ (gY S x.id n.ow.e n.ow.q n.oa x.nodes.toNat) ({m with f:=x.id}:AG.Ms).pk x.nodes.toNat:=by rw[vE,xA,a];unfold AG.Nd.missing;rw[a,c,b]
theorem vQ(n:AG.Nd)(m:AG.Ms)(h:Rl {m with f:=n.id}):eJ n.nodes (n.tell m n.missing):=by intro z a;unfold AG.Nd.tell at a;obtain⟨i,hi,rfl⟩:=List.mem_map.1 a;unfold AG.Nd.missing at hi;obtain⟨k,b,rfl⟩:=List.mem_map.1 (List.mem_filter.1 hi).1;have c:=List.mem_range.1 b;exact⟨⟨Int.natCast_nonneg k,by show(k:Int)<n.nodes;omega⟩,h⟩
def gF(P:Pl)(t:Nat)(C:Nat->Prop)(left:Int)(n:Int)(f:AG.Nd×List (Int×AG.Ms))(ok:Bool)(l:Value)(w w':World):Prop:=dW w' w.heap.size l (fP f.2)/\eJ n f.2/\eL P t C left f.1 ok w w'
theorem NX(e b:Int)(c:0<=e/\e<=1000000000000)(a:0<=b/\b<=1000000000000):iH ⟨1,0,e,b,0,0,0,0,0,0,none,0,[]⟩:=⟨qJ 0 e b (by decide) c a,by intro z d;simp at d⟩
theorem pB{d:SD}{t:Nat}(h:BG t d)(a:t<=1000000):0<=d.ep/\d.ep<=1000001:=by have:=h.ne;have:=h.recs;unfold SD.ep;omega
theorem nZ{d:SD}{n:Int}(h:fJ d n)(b:0<d.recs.length):d.dh.E=d.ep/\(0<=d.dh.P/\d.dh.P<=5)/\(0<=d.dh.S/\d.dh.S<=31):=by have a:=h.re (d.recs.length - 1) (by omega);unfold SD.dh;rw[List.getD_eq_getElem?_getD,List.getElem?_eq_getElem (by omega),Option.getD_some];refine⟨?_,a.2⟩;rw[a.1];unfold SD.ep;omega
theorem BQ{d:SD}{n:Int}(h:fJ d n)(a:0<d.recs.length)(E p s:Int):AG.folB (d.du.rc d.du.ep) E p s=kH d.dh.E d.dh.P d.dh.S E p s:=by have b:=nZ h a;unfold AG.folB;rw[nD a];simp[b.2.2]
theorem uX{x:NB}{d:SD}{la lo:List Ky}{rs:List dJ}{tr:AG.Ms}(m:0<=(dG d.di d.ep).pr)(j:0<=x.rf)(hi:0<=x.id)(g:x.down=false)(l:¬1000000000000<x.nb' d)(ok:Bool):(dD x d.du la lo rs tr).prepare ok=bif ok then({dD x (d.du.step (fO x d).ms) [(2,d.ep,x.nb' d,x.id)] lo rs tr with ph:=2,ba:=x.nb' d,fo:={(eH d 1 d.ep (x.nb' d)).ms with f:=x.id}},(dD x d.du la lo rs tr).tell {AG.Ms.nil with k:=1,e:=d.ep,b:=x.nb' d} (dD x d.du la lo rs tr).others) else((dD x d.du la lo rs tr).fall (fO x d).ms,[]):=by
 have r:=rQ (dG d.di d.ep).pr x.rf x.id m j hi;have o:=uP d (x.nb' d) (by unfold NB.nb';omega);have c:=yQ d (x.nb' d) (by unfold NB.nb';omega);unfold iT at c;simp only[Bool.and_eq_true,Bool.not_eq_true',decide_eq_false_iff_not]at c;unfold AG.Nd.prepare;dsimp only;have h:(dD x d.du la lo rs tr).dw (dD x d.du la lo rs tr).rf=x.nb' d:=rfl;rw[h,if_neg l];have a:(dD x d.du la lo rs tr).jc {AG.Ms.nil with k:=1,e:=(dD x d.du la lo rs tr).d.ep,b:=x.nb' d} ok=if ok=true then((dD x d.du la lo rs tr).save (fO x d).ms true,(eH d 1 d.ep (x.nb' d)).ms) else((dD x d.du la lo rs tr).fall (fO x d).ms,.nil):=by
  unfold AG.Nd.jc;dsimp only;rw[if_neg (show¬(dD x d.du la lo rs tr).d.ep<(dD x d.du la lo rs tr).d.ep from Int.lt_irrefl _),if_neg (show¬x.nb' d<(dG (dD x d.du la lo rs tr).d.di (dD x d.du la lo rs tr).d.ep).pr from c.2.1)];rw[if_neg (show¬(1:Int)=3 by decide),o];have n:¬(((dG (dD x d.du la lo rs tr).d.di (dD x d.du la lo rs tr).d.ep).after 1 (x.nb' d) AG.Ms.nil.p AG.Ms.nil.s).qj (dG (dD x d.du la lo rs tr).d.di (dD x d.du la lo rs tr).d.ep)=true):=by have:=c.2.2;intro i;have q:(((dG d.di d.ep).after 1 (x.nb' d) 0 0).qj (dG d.di d.ep))=true:=i;rw[q]at this;exact absurd this (by simp)
  rw[if_neg n];rfl
 cases ok;·rw[if_neg (show¬(false=true) by simp)]at a;rw[a];rw[if_pos (show((dD x d.du la lo rs tr).fall (fO x d).ms).down=true from rfl)];rfl
 ·rw[if_pos rfl]at a;rw[a];rw[if_neg (show¬((dD x d.du la lo rs tr).save (fO x d).ms true).down=true by show¬x.down=true;rw[g];simp)];rfl
end Go.Proofs.YtdcainmlcpafbaaGreatDoor
