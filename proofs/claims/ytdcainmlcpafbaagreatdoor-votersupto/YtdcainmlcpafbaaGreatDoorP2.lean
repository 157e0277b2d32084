import Derived.Test.YtdcainmlcpafbaaGreatDoorP1
import Derived.Test.YtdcainmlcpafbaaGreatDoorJ02
import Derived.Test.YtdcainmlcpafbaaGreatDoorCards
import Derived.Test.YtdcainmlcpafbaaGreatDoorTie
import Derived.Lib.SmallJoins
set_option linter.all false
set_option maxRecDepth 100000
namespace Go.Proofs.YtdcainmlcpafbaaGreatDoor
open Go.ChangeShapes Go.WideShapes Go.ChangeAt Go.RowKit

theorem c9:Tryz.prog.cellsOf 9=1:=by kernel_rfl
theorem pQ:Tryz.prog.cellsOf 22=1:=by kernel_rfl
theorem pR:Tryz.prog.cellsOf 25=2:=by kernel_rfl
theorem uL:Tryz.prog.cellsOf 93=5:=by kernel_rfl
theorem JJ {k:Int} (h:(Lit.int .i64 k).wf=true):-9223372036854775808<=k/\k<=9223372036854775807:=by
 simpa[Lit.wf,IntKind.min,IntKind.max,IntKind.bits,IntKind.signed] using h

theorem wU {α:Type} (P:Nat->α->Prop):∀ n,(∀ i,i<n->∃ r,P i r)->∃ l:List α,l.length=n/\∀ i (h:i<l.length),P i l[i]:=by
 intro n
 induction n with
 | zero=>intro _;exact⟨[],rfl,fun i h=>by simp at h⟩
 | succ n ih=>
  intro h
  obtain⟨l,hl,hp⟩:=ih (fun i hi=>h i (by omega))
  obtain⟨r,hr⟩:=h n (by omega)
  refine⟨l++[r],by simp[hl],fun i hi=>?_⟩
  by_cases hin:i<l.length
  ·rw[List.getElem_append_left hin];exact hp i hin
  ·have:i=n:=by simp at hi;omega
   subst this
   rw[List.getElem_append_right (by omega)]
   simpa[hl] using hr

section
variable {H:Type} {enc:TypeId×Value->H} {W:World} {base:Nat} {spare:Nat->Bool} {held:Bool}
theorem gJ {n:Nat} {u:Value} {y:DataW H×List MemPlace} (hy:DataW.trod enc Tryz.prog W base spare held n 3 [u]=some y):∃ k,u=.int .i64 k/\(-9223372036854775808<=k/\k<=9223372036854775807):=by
 obtain⟨k,hk,_,hw⟩:=DataW.trod_int Tryz.underlying3 hy
 exact⟨k,by simpa using hk,JJ hw⟩
theorem GR {n:Nat} {cs:List Value} {y:DataW H×List MemPlace} (h:DataW.trod enc Tryz.prog W base spare held n 93 cs=some y):∃ o:fE,cs=o.cells/\o.ok:=by
 obtain⟨xs,m,_,_,hcl,hlen,hfs⟩:=DataW.trod_struct Tryz.underlying93 h
 have hlen:xs.length=5:=hlen
 rw[uL] at hcl
 match cs,hcl with
 | [v0,v1,v2,v3,v4],_=>
  have g:∀ i,i<5->∃ y,xs[i]?=some y:=fun i hi=>⟨xs[i],by simp⟩
  have q0:DataW.trod enc Tryz.prog W base spare held m 3 (([v0,v1,v2,v3,v4].drop 0).take (Tryz.prog.cellsOf 3))=xs[0]?:=hfs 0 _ rfl
  have q1:DataW.trod enc Tryz.prog W base spare held m 3 (([v0,v1,v2,v3,v4].drop 1).take (Tryz.prog.cellsOf 3))=xs[1]?:=hfs 1 _ rfl
  have q2:DataW.trod enc Tryz.prog W base spare held m 3 (([v0,v1,v2,v3,v4].drop 2).take (Tryz.prog.cellsOf 3))=xs[2]?:=hfs 2 _ rfl
  have q3:DataW.trod enc Tryz.prog W base spare held m 3 (([v0,v1,v2,v3,v4].drop 3).take (Tryz.prog.cellsOf 3))=xs[3]?:=hfs 3 _ rfl
  have q4:DataW.trod enc Tryz.prog W base spare held m 9 (([v0,v1,v2,v3,v4].drop 4).take (Tryz.prog.cellsOf 9))=xs[4]?:=hfs 4 _ rfl
  rw[c3] at q0 q1 q2 q3
  rw[c9] at q4
  obtain⟨y0,hy0⟩:=g 0 (by omega)
  obtain⟨y1,hy1⟩:=g 1 (by omega)
  obtain⟨y2,hy2⟩:=g 2 (by omega)
  obtain⟨y3,hy3⟩:=g 3 (by omega)
  obtain⟨y4,hy4⟩:=g 4 (by omega)
  rw[hy0] at q0
  rw[hy1] at q1
  rw[hy2] at q2
  rw[hy3] at q3
  rw[hy4] at q4
  obtain⟨K,rfl,bK⟩:=gJ q0
  obtain⟨A,rfl,bA⟩:=gJ q1
  obtain⟨B,rfl,bB⟩:=gJ q2
  obtain⟨C,rfl,bC⟩:=gJ q3
  obtain⟨S,hS,_,hSz⟩:=DataW.trod_string Tryz.underlying9 q4
  obtain rfl:v4=.string S:=by simpa using hS
  exact⟨⟨K,A,B,C,S⟩,rfl,bA,bB,hSz⟩
end

end Go.Proofs.YtdcainmlcpafbaaGreatDoor
