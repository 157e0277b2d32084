import Derived.Test.YtdcainmlcpafbaaGreatDoorJ26
import Derived.Test.YtdcainmlcpafbaaGreatDoorJ27
set_option linter.all false
set_option maxHeartbeats 8000000
set_option maxRecDepth 20000
namespace Go.Proofs.YtdcainmlcpafbaaGreatDoor
open Go.RowKit
open Value renaming int->I,slice->J,pointer->P0
open Tryz renaming prog->pG
open IntKind renaming i64->T
open Option renaming none->Z,some->Y
open Obj renaming cells->G
open Value (bool)
open Value (int slice pointer)
open IntKind (i64)
theorem GM(hSO:cU)(hBW:cV)(hBS:cS)(hLO:fK)(hUO:fJ):tP 4 9 1048576 dB where
 step:=by
  rintro base R n w ⟨K,A,B,C,S⟩ ⟨ao,c,ms,vh,vs,hs,ss,v,es,hI⟩ h1 h2 hok hn;simp only at h1 h2;have hA:=hok.1.1;have hB:=hok.1.2.1;have hS:=hok.2;simp only at hA hB hS;rcases(show K=4∨K=5∨K=6∨K=7∨K=8∨K=9 by omega) with rfl|rfl|rfl|rfl|rfl|rfl
  ·exact GC hSO hBW hBS hLO hUO hI A B C S (by omega)
  ·exact GD hSO hBW hBS hLO hUO hI A B C S (by omega)
  ·exact GE hSO hBW hBS hLO hUO hI A B C S (by omega) hA hB hS
  ·exact GJ hSO hBW hBS hLO hUO hI A B C S (by omega) hA hB hS
  ·exact GL hSO hBW hBS hLO hUO hI A B C S (by omega) hA hB hS
  ·exact GG hSO hBW hBS hLO hUO hI A B C S (by omega) hA hB hS
 whole:=by
  rintro base R n w ⟨ao,c,ms,vh,vs,hs,ss,v,es,hI⟩;refine(CF _ w base R v es hI.led).mono ?_;rintro e w' ⟨rfl,hb⟩;exact⟨rfl,⟨_,_,_,_,_,_,_,_,_,hI.later hb (Nat.le_refl n)⟩,hI.save hb⟩
theorem cX.fresh{W:World}{R:Nat}{gm gr:Value}{am:Option Addr}{cm:Nat}{ms:List aU}(hF:iD W R gm gr)(hgm:gm=J am ms.length cm)(h2:2<=R)(ht:aJ W)(hg:i8 W.heap.size R W am ms)(hmok:∀m∈ms,m.ok)(hml:ms.length<=9223372036854775807):dB W.heap.size R 0 W:=by
 refine⟨am,cm,ms,J Z 0 0,J Z 0 0,[],[],fun _=>J Z 0 0,fun _=>[],h2,ht,(hF.cell 0).trans (by rw[←hgm];rfl),hg,hmok,hml,hF.cell 2,hF.cell 3,World.ownsRow_nil _ _ _ _,World.ownsRow_nil _ _ _ _,by simp,by simp,fun i j hi=>by simp at hi,?_,by simp,by simp,by simp⟩;refine(cD.fresh hF).shift (Nat.le_refl _) (fun g _ _=>rfl) (fun g _ hx=>?_);rcases hx with⟨y,hy,_⟩|hx|hx
 ·simp at hy
 ·simp[Value.ownBlock]at hx
 ·simp[Value.ownBlock]at hx
theorem AU(hSO : cU)(hBW : cV)(hBS : cS)(hLO : fK)(hUO : fJ)(am : Option Addr)(cm : Nat)(ms : List aU)(gr : Value)(ao : Option Addr)(c : Nat)(os : List fE)(w : World)(ht : aJ w)(hl : os.length ≤ 1048576)(hok : ∀o ∈ os, o.okP)(hos : jL w ao os)(hml : ms.length ≤ 9223372036854775807)(hmok : ∀m ∈ ms, m.ok)(hms : kG w am ms):
  Calls pG 6 #[.agg #[.slice am ms.length cm, gr], .slice ao os.length c] w fun r w' => r = .returned (.bool true) ∧ Below w.heap.size w w' := by
 have hb0 := (Below.refl w.heap.size w).alloc (Nat.le_refl _) (Obj.cells #[.slice am ms.length cm, gr] 25)
 have hos0 : jL (w.alloc (Obj.cells #[.slice am ms.length cm, gr] 25)) ao os := by
  rcases hos with h | ⟨g, o, h1, h2, h3⟩
  ·exact .inl h
  ·exact .inr ⟨g, o, h1, Nat.lt_of_lt_of_le h2 hb0.size, fun j hj i hi => (hb0.cell (by exact h2)).trans (h3 j hj i hi)⟩
 have hms0 := hms.later hb0
 have ht2 := ht.two
 have ht0 := ht.below hb0 ht2
 have HG := GM hSO hBW hBS hLO hUO
 have HGG := aA HG
 clear HG hSO hBW hBS hLO hUO
 go_enter Tryz.func6, Tryz.ntmps6
 go_wp2_with fail
 generalize (w.alloc (Obj.cells #[.slice am ms.length cm, gr] 25)) = W0 at*
 have hz0 := hb0.size
 refine (zK 4 9 1048576 dB HGG.out (.slice am ms.length cm) gr ao c os W0 (by omega) hl (by omega) hok hos0 ?_ ?_).mono ?_
 ·intro W hb R X Y hX _ hR hXl _ hXR _ hF hk1 _
  exact cX.fresh (am := some ⟨X, 0, none⟩) (cm := 3) (ms := lO) hF rfl (by omega) (ht0.below hb (by omega)) (ID hXl hXR hk1) IE (by decide)
 ·intro W hb R hR hF
  exact cX.fresh hF rfl (by omega) (ht0.below hb (by omega)) (hms0.goods hb hR) hmok hml
 ·rintro r w1 ⟨rfl, hb1⟩
  have hb2 := hb0.trans (hb1.mono hb0.size)
  go_wp2
  go_ret
  exact ⟨rfl, hb2⟩
end Go.Proofs.YtdcainmlcpafbaaGreatDoor
