import Derived.Test.YtdcainmlcpafbaaGreatDoorG14
import Derived.Test.YtdcainmlcpafbaaGreatDoorG15
set_option linter.unusedSimpArgs false
set_option linter.unusedVariables false
namespace Go.Proofs.YtdcainmlcpafbaaGreatDoor
open Go.RowKit

theorem given12 : GivenP 1 2 4194304 InvM where
  step := by
    rintro base R n w ⟨K, A, B, C, S⟩ hI h1 h2 hok hn
    simp only at h1 h2
    refine (step_plain R K A B C S w (by omega) (by omega) (fun b w' => b = true ∧ InvM base R (n + 1) w' ∧ Save base R w w') ?_).mono ?_
    · intro W hb
      obtain ⟨hI', hS'⟩ := hI.later hb (Nat.le_refl n)
      rcases (show K = 1 ∨ K = 2 by omega) with rfl | rfl
      · refine (plain1 base R n A B C S W hI' hn hok.1.1).mono ?_
        rintro e w' ⟨rfl, h3, h4⟩
        exact ⟨true, rfl, rfl, h3, hS'.trans h4⟩
      · refine (plain2 base R n A B C S W hI' hn hok.2).mono ?_
        rintro e w' ⟨rfl, h3, h4⟩
        exact ⟨true, rfl, rfl, h3, hS'.trans h4⟩
    · rintro e w' ⟨b, rfl, rfl, h3, h4⟩
      exact ⟨rfl, h3, h4⟩
  whole := by
    intro base R n w hI
    obtain ⟨ao, c, ms, vb, vi, eb, ei, _, _, _, _, h5, _⟩ := hI.here
    refine (whole_any (fun _ => False) w base R vb vi eb ei h5).mono ?_
    rintro e w' ⟨rfl, hb⟩
    obtain ⟨h1, h2⟩ := hI.later hb (Nat.le_refl n)
    exact ⟨rfl, h1, h2⟩
theorem Books.fresh {W : World} {R : Nat} {gm gr : Value} (h : Fresh W R gm gr) : Books (fun _ => False) W W.heap.size R (.slice none 0 0) (.slice none 0 0) [] [] := by
  have hc := h.cell
  exact { c4 := hc 4, c5 := hc 5, c6 := hc 6, c7 := hc 7, c8 := hc 8, free := h.free, lt := h.lt, le := Nat.le_refl _, ob := World.ownsRow_nil _ _ _ _, oi := World.ownsRow_nil _ _ _ _, ne := .inl rfl, nb := fun i hi => by simp at hi, ni := fun i hi => by simp at hi, okb := fun e he => by simp at he, oki := fun e he => by simp at he, xb := fun _ _ hf => hf, xi := fun _ _ hf => hf, xR := fun hf => hf, small := by simp }
/-- Messages as they lie in memory. -/
structure MsgsAt (w : World) (ao : Option Addr) (ms : List MsgD) : Prop where
  arr : ms = [] ∨ ∃ g off, ao = some ⟨g, off, none⟩ ∧ g < w.heap.size ∧ ∀ j (h : j < ms.length) i, i < 11 → w.cell? ⟨g, off + j * 11 + i, none⟩ = some (ms[j].cells.getD i undef)
  vals : ∀ m ∈ ms, intsAt w m.a m.zs
theorem MsgsAt.later {w W : World} {ao : Option Addr} {ms : List MsgD} (h : MsgsAt w ao ms) (hb : Below w.heap.size w W) : MsgsAt W ao ms := by
  refine ⟨?_, fun m hm => (h.vals m hm).later hb⟩
  rcases h.arr with h0 | ⟨g, off, h1, h2, h3⟩
  · exact .inl h0
  · exact .inr ⟨g, off, h1, Nat.lt_of_lt_of_le h2 hb.size, fun j hj i hi => (hb.cell (by exact h2)).trans (h3 j hj i hi)⟩
theorem MsgsAt.goods {w W : World} {R : Nat} {ao : Option Addr} {ms : List MsgD} (h : MsgsAt w ao ms) (hb : Below w.heap.size w W) (hR : w.heap.size ≤ R) : GoodsAt W.heap.size R W ao ms := by
  have hs := hb.size
  refine ⟨?_, fun m hm => ?_⟩
  · rcases h.arr with h0 | ⟨g, off, h1, h2, h3⟩
    · exact .inl h0
    · exact .inr ⟨g, off, h1, by omega, by omega, fun j hj i hi => (hb.cell (by exact h2)).trans (h3 j hj i hi)⟩
  · rcases h.vals m hm with h0 | ⟨g, off, h1, h2, h3⟩
    · exact .inl h0
    · exact .inr ⟨g, off, h1, by omega, by omega, fun j hj => (hb.cell (by exact h2)).trans (h3 j hj)⟩
def kms : List MsgD := [⟨4, 1, 2, 7, 0, 0, 0, 0, 0, 0, none, 0, []⟩, ⟨2, 0, 0, 6, 0, 0, 0, 0, 0, 0, none, 0, []⟩, ⟨4, 0, 0, 6, 0, 0, 0, 0, 0, 0, none, 0, []⟩]
theorem kms_at {W : World} {X R : Nat} (hX : X < W.heap.size) (hne : X ≠ R) (h : ∀ i, W.cell? ⟨X, i, none⟩ = knownMsgs[i]?) : GoodsAt W.heap.size R W (some ⟨X, 0, none⟩) kms := by
  refine ⟨.inr ⟨X, 0, rfl, hX, hne, ?_⟩, ?_⟩
  · intro j hj i hi
    rw [h]
    simp only [kms, List.length_cons, List.length_nil] at hj
    rcases (show j = 0 ∨ j = 1 ∨ j = 2 by omega) with rfl | rfl | rfl
    all_goals (rcases (show i = 0 ∨ i = 1 ∨ i = 2 ∨ i = 3 ∨ i = 4 ∨ i = 5 ∨ i = 6 ∨ i = 7 ∨ i = 8 ∨ i = 9 ∨ i = 10 by omega) with rfl | rfl | rfl | rfl | rfl | rfl | rfl | rfl | rfl | rfl | rfl)
    all_goals rfl
  · intro m hm
    left
    simp only [kms, List.mem_cons, List.not_mem_nil, or_false] at hm
    rcases hm with rfl | rfl | rfl <;> rfl
theorem kms_ok : ∀ m ∈ kms, m.ok := by
  intro m hm
  simp only [kms, List.mem_cons, List.not_mem_nil, or_false] at hm
  rcases hm with rfl | rfl | rfl <;> (refine ⟨?_, ?_, ?_⟩ <;> simp)
set_option maxHeartbeats 4000000 in
set_option maxRecDepth 20000 in
theorem messages_any (am : Option Addr) (cm : Nat) (ms : List MsgD) (gr : Value) (ao : Option Addr) (c : Nat) (os : List OpD) (w : World) (ht : Tabs w) (hl : os.length ≤ 4194304) (hok : ∀ o ∈ os, o.okP) (hos : opsAt w ao os)
    (hml : ms.length ≤ 9223372036854775807) (hmok : ∀ m ∈ ms, m.ok) (hms : MsgsAt w am ms) :
    Calls Tryz.prog 3 #[.agg #[.slice am ms.length cm, gr], .slice ao os.length c] w fun r w' => r = .returned (.bool true) ∧ Below w.heap.size w w' := by
  have hb0 := (Below.refl w.heap.size w).alloc (Nat.le_refl _) (Obj.cells #[.slice am ms.length cm, gr] 25)
  have hos0 : opsAt (w.alloc (Obj.cells #[.slice am ms.length cm, gr] 25)) ao os := by
    rcases hos with h | ⟨g, o, h1, h2, h3⟩
    · exact .inl h
    · exact .inr ⟨g, o, h1, Nat.lt_of_lt_of_le h2 hb0.size, fun j hj i hi => (hb0.cell (by exact h2)).trans (h3 j hj i hi)⟩
  have hms0 := hms.later hb0
  have ht2 := ht.two
  have ht0 := ht.below hb0 ht2
  go_enter Tryz.func3, Tryz.ntmps3
  go_wp2_with fail
  generalize (w.alloc (Obj.cells #[.slice am ms.length cm, gr] 25)) = W0 at *
  have hz0 := hb0.size
  refine (plays_genP 1 2 4194304 InvM given12 (.slice am ms.length cm) gr ao c os W0 (by omega) hl (by omega) hok hos0 ?_ ?_).mono ?_
  · intro W hb R X Y hX _ hR hXl _ hXR _ hF hk1 _
    exact ⟨by omega, ht0.below hb (by omega), some ⟨X, 0, none⟩, 3, kms, _, _, [], [], hF.cell 0, kms_at hXl hXR hk1, kms_ok, by decide, Books.fresh hF, by simp⟩
  · intro W hb R hR hF
    exact ⟨by omega, ht0.below hb (by omega), am, cm, ms, _, _, [], [], hF.cell 0, hms0.goods hb hR, hmok, hml, Books.fresh hF, by simp⟩
  · rintro r w1 ⟨rfl, hb1⟩
    have hb2 := hb0.trans (hb1.mono hb0.size)
    go_wp2
    go_ret
    exact ⟨rfl, hb2⟩
end Go.Proofs.YtdcainmlcpafbaaGreatDoor
