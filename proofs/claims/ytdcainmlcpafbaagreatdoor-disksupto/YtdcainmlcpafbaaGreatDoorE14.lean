import Derived.Test.YtdcainmlcpafbaaGreatDoorE13
set_option linter.unusedSimpArgs false
set_option linter.unusedVariables false
namespace Go.Proofs.YtdcainmlcpafbaaGreatDoor
open Go.RowKit

structure InvF (base R n : Nat) (w : World) : Prop where
  lt : R < base
  le : base ≤ w.heap.size
  here : ∃ gm ao c rs, (∀ i, w.cell? ⟨R, i, none⟩ = (freshV gm (.slice ao rs.length c))[i]?) ∧ recsAt w ao rs ∧ (∀ r ∈ rs, r.ok) ∧ rs.length ≤ 9223372036854775807
theorem InvF.later {base R n m : Nat} {w w' : World} (h : InvF base R n w) (hb : Below w.heap.size w w') : InvF base R m w' := by
  obtain ⟨gm, ao, c, rs, h1, h2, h3, h4⟩ := h.here
  exact ⟨h.lt, Nat.le_trans h.le hb.size, gm, ao, c, rs, fun i => (hb.cell (by exact Nat.lt_of_lt_of_le h.lt h.le)).trans (h1 i), h2.later hb, h3, h4⟩
theorem given3 (lim : Nat) : Given 3 3 lim InvF where
  step := by
    intro base R n w o hI h1 h2 hok _
    obtain ⟨K, A, B, C, S⟩ := o
    simp only at h1 h2
    obtain rfl : K = 3 := by omega
    refine (step_plain R 3 A B C S w (by omega) (by omega) (fun b w' => b = true ∧ InvF base R (n + 1) w' ∧ Save base R w w') ?_).mono ?_
    · intro W hb
      have hI' := hI.later (m := n) hb
      obtain ⟨gm, ao, c, rs, h1, h2, h3, h4⟩ := hI'.here
      refine (plain3 R gm ao c rs A B C S W (Nat.lt_of_lt_of_le hI'.lt hI'.le) h1 h2 h3 h4 hok.1 hok.2.1).mono ?_
      rintro e w' ⟨rfl, hb'⟩
      exact ⟨true, rfl, rfl, hI'.later hb', (Save.of_below hb hI.le).trans (Save.of_below hb' hI'.le)⟩
    · rintro e w' ⟨b, rfl, rfl, h1, h2⟩
      exact ⟨rfl, h1, h2⟩
  whole := by
    intro base R n w hI
    obtain ⟨gm, ao, c, rs, h1, h2, h3, h4⟩ := hI.here
    refine (whole_none R w (h1 4) (h1 5) (h1 6) (h1 7) (h1 8)).mono ?_
    rintro e w' ⟨rfl, rfl⟩
    exact ⟨rfl, hI, Save.refl _ _ _⟩

theorem knownRecs_at {W : World} {Y : Nat} (hY : Y < W.heap.size) (h : ∀ i, W.cell? ⟨Y, i, none⟩ = knownRecs[i]?) : recsAt W (some ⟨Y, 0, none⟩) [⟨0, 0, 7⟩, ⟨1, 2, 6⟩] := by
  refine .inr ⟨Y, 0, rfl, hY, ?_⟩
  intro j hj i hi
  rw [h]
  simp only [List.length_cons, List.length_nil] at hj
  rcases (show j = 0 ∨ j = 1 by omega) with rfl | rfl
  all_goals (rcases (show i = 0 ∨ i = 1 ∨ i = 2 by omega) with rfl | rfl | rfl)
  all_goals rfl

set_option maxHeartbeats 4000000 in
set_option maxRecDepth 20000 in
theorem followers_any (gm : Value) (ar : Option Addr) (cr : Nat) (rs : List RecD) (ao : Option Addr) (c : Nat) (os : List OpD) (w : World) (hl : os.length ≤ 9223372036854775807) (hok : ∀ o ∈ os, o.ok) (hos : opsAt w ao os)
    (hlr : rs.length ≤ 9223372036854775807) (hrok : ∀ r ∈ rs, r.ok) (hrs : recsAt w ar rs) :
    Calls Tryz.prog 4 #[.agg #[gm, .slice ar rs.length cr], .slice ao os.length c] w fun r w' => r = .returned (.bool true) ∧ Below w.heap.size w w' := by
  have hb0 := (Below.refl w.heap.size w).alloc (Nat.le_refl _) (Obj.cells #[gm, .slice ar rs.length cr] 25)
  have hos0 : opsAt (w.alloc (Obj.cells #[gm, .slice ar rs.length cr] 25)) ao os := by
    rcases hos with h | ⟨g, o, h1, h2, h3⟩
    · exact .inl h
    · exact .inr ⟨g, o, h1, Nat.lt_of_lt_of_le h2 hb0.size, fun j hj i hi => (hb0.cell (by exact h2)).trans (h3 j hj i hi)⟩
  have hrs0 := hrs.later hb0
  go_enter Tryz.func4, Tryz.ntmps4
  go_wp2_with fail
  generalize (w.alloc (Obj.cells #[gm, .slice ar rs.length cr] 25)) = W0 at *
  refine (plays_gen 3 3 (os.length + 14) InvF (given3 _) gm (.slice ar rs.length cr) ao c os W0 (by omega) (by omega) hl hok hos0 ?_ ?_).mono ?_
  · intro W hb R X Y _ _ hR _ hY _ _ hF _ hk2
    exact ⟨hF.lt, Nat.le_refl _, _, some ⟨Y, 0, none⟩, 2, [⟨0, 0, 7⟩, ⟨1, 2, 6⟩], hF.cell, knownRecs_at hY hk2, by intro r hr; simp at hr; rcases hr with rfl | rfl <;> (refine ⟨?_, ?_, ?_⟩ <;> simp), by simp⟩
  · intro W hb R hR hF
    exact ⟨hF.lt, Nat.le_refl _, gm, ar, cr, rs, hF.cell, hrs0.later hb, hrok, hlr⟩
  · rintro r w1 ⟨rfl, hb1⟩
    have hb2 := hb0.trans (hb1.mono hb0.size)
    go_wp2
    go_ret
    exact ⟨rfl, hb2⟩
end Go.Proofs.YtdcainmlcpafbaaGreatDoor
