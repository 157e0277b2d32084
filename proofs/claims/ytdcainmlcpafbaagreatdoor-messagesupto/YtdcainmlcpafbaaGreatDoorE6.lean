import Derived.Test.YtdcainmlcpafbaaGreatDoorE5
namespace Go.Proofs.YtdcainmlcpafbaaGreatDoor
open Go.RowKit

def inB (n most : Int) : Bool := decide (0 ≤ n ∧ n ≤ most)
set_option maxHeartbeats 400000 in
theorem in_any (n most : Int) (w : World) : Calls Tryz.prog 154 #[.int .i64 n, .int .i64 most] w fun e w' => e = .returned (.bool (inB n most)) ∧ w' = w := by
  have HI : Hid (inB n most = decide (0 ≤ n ∧ n ≤ most)) := rfl
  go_enter Tryz.func154, Tryz.ntmps154
  go_wp2
  all_goals go_ret
  all_goals refine ⟨ret_bool ?_, rfl⟩
  all_goals rw [HI.out]
  all_goals simp
  all_goals omega

def fieldsB (k1 f1 e1 b1 wa1 p1 s1 q1 bl1 v1 k2 f2 e2 b2 wa2 p2 s2 q2 bl2 v2 : Int) : Bool := decide (k1 = k2 ∧ f1 = f2 ∧ e1 = e2 ∧ b1 = b2 ∧ wa1 = wa2 ∧ p1 = p2 ∧ s1 = s2 ∧ q1 = q2 ∧ bl1 = bl2 ∧ v1 = v2)
def sameB (z1 z2 : List Int) (k1 f1 e1 b1 wa1 p1 s1 q1 bl1 v1 k2 f2 e2 b2 wa2 p2 s2 q2 bl2 v2 : Int) : Bool := decide (z1 = z2) && fieldsB k1 f1 e1 b1 wa1 p1 s1 q1 bl1 v1 k2 f2 e2 b2 wa2 p2 s2 q2 bl2 v2
set_option maxHeartbeats 4000000 in
set_option maxRecDepth 20000 in
theorem rsame_any (k1 f1 e1 b1 wa1 p1 s1 q1 bl1 v1 k2 f2 e2 b2 wa2 p2 s2 q2 bl2 v2 : Int) (a1 a2 : Option Addr) (c1 c2 : Nat) (z1 z2 : List Int) (w : World) (hl : z1.length ≤ 9223372036854775807) (h1 : intsAt w a1 z1) (h2 : intsAt w a2 z2) :
    Calls Tryz.prog 105 #[.agg #[.int .i64 k1, .int .i64 f1, .int .i64 e1, .int .i64 b1, .int .i64 wa1, .int .i64 p1, .int .i64 s1, .int .i64 q1, .int .i64 bl1, .int .i64 v1, .slice a1 z1.length c1], .agg #[.int .i64 k2, .int .i64 f2, .int .i64 e2, .int .i64 b2, .int .i64 wa2, .int .i64 p2, .int .i64 s2, .int .i64 q2, .int .i64 bl2, .int .i64 v2, .slice a2 z2.length c2]] w fun r w' => r = .returned (.bool (sameB z1 z2 k1 f1 e1 b1 wa1 p1 s1 q1 bl1 v1 k2 f2 e2 b2 wa2 p2 s2 q2 bl2 v2)) ∧ Below w.heap.size w w' := by
  have HB : Hid (sameB z1 z2 k1 f1 e1 b1 wa1 p1 s1 q1 bl1 v1 k2 f2 e2 b2 wa2 p2 s2 q2 bl2 v2 = (decide (z1 = z2) && decide (k1 = k2 ∧ f1 = f2 ∧ e1 = e2 ∧ b1 = b2 ∧ wa1 = wa2 ∧ p1 = p2 ∧ s1 = s2 ∧ q1 = q2 ∧ bl1 = bl2 ∧ v1 = v2))) := rfl
  have hb0 := ((Below.refl w.heap.size w).alloc (Nat.le_refl _) (Obj.cells #[Value.int IntKind.i64 k1, Value.int IntKind.i64 f1, Value.int IntKind.i64 e1, Value.int IntKind.i64 b1, Value.int IntKind.i64 wa1, Value.int IntKind.i64 p1, Value.int IntKind.i64 s1, Value.int IntKind.i64 q1, Value.int IntKind.i64 bl1, Value.int IntKind.i64 v1, Value.slice a1 z1.length c1] 136)).alloc (by simp) (Obj.cells #[Value.int IntKind.i64 k2, Value.int IntKind.i64 f2, Value.int IntKind.i64 e2, Value.int IntKind.i64 b2, Value.int IntKind.i64 wa2, Value.int IntKind.i64 p2, Value.int IntKind.i64 s2, Value.int IntKind.i64 q2, Value.int IntKind.i64 bl2, Value.int IntKind.i64 v2, Value.slice a2 z2.length c2] 136)
  have h10 := h1.later hb0
  have h20 := h2.later hb0
  by_cases hne : z1.length = z2.length
  · have hlen : ((z1.length : Int) != (z2.length : Int)) = false := by simp [hne]
    have HN : Hid _ := hne
    clear hne
    go_enter Tryz.func105, Tryz.ntmps105
    go_wp2
    have hc1 : ∀ i, ((w.alloc (Obj.cells #[Value.int IntKind.i64 k1, Value.int IntKind.i64 f1, Value.int IntKind.i64 e1, Value.int IntKind.i64 b1, Value.int IntKind.i64 wa1, Value.int IntKind.i64 p1, Value.int IntKind.i64 s1, Value.int IntKind.i64 q1, Value.int IntKind.i64 bl1, Value.int IntKind.i64 v1, Value.slice a1 z1.length c1] 136)).alloc (Obj.cells #[Value.int IntKind.i64 k2, Value.int IntKind.i64 f2, Value.int IntKind.i64 e2, Value.int IntKind.i64 b2, Value.int IntKind.i64 wa2, Value.int IntKind.i64 p2, Value.int IntKind.i64 s2, Value.int IntKind.i64 q2, Value.int IntKind.i64 bl2, Value.int IntKind.i64 v2, Value.slice a2 z2.length c2] 136)).cell? ⟨w.heap.size, i, none⟩ = #[Value.int IntKind.i64 k1, Value.int IntKind.i64 f1, Value.int IntKind.i64 e1, Value.int IntKind.i64 b1, Value.int IntKind.i64 wa1, Value.int IntKind.i64 p1, Value.int IntKind.i64 s1, Value.int IntKind.i64 q1, Value.int IntKind.i64 bl1, Value.int IntKind.i64 v1, Value.slice a1 z1.length c1][i]? := fun i => by
      rw [World.cell?_alloc_past _ _ _ (by simp), World.cell?_alloc_at _ _ _ _ rfl]
    have hc2 : ∀ i, ((w.alloc (Obj.cells #[Value.int IntKind.i64 k1, Value.int IntKind.i64 f1, Value.int IntKind.i64 e1, Value.int IntKind.i64 b1, Value.int IntKind.i64 wa1, Value.int IntKind.i64 p1, Value.int IntKind.i64 s1, Value.int IntKind.i64 q1, Value.int IntKind.i64 bl1, Value.int IntKind.i64 v1, Value.slice a1 z1.length c1] 136)).alloc (Obj.cells #[Value.int IntKind.i64 k2, Value.int IntKind.i64 f2, Value.int IntKind.i64 e2, Value.int IntKind.i64 b2, Value.int IntKind.i64 wa2, Value.int IntKind.i64 p2, Value.int IntKind.i64 s2, Value.int IntKind.i64 q2, Value.int IntKind.i64 bl2, Value.int IntKind.i64 v2, Value.slice a2 z2.length c2] 136)).cell? ⟨w.heap.size + 1, i, none⟩ = #[Value.int IntKind.i64 k2, Value.int IntKind.i64 f2, Value.int IntKind.i64 e2, Value.int IntKind.i64 b2, Value.int IntKind.i64 wa2, Value.int IntKind.i64 p2, Value.int IntKind.i64 s2, Value.int IntKind.i64 q2, Value.int IntKind.i64 bl2, Value.int IntKind.i64 v2, Value.slice a2 z2.length c2][i]? := fun i => World.cell?_alloc_at _ _ _ _ (by simp)
    generalize ((w.alloc (Obj.cells #[Value.int IntKind.i64 k1, Value.int IntKind.i64 f1, Value.int IntKind.i64 e1, Value.int IntKind.i64 b1, Value.int IntKind.i64 wa1, Value.int IntKind.i64 p1, Value.int IntKind.i64 s1, Value.int IntKind.i64 q1, Value.int IntKind.i64 bl1, Value.int IntKind.i64 v1, Value.slice a1 z1.length c1] 136)).alloc (Obj.cells #[Value.int IntKind.i64 k2, Value.int IntKind.i64 f2, Value.int IntKind.i64 e2, Value.int IntKind.i64 b2, Value.int IntKind.i64 wa2, Value.int IntKind.i64 p2, Value.int IntKind.i64 s2, Value.int IntKind.i64 q2, Value.int IntKind.i64 bl2, Value.int IntKind.i64 v2, Value.slice a2 z2.length c2] 136)) = W0 at *
    go_loopw [5] (fun i wr => ∃ (t n : Nat), t ≤ z1.length ∧ i = .int .i64 t ∧ wr = W0.drewN n ∧ z1.take t = z2.take t) (fun i _ => z1.length - (intOf i).toNat)
    case atStart => exact ⟨0, 0, Nat.zero_le _, rfl, rfl, rfl⟩
    case round =>
      obtain ⟨t, n, ht, rfl, rfl, hpre⟩ := hrel
      have HP : Hid _ := hpre
      clear hpre
      by_cases htl : t < z1.length
      · obtain ⟨g1, o1, rfl, _, k1'⟩ := h10.resolve_left (by intro h; subst h; simp at htl)
        obtain ⟨g2, o2, rfl, _, k2'⟩ := h20.resolve_left (by intro h; have hn := HN.out; subst h; simp at hn; subst hn; simp at htl)
        have j1 := k1' t htl
        have j2 := k2' t (HN.out ▸ htl)
        have htl2 : (t : Int) < (z1.length : Int) := by omega
        have htl3 : (t : Int) < (z2.length : Int) := by have hn := HN.out; omega
        have HZ1 : Hid (z1.take (t + 1) = z1.take t ++ [z1[t]]) := by simp [Hid]
        have HZ2 : Hid (z2.take (t + 1) = z2.take t ++ [z2[t]'(HN.out ▸ htl)]) := by simp [Hid]
        have HX1 : Hid (z1[t]? = some z1[t]) := by unfold Hid; simp
        have HX2 : Hid (z2[t]? = some (z2[t]'(HN.out ▸ htl))) := by unfold Hid; simp
        clear k1' k2' h1 h2 h10 h20
        generalize z1[t] = X at *
        generalize z2[t] = Y at *
        by_cases hxy : X = Y
        · subst hxy
          go_wp2
          go_quiet (fail)
          go_wp2
          go_roundw
          case rel => exact ⟨t + 1, _, by omega, by go_num, rfl, by rw [HZ1.out, HZ2.out, HP.out]⟩
          case measure => simp [intOf]; omega
        · have hxy' : (X != Y) = true := by simp [hxy]
          have HF : Hid (sameB z1 z2 k1 f1 e1 b1 wa1 p1 s1 q1 bl1 v1 k2 f2 e2 b2 wa2 p2 s2 q2 bl2 v2 = false) := by
            unfold Hid
            rw [HB.out, decide_eq_false (fun h => hxy (by subst h; have := HX1.out.symm.trans HX2.out; simpa using this))]
            rfl
          go_wp2
          go_quiet (fail)
          go_wp2
          go_ret
          exact ⟨ret_bool HF.out.symm, below_drewN (below_drewN hb0 _) _⟩
      · have HE : Hid (z1 = z2) := by
          have h3 := HP.out
          have hn := HN.out
          rw [List.take_of_length_le (by omega), List.take_of_length_le (by omega)] at h3
          exact h3
        have HS : Hid (sameB z1 z2 k1 f1 e1 b1 wa1 p1 s1 q1 bl1 v1 k2 f2 e2 b2 wa2 p2 s2 q2 bl2 v2 = decide (k1 = k2 ∧ f1 = f2 ∧ e1 = e2 ∧ b1 = b2 ∧ wa1 = wa2 ∧ p1 = p2 ∧ s1 = s2 ∧ q1 = q2 ∧ bl1 = bl2 ∧ v1 = v2)) := by unfold Hid; rw [HB.out, decide_eq_true HE.out]; rfl
        clear h1 h2 h10 h20
        go_wp2
        all_goals go_ret
        all_goals refine ⟨ret_bool ?_, below_drewN hb0 _⟩
        all_goals rw [HS.out]
        all_goals (simp [*] <;> rfl)
  · have hlen : ((z1.length : Int) != (z2.length : Int)) = true := by simp; omega
    have HF : Hid (sameB z1 z2 k1 f1 e1 b1 wa1 p1 s1 q1 bl1 v1 k2 f2 e2 b2 wa2 p2 s2 q2 bl2 v2 = false) := by
      unfold Hid
      rw [HB.out, decide_eq_false (fun h => hne (by rw [h]))]
      rfl
    go_enter Tryz.func105, Tryz.ntmps105
    go_wp2
    go_ret
    exact ⟨ret_bool HF.out.symm, hb0⟩
end Go.Proofs.YtdcainmlcpafbaaGreatDoor
