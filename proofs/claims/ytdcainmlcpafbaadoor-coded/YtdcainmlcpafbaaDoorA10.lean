import Derived.Test.YtdcainmlcpafbaaDoorA8
namespace Go.Proofs.YtdcainmlcpafbaaDoor
open Go.RowKit

set_option maxHeartbeats 1000000 in
theorem same_yes (k f e b wa p s q bl v : Int) (a1 a2 : Option Addr) (c1 c2 : Nat) (zs : List Int) (w : World) (hl : zs.length ≤ 4) (h1 : intsAt w a1 zs) (h2 : intsAt w a2 zs) :
    Calls Tryd.prog 8 #[.agg #[.int .i64 k, .int .i64 f, .int .i64 e, .int .i64 b, .int .i64 wa, .int .i64 p, .int .i64 s, .int .i64 q, .int .i64 bl, .int .i64 v, .slice a1 zs.length c1], .agg #[.int .i64 k, .int .i64 f, .int .i64 e, .int .i64 b, .int .i64 wa, .int .i64 p, .int .i64 s, .int .i64 q, .int .i64 bl, .int .i64 v, .slice a2 zs.length c2]] w fun r w' =>
      r = .returned (.bool true) ∧ Below w.heap.size w w' := by
  have hb0 := ((Below.refl w.heap.size w).alloc (Nat.le_refl _) (Obj.cells #[Value.int IntKind.i64 k, Value.int IntKind.i64 f, Value.int IntKind.i64 e, Value.int IntKind.i64 b, Value.int IntKind.i64 wa, Value.int IntKind.i64 p, Value.int IntKind.i64 s, Value.int IntKind.i64 q, Value.int IntKind.i64 bl, Value.int IntKind.i64 v, Value.slice a1 zs.length c1] 24)).alloc (by simp) (Obj.cells #[Value.int IntKind.i64 k, Value.int IntKind.i64 f, Value.int IntKind.i64 e, Value.int IntKind.i64 b, Value.int IntKind.i64 wa, Value.int IntKind.i64 p, Value.int IntKind.i64 s, Value.int IntKind.i64 q, Value.int IntKind.i64 bl, Value.int IntKind.i64 v, Value.slice a2 zs.length c2] 24)
  have h10 := h1.later hb0
  have h20 := h2.later hb0
  go_enter Tryd.func8, Tryd.ntmps8
  go_wp2
  have hc1 : ∀ i, ((w.alloc (Obj.cells #[Value.int IntKind.i64 k, Value.int IntKind.i64 f, Value.int IntKind.i64 e, Value.int IntKind.i64 b, Value.int IntKind.i64 wa, Value.int IntKind.i64 p, Value.int IntKind.i64 s, Value.int IntKind.i64 q, Value.int IntKind.i64 bl, Value.int IntKind.i64 v, Value.slice a1 zs.length c1] 24)).alloc (Obj.cells #[Value.int IntKind.i64 k, Value.int IntKind.i64 f, Value.int IntKind.i64 e, Value.int IntKind.i64 b, Value.int IntKind.i64 wa, Value.int IntKind.i64 p, Value.int IntKind.i64 s, Value.int IntKind.i64 q, Value.int IntKind.i64 bl, Value.int IntKind.i64 v, Value.slice a2 zs.length c2] 24)).cell? ⟨w.heap.size, i, none⟩ = #[Value.int IntKind.i64 k, Value.int IntKind.i64 f, Value.int IntKind.i64 e, Value.int IntKind.i64 b, Value.int IntKind.i64 wa, Value.int IntKind.i64 p, Value.int IntKind.i64 s, Value.int IntKind.i64 q, Value.int IntKind.i64 bl, Value.int IntKind.i64 v, Value.slice a1 zs.length c1][i]? := fun i => by
    rw [World.cell?_alloc_past _ _ _ (by simp), World.cell?_alloc_at _ _ _ _ rfl]
  have hc2 : ∀ i, ((w.alloc (Obj.cells #[Value.int IntKind.i64 k, Value.int IntKind.i64 f, Value.int IntKind.i64 e, Value.int IntKind.i64 b, Value.int IntKind.i64 wa, Value.int IntKind.i64 p, Value.int IntKind.i64 s, Value.int IntKind.i64 q, Value.int IntKind.i64 bl, Value.int IntKind.i64 v, Value.slice a1 zs.length c1] 24)).alloc (Obj.cells #[Value.int IntKind.i64 k, Value.int IntKind.i64 f, Value.int IntKind.i64 e, Value.int IntKind.i64 b, Value.int IntKind.i64 wa, Value.int IntKind.i64 p, Value.int IntKind.i64 s, Value.int IntKind.i64 q, Value.int IntKind.i64 bl, Value.int IntKind.i64 v, Value.slice a2 zs.length c2] 24)).cell? ⟨w.heap.size + 1, i, none⟩ = #[Value.int IntKind.i64 k, Value.int IntKind.i64 f, Value.int IntKind.i64 e, Value.int IntKind.i64 b, Value.int IntKind.i64 wa, Value.int IntKind.i64 p, Value.int IntKind.i64 s, Value.int IntKind.i64 q, Value.int IntKind.i64 bl, Value.int IntKind.i64 v, Value.slice a2 zs.length c2][i]? := fun i => World.cell?_alloc_at _ _ _ _ (by simp)
  generalize ((w.alloc (Obj.cells #[Value.int IntKind.i64 k, Value.int IntKind.i64 f, Value.int IntKind.i64 e, Value.int IntKind.i64 b, Value.int IntKind.i64 wa, Value.int IntKind.i64 p, Value.int IntKind.i64 s, Value.int IntKind.i64 q, Value.int IntKind.i64 bl, Value.int IntKind.i64 v, Value.slice a1 zs.length c1] 24)).alloc (Obj.cells #[Value.int IntKind.i64 k, Value.int IntKind.i64 f, Value.int IntKind.i64 e, Value.int IntKind.i64 b, Value.int IntKind.i64 wa, Value.int IntKind.i64 p, Value.int IntKind.i64 s, Value.int IntKind.i64 q, Value.int IntKind.i64 bl, Value.int IntKind.i64 v, Value.slice a2 zs.length c2] 24)) = W0 at *
  go_loopw [5] (fun i wr => ∃ (t n : Nat), t ≤ zs.length ∧ i = .int .i64 t ∧ wr = W0.drewN n) (fun i _ => zs.length - (intOf i).toNat)
  case atStart => exact ⟨0, 0, Nat.zero_le _, rfl, rfl⟩
  case round =>
    obtain ⟨t, n, ht, rfl, rfl⟩ := hrel
    by_cases htl : t < zs.length
    · obtain ⟨g1, o1, rfl, _, k1⟩ := h10.resolve_left (by intro h; subst h; simp at htl)
      obtain ⟨g2, o2, rfl, _, k2⟩ := h20.resolve_left (by intro h; subst h; simp at htl)
      have j1 := k1 t htl
      have j2 := k2 t htl
      have htl2 : (t : Int) < (zs.length : Int) := by omega
      clear k1 k2 h1 h2 h10 h20
      generalize zs[t] = Z at *
      go_wp2
      go_quiet (fail)
      go_wp2
      go_roundw
      case rel => exact ⟨t + 1, _, by omega, by go_num, rfl⟩
      case measure => simp [intOf]; omega
    · clear h1 h2 h10 h20
      go_wp2
      go_ret
      exact ⟨rfl, below_drewN hb0 _⟩
end Go.Proofs.YtdcainmlcpafbaaDoor
