import Derived.Test.YtdcainmlcpafbaaGreatDoorE8
set_option linter.unusedSimpArgs false
set_option linter.unusedVariables false
namespace Go.Proofs.YtdcainmlcpafbaaGreatDoor
open Go.RowKit

theorem str_tail (n : Int) : (strOf (be n 8)).extract 4 8 = strOf (be n 4) := rfl
theorem toNat_byte (k : Int) (h0 : 0 ≤ k) (h1 : k < 256) : ((UInt8.ofNat k.toNat).toNat : Int) = k := by
  rw [UInt8.toNat_ofNat']; omega
set_option maxHeartbeats 40000000 in
set_option maxRecDepth 20000 in
theorem laid_any (k f e b wa p s q bl v : Int) (a : Option Addr) (c : Nat) (zs : List Int) (w : World) (hk1 : 1 ≤ k) (hk2 : k ≤ 10) (hf0 : 0 ≤ f) (hf : f < 5) (hz4 : zs.length ≤ 4) (hz9 : k ≠ 9 → zs = []) (hin : intsAt w a zs) :
    Calls Tryz.prog 96 #[.agg #[.int .i64 k, .int .i64 f, .int .i64 e, .int .i64 b, .int .i64 wa, .int .i64 p, .int .i64 s, .int .i64 q, .int .i64 bl, .int .i64 v, .slice a zs.length c]] w fun r w' => r = .returned (.string (strOf (encOf k.toNat f.toNat [0, e, b, wa, p, s, q, bl, v, (zs.length : Int)] zs))) ∧ Below w.heap.size w w' := by
  have hb0 := (Below.refl w.heap.size w).alloc (Nat.le_refl _) (Obj.cells #[Value.int IntKind.i64 k, Value.int IntKind.i64 f, Value.int IntKind.i64 e, Value.int IntKind.i64 b, Value.int IntKind.i64 wa, Value.int IntKind.i64 p, Value.int IntKind.i64 s, Value.int IntKind.i64 q, Value.int IntKind.i64 bl, Value.int IntKind.i64 v, Value.slice a zs.length c] 136)
  have hc0 : ∀ i, (w.alloc (Obj.cells #[Value.int IntKind.i64 k, Value.int IntKind.i64 f, Value.int IntKind.i64 e, Value.int IntKind.i64 b, Value.int IntKind.i64 wa, Value.int IntKind.i64 p, Value.int IntKind.i64 s, Value.int IntKind.i64 q, Value.int IntKind.i64 bl, Value.int IntKind.i64 v, Value.slice a zs.length c] 136)).cell? ⟨w.heap.size, i, none⟩ = #[Value.int IntKind.i64 k, Value.int IntKind.i64 f, Value.int IntKind.i64 e, Value.int IntKind.i64 b, Value.int IntKind.i64 wa, Value.int IntKind.i64 p, Value.int IntKind.i64 s, Value.int IntKind.i64 q, Value.int IntKind.i64 bl, Value.int IntKind.i64 v, Value.slice a zs.length c][i]? := fun i => World.cell?_alloc_at _ _ _ _ rfl
  have hs0 : (w.alloc (Obj.cells #[Value.int IntKind.i64 k, Value.int IntKind.i64 f, Value.int IntKind.i64 e, Value.int IntKind.i64 b, Value.int IntKind.i64 wa, Value.int IntKind.i64 p, Value.int IntKind.i64 s, Value.int IntKind.i64 q, Value.int IntKind.i64 bl, Value.int IntKind.i64 v, Value.slice a zs.length c] 136)).heap.size = w.heap.size + 1 := by simp
  have hcv : ∀ (W : World) (X : Nat), W.cell? ⟨X, 0, none⟩ = some (.int .u8 k) → W.cell? ⟨X, 1, none⟩ = some (.int .u8 f) → (convert 148 9 (.slice (some ⟨X, 0, none⟩) 2 2)).run Tryz.prog W = .ok (.string (strOf [UInt8.ofNat k.toNat, UInt8.ofNat f.toNat])) W := fun W X hx hy =>
    conv2 W X _ _ (by rw [hx, toNat_byte k (by omega) (by omega)]) (by rw [hy, toNat_byte f (by omega) (by omega)])
  have hsz : (strOf [UInt8.ofNat k.toNat, UInt8.ofNat f.toNat]).size + (strOf (be e 8)).size ≤ 16 := by rw [strOf_size, strOf_size, be_length]; simp
  have hm1 : IntKind.u8.wrap k = k := by rw [IntKind.wrap_u8]; omega
  have hm2 : IntKind.u8.wrap f = f := by rw [IntKind.wrap_u8]; omega
  have hm3 : k % 256 = k := by omega
  have hm4 : f % 256 = f := by omega
  go_enter Tryz.func96, Tryz.ntmps96
  go_wp2
  generalize (w.alloc (Obj.cells #[Value.int IntKind.i64 k, Value.int IntKind.i64 f, Value.int IntKind.i64 e, Value.int IntKind.i64 b, Value.int IntKind.i64 wa, Value.int IntKind.i64 p, Value.int IntKind.i64 s, Value.int IntKind.i64 q, Value.int IntKind.i64 bl, Value.int IntKind.i64 v, Value.slice a zs.length c] 136)) = W0 at *
  go_cut [3] from 8 to 19 (fun x wc => x = .string (strOf ([UInt8.ofNat k.toNat, UInt8.ofNat f.toNat] ++ be e 8)) ∧ Below w.heap.size w wc ∧ w.heap.size < wc.heap.size ∧ ∀ i, wc.cell? ⟨w.heap.size, i, none⟩ = #[Value.int IntKind.i64 k, Value.int IntKind.i64 f, Value.int IntKind.i64 e, Value.int IntKind.i64 b, Value.int IntKind.i64 wa, Value.int IntKind.i64 p, Value.int IntKind.i64 s, Value.int IntKind.i64 q, Value.int IntKind.i64 bl, Value.int IntKind.i64 v, Value.slice a zs.length c][i]?)
  case first =>
    have HC0 : Hid _ := hc0
    have g0 := hc0 0
    have g1 := hc0 1
    have g2 := hc0 2
    simp at g0 g1 g2
    have hs1 : w.heap.size < W0.heap.size := by omega
    have hbr := Below.refl (w.heap.size + 1) W0
    clear hc0
    refine wp_region_held_drew (S := (fun w' => w.heap.size < w'.heap.size ∧ Below (w.heap.size + 1) W0 w' ∧ w'.cell? ⟨w.heap.size, 0, none⟩ = some (.int .i64 k) ∧ w'.cell? ⟨w.heap.size, 1, none⟩ = some (.int .i64 f) ∧ w'.cell? ⟨w.heap.size, 2, none⟩ = some (.int .i64 e))) (by kernel_rfl) (by (try dsimp only); and_intros <;> first | assumption | omega | (simp; omega) | (exact Below.drew (by assumption)) | (exact Below.drew (Below.alloc (by assumption) (by omega) _)) | (exact Below.alloc (by assumption) (by omega) _) | (simp [*]; done) | go_keep) (fun hHeld => ?_)
    refine wpAnyH_take (i := 0) (v := ?_) rfl (by kernel_rfl) (by kernel_rfl) (by kernel_rfl) (fun _ _ _ h => h) (Or.inl ⟨by rfl, ?_⟩) (by assumption) ?_
    rotate_left
    · intro w hSw; (try dsimp only at hSw); go_simp; (try with_reducible rfl)
    try simp only [Act.put, List.setIfInBounds_toArray, List.set_cons_zero, List.set_cons_succ]
    refine wpAnyH_take (i := 1) (v := ?_) rfl (by kernel_rfl) (by kernel_rfl) (by kernel_rfl) (fun _ _ _ h => h) (Or.inl ⟨by rfl, ?_⟩) (by assumption) ?_
    rotate_left
    · intro w hSw; (try dsimp only at hSw); go_simp; (try with_reducible rfl)
    try simp only [Act.put, List.setIfInBounds_toArray, List.set_cons_zero, List.set_cons_succ]
    refine wpAnyH_take (i := 2) (v := ?_) rfl (by kernel_rfl) (by kernel_rfl) (by kernel_rfl) (fun _ _ _ h => h) (Or.inl ⟨by rfl, ?_⟩) (by assumption) ?_
    rotate_left
    · intro w hSw; (try dsimp only at hSw); go_simp; (try with_reducible rfl)
    try simp only [Act.put, List.setIfInBounds_toArray, List.set_cons_zero, List.set_cons_succ]
    refine wpAnyH_take (i := 3) (v := ?_) rfl (by kernel_rfl) (by kernel_rfl) (by kernel_rfl) (fun _ _ _ h => h) (Or.inl ⟨by rfl, ?_⟩) (by assumption) ?_
    rotate_left
    · intro w hSw; (try dsimp only at hSw); go_simp; (try with_reducible rfl)
    try simp only [Act.put, List.setIfInBounds_toArray, List.set_cons_zero, List.set_cons_succ]
    refine wpAnyH_take (i := 4) (v := ?_) rfl (by kernel_rfl) (by kernel_rfl) (by kernel_rfl) (fun _ _ _ h => h) (Or.inl ⟨by rfl, ?_⟩) (by assumption) ?_
    rotate_left
    · intro w hSw; (try dsimp only at hSw); go_simp; (try with_reducible rfl)
    try simp only [Act.put, List.setIfInBounds_toArray, List.set_cons_zero, List.set_cons_succ]
    refine wpAnyH_take (i := 5) (v := ?_) rfl (by kernel_rfl) (by kernel_rfl) (by kernel_rfl) (fun _ _ _ h => h) (Or.inl ⟨by rfl, ?_⟩) (by assumption) ?_
    rotate_left
    · intro w hSw; (try dsimp only at hSw); go_simp; (try with_reducible rfl)
    try simp only [Act.put, List.setIfInBounds_toArray, List.set_cons_zero, List.set_cons_succ]
    refine wpAnyH_take (i := 8) (v := ?_) rfl (by kernel_rfl) (by kernel_rfl) (by kernel_rfl) (fun _ _ _ h => h) (Or.inl ⟨by rfl, ?_⟩) (by assumption) ?_
    rotate_left
    · intro w hSw; (try dsimp only at hSw); go_simp; (try with_reducible rfl)
    try simp only [Act.put, List.setIfInBounds_toArray, List.set_cons_zero, List.set_cons_succ]
    refine wpAnyH_take (i := 9) (v := ?_) rfl (by kernel_rfl) (by kernel_rfl) (by kernel_rfl) (fun _ _ _ h => h) (Or.inl ⟨by rfl, ?_⟩) (by assumption) ?_
    rotate_left
    · intro w hSw; (try dsimp only at hSw); go_simp; (try with_reducible rfl)
    try simp only [Act.put, List.setIfInBounds_toArray, List.set_cons_zero, List.set_cons_succ]
    refine wpAnyH_ready (rs := [6, 10]) (by kernel_rfl) (by simp) ?_
    refine AllReadyH.cons rfl (fun K hK => ?_) ?_
    · go_simp
      refine hK.out _ _ ?_ (fun hHeld => ?_)
      · (try dsimp only); and_intros <;> first | assumption | omega | (simp; omega) | (exact Below.drew (by assumption)) | (exact Below.drew (Below.alloc (by assumption) (by omega) _)) | (exact Below.alloc (by assumption) (by omega) _) | (simp [*]; done) | go_keep
      clear hK K
      try simp only [Act.put, List.setIfInBounds_toArray, List.set_cons_zero, List.set_cons_succ]
      refine wpAnyH_ready (rs := [7, 10]) (by kernel_rfl) (by simp) ?_
      refine AllReadyH.cons rfl (fun K hK => ?_) ?_
      · go_simp
        refine hK.out _ _ ?_ (fun hHeld => ?_)
        · (try dsimp only); and_intros <;> first | assumption | omega | (simp; omega) | (exact Below.drew (by assumption)) | (exact Below.drew (Below.alloc (by assumption) (by omega) _)) | (exact Below.alloc (by assumption) (by omega) _) | (simp [*]; done) | go_keep
        clear hK K
        try simp only [Act.put, List.setIfInBounds_toArray, List.set_cons_zero, List.set_cons_succ]
        refine wpAnyH_ready (rs := [10]) (by kernel_rfl) (by simp) ?_
        refine AllReadyH.cons rfl (fun K hK => ?_) ?_
        · go_simp
          (refine (eight_any _ _).mono ?_; rintro r w' ⟨rfl, hb⟩; have hsz' := hb.size; have hbc := fun i => hb.cell (p := ⟨w.heap.size, i, none⟩) (by first | assumption | (simp; omega)); (try have hx0 : w'.cell? ⟨w.heap.size + 1, 0, none⟩ = some (.int .u8 k) := (hb.cell (by simp; omega)).trans (World.cell?_alloc_at _ _ _ _ (by omega))); (try have hx1 : w'.cell? ⟨w.heap.size + 1, 1, none⟩ = some (.int .u8 f) := (hb.cell (by simp; omega)).trans (World.cell?_alloc_at _ _ _ _ (by omega))); have hbb : Below (w.heap.size + 1) W0 w' := Below.trans (by first | exact hbr | exact Below.drew hbr | exact Below.drew (Below.alloc hbr (by omega) _) | exact Below.alloc hbr (by omega) _) (hb.mono (by first | omega | (simp; omega))))
          try go_wp2_with fail
          refine hK.out _ _ ?_ (fun hHeld => ?_)
          · (try dsimp only); and_intros <;> first | assumption | omega | (simp; omega) | (exact Below.drew (by assumption)) | (exact Below.drew (Below.alloc (by assumption) (by omega) _)) | (exact Below.alloc (by assumption) (by omega) _) | (simp [*]; done) | go_keep
          clear hK K
          try simp only [Act.put, List.setIfInBounds_toArray, List.set_cons_zero, List.set_cons_succ]
          refine wpAnyH_ready (rs := [11]) (by kernel_rfl) (by simp) ?_
          refine AllReadyH.cons rfl (fun K hK => ?_) ?_
          · go_simp
            refine hK.out _ _ ?_ (fun hHeld => ?_)
            · (try dsimp only); and_intros <;> first | assumption | omega | (simp; omega) | (exact Below.drew (by assumption)) | (exact Below.drew (Below.alloc (by assumption) (by omega) _)) | (exact Below.alloc (by assumption) (by omega) _) | (simp [*]; done) | go_keep
            clear hK K
            try simp only [Act.put, List.setIfInBounds_toArray, List.set_cons_zero, List.set_cons_succ]
            refine wpAnyH_ready (rs := [12]) (by kernel_rfl) (by simp) ?_
            refine AllReadyH.cons rfl (fun K hK => ?_) ?_
            · go_simp
              refine hK.out _ _ ?_ (fun hHeld => ?_)
              · (try dsimp only); and_intros <;> first | assumption | omega | (simp; omega) | (exact Below.drew (by assumption)) | (exact Below.drew (Below.alloc (by assumption) (by omega) _)) | (exact Below.alloc (by assumption) (by omega) _) | (simp [*]; done) | go_keep
              clear hK K
              try simp only [Act.put, List.setIfInBounds_toArray, List.set_cons_zero, List.set_cons_succ]
              refine wpAnyH_done (by kernel_rfl) ?_ _
              go_wp2_with fail
              go_meet
              rw [strOf_append]
              exact ⟨rfl, hb0.trans (hbb.mono (by omega)), by have := hbb.size; omega, fun i => (hbb.cell (by show w.heap.size < _; omega)).trans (HC0.out i)⟩
            exact AllReadyH.nil
          exact AllReadyH.nil
        exact AllReadyH.nil
      refine AllReadyH.cons rfl (fun K hK => ?_) ?_
      · go_simp
        (refine (eight_any _ _).mono ?_; rintro r w' ⟨rfl, hb⟩; have hsz' := hb.size; have hbc := fun i => hb.cell (p := ⟨w.heap.size, i, none⟩) (by first | assumption | (simp; omega)); (try have hx0 : w'.cell? ⟨w.heap.size + 1, 0, none⟩ = some (.int .u8 k) := (hb.cell (by simp; omega)).trans (World.cell?_alloc_at _ _ _ _ (by omega))); (try have hx1 : w'.cell? ⟨w.heap.size + 1, 1, none⟩ = some (.int .u8 f) := (hb.cell (by simp; omega)).trans (World.cell?_alloc_at _ _ _ _ (by omega))); have hbb : Below (w.heap.size + 1) W0 w' := Below.trans (by first | exact hbr | exact Below.drew hbr | exact Below.drew (Below.alloc hbr (by omega) _) | exact Below.alloc hbr (by omega) _) (hb.mono (by first | omega | (simp; omega))))
        try go_wp2_with fail
        refine hK.out _ _ ?_ (fun hHeld => ?_)
        · (try dsimp only); and_intros <;> first | assumption | omega | (simp; omega) | (exact Below.drew (by assumption)) | (exact Below.drew (Below.alloc (by assumption) (by omega) _)) | (exact Below.alloc (by assumption) (by omega) _) | (simp [*]; done) | go_keep
        clear hK K
        try simp only [Act.put, List.setIfInBounds_toArray, List.set_cons_zero, List.set_cons_succ]
        refine wpAnyH_ready (rs := [7]) (by kernel_rfl) (by simp) ?_
        refine AllReadyH.cons rfl (fun K hK => ?_) ?_
        · go_simp
          refine hK.out _ _ ?_ (fun hHeld => ?_)
          · (try dsimp only); and_intros <;> first | assumption | omega | (simp; omega) | (exact Below.drew (by assumption)) | (exact Below.drew (Below.alloc (by assumption) (by omega) _)) | (exact Below.alloc (by assumption) (by omega) _) | (simp [*]; done) | go_keep
          clear hK K
          try simp only [Act.put, List.setIfInBounds_toArray, List.set_cons_zero, List.set_cons_succ]
          refine wpAnyH_ready (rs := [11]) (by kernel_rfl) (by simp) ?_
          refine AllReadyH.cons rfl (fun K hK => ?_) ?_
          · go_simp
            refine hK.out _ _ ?_ (fun hHeld => ?_)
            · (try dsimp only); and_intros <;> first | assumption | omega | (simp; omega) | (exact Below.drew (by assumption)) | (exact Below.drew (Below.alloc (by assumption) (by omega) _)) | (exact Below.alloc (by assumption) (by omega) _) | (simp [*]; done) | go_keep
            clear hK K
            try simp only [Act.put, List.setIfInBounds_toArray, List.set_cons_zero, List.set_cons_succ]
            refine wpAnyH_ready (rs := [12]) (by kernel_rfl) (by simp) ?_
            refine AllReadyH.cons rfl (fun K hK => ?_) ?_
            · go_simp
              refine hK.out _ _ ?_ (fun hHeld => ?_)
              · (try dsimp only); and_intros <;> first | assumption | omega | (simp; omega) | (exact Below.drew (by assumption)) | (exact Below.drew (Below.alloc (by assumption) (by omega) _)) | (exact Below.alloc (by assumption) (by omega) _) | (simp [*]; done) | go_keep
              clear hK K
              try simp only [Act.put, List.setIfInBounds_toArray, List.set_cons_zero, List.set_cons_succ]
              refine wpAnyH_done (by kernel_rfl) ?_ _
              go_wp2_with fail
              go_meet
              rw [strOf_append]
              exact ⟨rfl, hb0.trans (hbb.mono (by omega)), by have := hbb.size; omega, fun i => (hbb.cell (by show w.heap.size < _; omega)).trans (HC0.out i)⟩
            exact AllReadyH.nil
          exact AllReadyH.nil
        exact AllReadyH.nil
      exact AllReadyH.nil
    refine AllReadyH.cons rfl (fun K hK => ?_) ?_
    · go_simp
      (refine (eight_any _ _).mono ?_; rintro r w' ⟨rfl, hb⟩; have hsz' := hb.size; have hbc := fun i => hb.cell (p := ⟨w.heap.size, i, none⟩) (by first | assumption | (simp; omega)); (try have hx0 : w'.cell? ⟨w.heap.size + 1, 0, none⟩ = some (.int .u8 k) := (hb.cell (by simp; omega)).trans (World.cell?_alloc_at _ _ _ _ (by omega))); (try have hx1 : w'.cell? ⟨w.heap.size + 1, 1, none⟩ = some (.int .u8 f) := (hb.cell (by simp; omega)).trans (World.cell?_alloc_at _ _ _ _ (by omega))); have hbb : Below (w.heap.size + 1) W0 w' := Below.trans (by first | exact hbr | exact Below.drew hbr | exact Below.drew (Below.alloc hbr (by omega) _) | exact Below.alloc hbr (by omega) _) (hb.mono (by first | omega | (simp; omega))))
      try go_wp2_with fail
      refine hK.out _ _ ?_ (fun hHeld => ?_)
      · (try dsimp only); and_intros <;> first | assumption | omega | (simp; omega) | (exact Below.drew (by assumption)) | (exact Below.drew (Below.alloc (by assumption) (by omega) _)) | (exact Below.alloc (by assumption) (by omega) _) | (simp [*]; done) | go_keep
      clear hK K
      try simp only [Act.put, List.setIfInBounds_toArray, List.set_cons_zero, List.set_cons_succ]
      refine wpAnyH_ready (rs := [6]) (by kernel_rfl) (by simp) ?_
      refine AllReadyH.cons rfl (fun K hK => ?_) ?_
      · go_simp
        refine hK.out _ _ ?_ (fun hHeld => ?_)
        · (try dsimp only); and_intros <;> first | assumption | omega | (simp; omega) | (exact Below.drew (by assumption)) | (exact Below.drew (Below.alloc (by assumption) (by omega) _)) | (exact Below.alloc (by assumption) (by omega) _) | (simp [*]; done) | go_keep
        clear hK K
        try simp only [Act.put, List.setIfInBounds_toArray, List.set_cons_zero, List.set_cons_succ]
        refine wpAnyH_ready (rs := [7]) (by kernel_rfl) (by simp) ?_
        refine AllReadyH.cons rfl (fun K hK => ?_) ?_
        · go_simp
          refine hK.out _ _ ?_ (fun hHeld => ?_)
          · (try dsimp only); and_intros <;> first | assumption | omega | (simp; omega) | (exact Below.drew (by assumption)) | (exact Below.drew (Below.alloc (by assumption) (by omega) _)) | (exact Below.alloc (by assumption) (by omega) _) | (simp [*]; done) | go_keep
          clear hK K
          try simp only [Act.put, List.setIfInBounds_toArray, List.set_cons_zero, List.set_cons_succ]
          refine wpAnyH_ready (rs := [11]) (by kernel_rfl) (by simp) ?_
          refine AllReadyH.cons rfl (fun K hK => ?_) ?_
          · go_simp
            refine hK.out _ _ ?_ (fun hHeld => ?_)
            · (try dsimp only); and_intros <;> first | assumption | omega | (simp; omega) | (exact Below.drew (by assumption)) | (exact Below.drew (Below.alloc (by assumption) (by omega) _)) | (exact Below.alloc (by assumption) (by omega) _) | (simp [*]; done) | go_keep
            clear hK K
            try simp only [Act.put, List.setIfInBounds_toArray, List.set_cons_zero, List.set_cons_succ]
            refine wpAnyH_ready (rs := [12]) (by kernel_rfl) (by simp) ?_
            refine AllReadyH.cons rfl (fun K hK => ?_) ?_
            · go_simp
              refine hK.out _ _ ?_ (fun hHeld => ?_)
              · (try dsimp only); and_intros <;> first | assumption | omega | (simp; omega) | (exact Below.drew (by assumption)) | (exact Below.drew (Below.alloc (by assumption) (by omega) _)) | (exact Below.alloc (by assumption) (by omega) _) | (simp [*]; done) | go_keep
              clear hK K
              try simp only [Act.put, List.setIfInBounds_toArray, List.set_cons_zero, List.set_cons_succ]
              refine wpAnyH_done (by kernel_rfl) ?_ _
              go_wp2_with fail
              go_meet
              rw [strOf_append]
              have hbz := hbb.size
              have hbb2 := hbb.alloc (by omega) (Obj.cells #[Value.int IntKind.u8 k, Value.int IntKind.u8 f] 5)
              exact ⟨rfl, hb0.trans (hbb2.mono (by omega)), by simp; omega, fun i => (hbb2.cell (by show w.heap.size < _; omega)).trans (HC0.out i)⟩
            exact AllReadyH.nil
          exact AllReadyH.nil
        exact AllReadyH.nil
      exact AllReadyH.nil
    exact AllReadyH.nil
  case rest =>
    obtain ⟨rfl, hbw, hsw, hcw⟩ := hcut
    clear hc0 hb0 hs0 hcv hsz hm1 hm2 hm3 hm4
    have hcat : ∀ x y : List UInt8, strOf x ++ strOf y = strOf (x ++ y) := strOf_append
    have hqs : ∀ x : List UInt8, (strOf x).size = x.length := strOf_size
    have hbl : ∀ n : Int, (be n 8).length = 8 := fun n => be_length n 8
    have HH : Hid ([UInt8.ofNat k.toNat, UInt8.ofNat f.toNat] ++ be e 8 = [UInt8.ofNat k.toNat, UInt8.ofNat f.toNat] ++ be e 8) := rfl
    generalize hH : [UInt8.ofNat k.toNat, UInt8.ofNat f.toNat] ++ be e 8 = H at *
    have hlH : H.length = 10 := by rw [← hH]; simp [be_length]
    have HH' : Hid (H = [UInt8.ofNat k.toNat, UInt8.ofNat f.toNat] ++ be e 8) := hH.symm
    clear hH HH
    have HZ9 : Hid _ := hz9
    clear hz9
    have HIN := hin.later hbw
    rcases (show k = 1 ∨ k = 2 ∨ k = 3 ∨ k = 4 ∨ k = 5 ∨ k = 6 ∨ k = 7 ∨ k = 8 ∨ k = 9 ∨ k = 10 by omega) with rfl | rfl | rfl | rfl | rfl | rfl | rfl | rfl | rfl | rfl
    · clear HIN hin
      have HBODY : Hid ((H ++ be b 8) = bodyOf ((1 : Int).toNat) f.toNat [0, e, b, wa, p, s, q, bl, v, (zs.length : Int)] zs) := by
        unfold Hid
        rw [HH'.out]
        show _ = [UInt8.ofNat ((1 : Int).toNat), UInt8.ofNat f.toNat] ++ (fieldTab.getD 1 []).flatMap _
        simp [fieldTab, fieldBytes]
      go_wp2_with fail
      refine (eight_any b _).mono ?_
      rintro r w0 ⟨rfl, hb0⟩
      have hc0 : ∀ i, w0.cell? ⟨w.heap.size, i, none⟩ = #[Value.int IntKind.i64 1, Value.int IntKind.i64 f, Value.int IntKind.i64 e, Value.int IntKind.i64 b, Value.int IntKind.i64 wa, Value.int IntKind.i64 p, Value.int IntKind.i64 s, Value.int IntKind.i64 q, Value.int IntKind.i64 bl, Value.int IntKind.i64 v, Value.slice a zs.length c][i]? := fun i => (hb0.cell (p := ⟨w.heap.size, i, none⟩) hsw).trans (hcw i)
      have hs0 : w.heap.size < w0.heap.size := Nat.lt_of_lt_of_le hsw hb0.size
      have hd0 : Below w.heap.size w w0 := hbw.trans (hb0.mono (by omega))
      clear hcw hb0
      go_wp2_with fail
      generalize hB : (H ++ be b 8) = B at HBODY ⊢
      have hlB : B.length = 18 := by rw [← hB]; simp [be_length, hlH]
      clear hB
      refine (rsum_any B _ (by omega)).mono ?_
      rintro r wy ⟨rfl, rfl⟩
      go_wp2_with fail
      refine (eight_any (sumNum B) _).mono ?_
      rintro r wz ⟨rfl, hbz⟩
      have hdz : Below w.heap.size w wz := hd0.trans (hbz.mono (by omega))
      clear hbz hc0
      have htl : (strOf (be (sumNum B) 8)).extract 4 8 = strOf (be (sumNum B) 4) := str_tail _
      have hlt : (be (sumNum B) 4).length = 4 := be_length _ 4
      have HR : Hid (B ++ be (sumNum B) 4 = encOf ((1 : Int).toNat) f.toNat [0, e, b, wa, p, s, q, bl, v, (zs.length : Int)] zs) := by
        show _ = bodyOf _ _ _ _ ++ be (sumNum (bodyOf _ _ _ _)) 4
        rw [← HBODY.out]
      generalize sumNum B = Z at *
      go_wp2
      go_ret
      exact ⟨congrArg (fun x => Ending.returned (Value.string (strOf x))) HR.out, hdz⟩
    · clear HIN hin
      have HBODY : Hid ((H ++ (be b 8 ++ (be wa 8 ++ (be p 8 ++ be s 8)))) = bodyOf ((2 : Int).toNat) f.toNat [0, e, b, wa, p, s, q, bl, v, (zs.length : Int)] zs) := by
        unfold Hid
        rw [HH'.out]
        show _ = [UInt8.ofNat ((2 : Int).toNat), UInt8.ofNat f.toNat] ++ (fieldTab.getD 2 []).flatMap _
        simp [fieldTab, fieldBytes]
      go_wp2_with fail
      refine (eight_any b _).mono ?_
      rintro r w0 ⟨rfl, hb0⟩
      have hc0 : ∀ i, w0.cell? ⟨w.heap.size, i, none⟩ = #[Value.int IntKind.i64 2, Value.int IntKind.i64 f, Value.int IntKind.i64 e, Value.int IntKind.i64 b, Value.int IntKind.i64 wa, Value.int IntKind.i64 p, Value.int IntKind.i64 s, Value.int IntKind.i64 q, Value.int IntKind.i64 bl, Value.int IntKind.i64 v, Value.slice a zs.length c][i]? := fun i => (hb0.cell (p := ⟨w.heap.size, i, none⟩) hsw).trans (hcw i)
      have hs0 : w.heap.size < w0.heap.size := Nat.lt_of_lt_of_le hsw hb0.size
      have hd0 : Below w.heap.size w w0 := hbw.trans (hb0.mono (by omega))
      clear hcw hb0
      go_wp2_with fail
      refine (eight_any wa _).mono ?_
      rintro r w1 ⟨rfl, hb1⟩
      have hc1 : ∀ i, w1.cell? ⟨w.heap.size, i, none⟩ = #[Value.int IntKind.i64 2, Value.int IntKind.i64 f, Value.int IntKind.i64 e, Value.int IntKind.i64 b, Value.int IntKind.i64 wa, Value.int IntKind.i64 p, Value.int IntKind.i64 s, Value.int IntKind.i64 q, Value.int IntKind.i64 bl, Value.int IntKind.i64 v, Value.slice a zs.length c][i]? := fun i => (hb1.cell (p := ⟨w.heap.size, i, none⟩) hs0).trans (hc0 i)
      have hs1 : w.heap.size < w1.heap.size := Nat.lt_of_lt_of_le hs0 hb1.size
      have hd1 : Below w.heap.size w w1 := hd0.trans (hb1.mono (by omega))
      clear hc0 hb1
      go_wp2_with fail
      go_cut [3] from 50 to 58 (fun x wd => x = .string (strOf (H ++ (be b 8 ++ (be wa 8 ++ (be p 8 ++ be s 8))))) ∧ Below w.heap.size w wd ∧ w.heap.size < wd.heap.size ∧ ∀ i, wd.cell? ⟨w.heap.size, i, none⟩ = #[Value.int IntKind.i64 2, Value.int IntKind.i64 f, Value.int IntKind.i64 e, Value.int IntKind.i64 b, Value.int IntKind.i64 wa, Value.int IntKind.i64 p, Value.int IntKind.i64 s, Value.int IntKind.i64 q, Value.int IntKind.i64 bl, Value.int IntKind.i64 v, Value.slice a zs.length c][i]?)
      case first =>
        have HC0 : Hid _ := hc1
        have g0 := hc1 5
        have g1 := hc1 6
        simp at g0 g1
        have hbr := Below.refl (w.heap.size + 1) w1
        have hm0 : w.heap.size + 1 ≤ w1.heap.size := hs1
        clear hc1 HBODY
        go_region_held3 (fun w' => w.heap.size + 1 ≤ w'.heap.size ∧ Below (w.heap.size + 1) w1 w' ∧ w'.cell? ⟨w.heap.size, 5, none⟩ = some (.int .i64 p) ∧ w'.cell? ⟨w.heap.size, 6, none⟩ = some (.int .i64 s)) (and_intros <;> first | assumption | omega | (exact Below.drew (by assumption)) | (simp; omega) | (simp [*]; done) | go_keep)
          (first | (go_at_call 155; refine (eight_any _ _).mono ?_; rintro r w' ⟨rfl, hb⟩; have hsz' := hb.size; have hbc := fun i => hb.cell (p := ⟨w.heap.size, i, none⟩) (by first | assumption | (simp; omega)); have hm' : w.heap.size + 1 ≤ w'.heap.size := Nat.le_trans (by assumption) hb.size; have hbb : Below (w.heap.size + 1) w1 w' := Below.trans (by first | assumption | exact Below.drew hbr) (hb.mono (by first | assumption | omega | (simp; omega)))))
        all_goals go_wp2_with fail
        all_goals go_meet
        all_goals exact ⟨rfl, hd1.trans (hbb.mono (by omega)), by omega, fun i => (hbb.cell (by show w.heap.size < _; omega)).trans (HC0.out i)⟩
      case rest =>
      obtain ⟨rfl, hbp, hsp, hcp⟩ := hcut
      clear hc1
      go_wp2_with fail
      generalize hB : (H ++ (be b 8 ++ (be wa 8 ++ (be p 8 ++ be s 8)))) = B at HBODY ⊢
      have hlB : B.length = 42 := by rw [← hB]; simp [be_length, hlH]
      clear hB
      refine (rsum_any B _ (by omega)).mono ?_
      rintro r wy ⟨rfl, rfl⟩
      go_wp2_with fail
      refine (eight_any (sumNum B) _).mono ?_
      rintro r wz ⟨rfl, hbz⟩
      have hdz : Below w.heap.size w wz := hbp.trans (hbz.mono (by omega))
      clear hbz hcp
      have htl : (strOf (be (sumNum B) 8)).extract 4 8 = strOf (be (sumNum B) 4) := str_tail _
      have hlt : (be (sumNum B) 4).length = 4 := be_length _ 4
      have HR : Hid (B ++ be (sumNum B) 4 = encOf ((2 : Int).toNat) f.toNat [0, e, b, wa, p, s, q, bl, v, (zs.length : Int)] zs) := by
        show _ = bodyOf _ _ _ _ ++ be (sumNum (bodyOf _ _ _ _)) 4
        rw [← HBODY.out]
      generalize sumNum B = Z at *
      go_wp2
      go_ret
      exact ⟨congrArg (fun x => Ending.returned (Value.string (strOf x))) HR.out, hdz⟩
    · clear HIN hin
      have HBODY : Hid ((H ++ (be b 8 ++ (be p 8 ++ be s 8))) = bodyOf ((3 : Int).toNat) f.toNat [0, e, b, wa, p, s, q, bl, v, (zs.length : Int)] zs) := by
        unfold Hid
        rw [HH'.out]
        show _ = [UInt8.ofNat ((3 : Int).toNat), UInt8.ofNat f.toNat] ++ (fieldTab.getD 3 []).flatMap _
        simp [fieldTab, fieldBytes]
      go_wp2_with fail
      refine (eight_any b _).mono ?_
      rintro r w0 ⟨rfl, hb0⟩
      have hc0 : ∀ i, w0.cell? ⟨w.heap.size, i, none⟩ = #[Value.int IntKind.i64 3, Value.int IntKind.i64 f, Value.int IntKind.i64 e, Value.int IntKind.i64 b, Value.int IntKind.i64 wa, Value.int IntKind.i64 p, Value.int IntKind.i64 s, Value.int IntKind.i64 q, Value.int IntKind.i64 bl, Value.int IntKind.i64 v, Value.slice a zs.length c][i]? := fun i => (hb0.cell (p := ⟨w.heap.size, i, none⟩) hsw).trans (hcw i)
      have hs0 : w.heap.size < w0.heap.size := Nat.lt_of_lt_of_le hsw hb0.size
      have hd0 : Below w.heap.size w w0 := hbw.trans (hb0.mono (by omega))
      clear hcw hb0
      go_wp2_with fail
      go_cut [3] from 50 to 58 (fun x wd => x = .string (strOf (H ++ (be b 8 ++ (be p 8 ++ be s 8)))) ∧ Below w.heap.size w wd ∧ w.heap.size < wd.heap.size ∧ ∀ i, wd.cell? ⟨w.heap.size, i, none⟩ = #[Value.int IntKind.i64 3, Value.int IntKind.i64 f, Value.int IntKind.i64 e, Value.int IntKind.i64 b, Value.int IntKind.i64 wa, Value.int IntKind.i64 p, Value.int IntKind.i64 s, Value.int IntKind.i64 q, Value.int IntKind.i64 bl, Value.int IntKind.i64 v, Value.slice a zs.length c][i]?)
      case first =>
        have HC0 : Hid _ := hc0
        have g0 := hc0 5
        have g1 := hc0 6
        simp at g0 g1
        have hbr := Below.refl (w.heap.size + 1) w0
        have hm0 : w.heap.size + 1 ≤ w0.heap.size := hs0
        clear hc0 HBODY
        go_region_held3 (fun w' => w.heap.size + 1 ≤ w'.heap.size ∧ Below (w.heap.size + 1) w0 w' ∧ w'.cell? ⟨w.heap.size, 5, none⟩ = some (.int .i64 p) ∧ w'.cell? ⟨w.heap.size, 6, none⟩ = some (.int .i64 s)) (and_intros <;> first | assumption | omega | (exact Below.drew (by assumption)) | (simp; omega) | (simp [*]; done) | go_keep)
          (first | (go_at_call 155; refine (eight_any _ _).mono ?_; rintro r w' ⟨rfl, hb⟩; have hsz' := hb.size; have hbc := fun i => hb.cell (p := ⟨w.heap.size, i, none⟩) (by first | assumption | (simp; omega)); have hm' : w.heap.size + 1 ≤ w'.heap.size := Nat.le_trans (by assumption) hb.size; have hbb : Below (w.heap.size + 1) w0 w' := Below.trans (by first | assumption | exact Below.drew hbr) (hb.mono (by first | assumption | omega | (simp; omega)))))
        all_goals go_wp2_with fail
        all_goals go_meet
        all_goals exact ⟨rfl, hd0.trans (hbb.mono (by omega)), by omega, fun i => (hbb.cell (by show w.heap.size < _; omega)).trans (HC0.out i)⟩
      case rest =>
      obtain ⟨rfl, hbp, hsp, hcp⟩ := hcut
      clear hc0
      go_wp2_with fail
      generalize hB : (H ++ (be b 8 ++ (be p 8 ++ be s 8))) = B at HBODY ⊢
      have hlB : B.length = 34 := by rw [← hB]; simp [be_length, hlH]
      clear hB
      refine (rsum_any B _ (by omega)).mono ?_
      rintro r wy ⟨rfl, rfl⟩
      go_wp2_with fail
      refine (eight_any (sumNum B) _).mono ?_
      rintro r wz ⟨rfl, hbz⟩
      have hdz : Below w.heap.size w wz := hbp.trans (hbz.mono (by omega))
      clear hbz hcp
      have htl : (strOf (be (sumNum B) 8)).extract 4 8 = strOf (be (sumNum B) 4) := str_tail _
      have hlt : (be (sumNum B) 4).length = 4 := be_length _ 4
      have HR : Hid (B ++ be (sumNum B) 4 = encOf ((3 : Int).toNat) f.toNat [0, e, b, wa, p, s, q, bl, v, (zs.length : Int)] zs) := by
        show _ = bodyOf _ _ _ _ ++ be (sumNum (bodyOf _ _ _ _)) 4
        rw [← HBODY.out]
      generalize sumNum B = Z at *
      go_wp2
      go_ret
      exact ⟨congrArg (fun x => Ending.returned (Value.string (strOf x))) HR.out, hdz⟩
    · clear HIN hin
      have HBODY : Hid ((H ++ be b 8) = bodyOf ((4 : Int).toNat) f.toNat [0, e, b, wa, p, s, q, bl, v, (zs.length : Int)] zs) := by
        unfold Hid
        rw [HH'.out]
        show _ = [UInt8.ofNat ((4 : Int).toNat), UInt8.ofNat f.toNat] ++ (fieldTab.getD 4 []).flatMap _
        simp [fieldTab, fieldBytes]
      go_wp2_with fail
      refine (eight_any b _).mono ?_
      rintro r w0 ⟨rfl, hb0⟩
      have hc0 : ∀ i, w0.cell? ⟨w.heap.size, i, none⟩ = #[Value.int IntKind.i64 4, Value.int IntKind.i64 f, Value.int IntKind.i64 e, Value.int IntKind.i64 b, Value.int IntKind.i64 wa, Value.int IntKind.i64 p, Value.int IntKind.i64 s, Value.int IntKind.i64 q, Value.int IntKind.i64 bl, Value.int IntKind.i64 v, Value.slice a zs.length c][i]? := fun i => (hb0.cell (p := ⟨w.heap.size, i, none⟩) hsw).trans (hcw i)
      have hs0 : w.heap.size < w0.heap.size := Nat.lt_of_lt_of_le hsw hb0.size
      have hd0 : Below w.heap.size w w0 := hbw.trans (hb0.mono (by omega))
      clear hcw hb0
      go_wp2_with fail
      generalize hB : (H ++ be b 8) = B at HBODY ⊢
      have hlB : B.length = 18 := by rw [← hB]; simp [be_length, hlH]
      clear hB
      refine (rsum_any B _ (by omega)).mono ?_
      rintro r wy ⟨rfl, rfl⟩
      go_wp2_with fail
      refine (eight_any (sumNum B) _).mono ?_
      rintro r wz ⟨rfl, hbz⟩
      have hdz : Below w.heap.size w wz := hd0.trans (hbz.mono (by omega))
      clear hbz hc0
      have htl : (strOf (be (sumNum B) 8)).extract 4 8 = strOf (be (sumNum B) 4) := str_tail _
      have hlt : (be (sumNum B) 4).length = 4 := be_length _ 4
      have HR : Hid (B ++ be (sumNum B) 4 = encOf ((4 : Int).toNat) f.toNat [0, e, b, wa, p, s, q, bl, v, (zs.length : Int)] zs) := by
        show _ = bodyOf _ _ _ _ ++ be (sumNum (bodyOf _ _ _ _)) 4
        rw [← HBODY.out]
      generalize sumNum B = Z at *
      go_wp2
      go_ret
      exact ⟨congrArg (fun x => Ending.returned (Value.string (strOf x))) HR.out, hdz⟩
    · clear HIN hin
      have HBODY : Hid ((H ++ (be b 8 ++ be wa 8)) = bodyOf ((5 : Int).toNat) f.toNat [0, e, b, wa, p, s, q, bl, v, (zs.length : Int)] zs) := by
        unfold Hid
        rw [HH'.out]
        show _ = [UInt8.ofNat ((5 : Int).toNat), UInt8.ofNat f.toNat] ++ (fieldTab.getD 5 []).flatMap _
        simp [fieldTab, fieldBytes]
      go_wp2_with fail
      refine (eight_any b _).mono ?_
      rintro r w0 ⟨rfl, hb0⟩
      have hc0 : ∀ i, w0.cell? ⟨w.heap.size, i, none⟩ = #[Value.int IntKind.i64 5, Value.int IntKind.i64 f, Value.int IntKind.i64 e, Value.int IntKind.i64 b, Value.int IntKind.i64 wa, Value.int IntKind.i64 p, Value.int IntKind.i64 s, Value.int IntKind.i64 q, Value.int IntKind.i64 bl, Value.int IntKind.i64 v, Value.slice a zs.length c][i]? := fun i => (hb0.cell (p := ⟨w.heap.size, i, none⟩) hsw).trans (hcw i)
      have hs0 : w.heap.size < w0.heap.size := Nat.lt_of_lt_of_le hsw hb0.size
      have hd0 : Below w.heap.size w w0 := hbw.trans (hb0.mono (by omega))
      clear hcw hb0
      go_wp2_with fail
      refine (eight_any wa _).mono ?_
      rintro r w1 ⟨rfl, hb1⟩
      have hc1 : ∀ i, w1.cell? ⟨w.heap.size, i, none⟩ = #[Value.int IntKind.i64 5, Value.int IntKind.i64 f, Value.int IntKind.i64 e, Value.int IntKind.i64 b, Value.int IntKind.i64 wa, Value.int IntKind.i64 p, Value.int IntKind.i64 s, Value.int IntKind.i64 q, Value.int IntKind.i64 bl, Value.int IntKind.i64 v, Value.slice a zs.length c][i]? := fun i => (hb1.cell (p := ⟨w.heap.size, i, none⟩) hs0).trans (hc0 i)
      have hs1 : w.heap.size < w1.heap.size := Nat.lt_of_lt_of_le hs0 hb1.size
      have hd1 : Below w.heap.size w w1 := hd0.trans (hb1.mono (by omega))
      clear hc0 hb1
      go_wp2_with fail
      generalize hB : (H ++ (be b 8 ++ be wa 8)) = B at HBODY ⊢
      have hlB : B.length = 26 := by rw [← hB]; simp [be_length, hlH]
      clear hB
      refine (rsum_any B _ (by omega)).mono ?_
      rintro r wy ⟨rfl, rfl⟩
      go_wp2_with fail
      refine (eight_any (sumNum B) _).mono ?_
      rintro r wz ⟨rfl, hbz⟩
      have hdz : Below w.heap.size w wz := hd1.trans (hbz.mono (by omega))
      clear hbz hc1
      have htl : (strOf (be (sumNum B) 8)).extract 4 8 = strOf (be (sumNum B) 4) := str_tail _
      have hlt : (be (sumNum B) 4).length = 4 := be_length _ 4
      have HR : Hid (B ++ be (sumNum B) 4 = encOf ((5 : Int).toNat) f.toNat [0, e, b, wa, p, s, q, bl, v, (zs.length : Int)] zs) := by
        show _ = bodyOf _ _ _ _ ++ be (sumNum (bodyOf _ _ _ _)) 4
        rw [← HBODY.out]
      generalize sumNum B = Z at *
      go_wp2
      go_ret
      exact ⟨congrArg (fun x => Ending.returned (Value.string (strOf x))) HR.out, hdz⟩
    · clear HIN hin
      have HBODY : Hid ((H ++ (be p 8 ++ be s 8)) = bodyOf ((6 : Int).toNat) f.toNat [0, e, b, wa, p, s, q, bl, v, (zs.length : Int)] zs) := by
        unfold Hid
        rw [HH'.out]
        show _ = [UInt8.ofNat ((6 : Int).toNat), UInt8.ofNat f.toNat] ++ (fieldTab.getD 6 []).flatMap _
        simp [fieldTab, fieldBytes]
      go_wp2_with fail
      go_cut [3] from 50 to 58 (fun x wd => x = .string (strOf (H ++ (be p 8 ++ be s 8))) ∧ Below w.heap.size w wd ∧ w.heap.size < wd.heap.size ∧ ∀ i, wd.cell? ⟨w.heap.size, i, none⟩ = #[Value.int IntKind.i64 6, Value.int IntKind.i64 f, Value.int IntKind.i64 e, Value.int IntKind.i64 b, Value.int IntKind.i64 wa, Value.int IntKind.i64 p, Value.int IntKind.i64 s, Value.int IntKind.i64 q, Value.int IntKind.i64 bl, Value.int IntKind.i64 v, Value.slice a zs.length c][i]?)
      case first =>
        have HC0 : Hid _ := hcw
        have g0 := hcw 5
        have g1 := hcw 6
        simp at g0 g1
        have hbr := Below.refl (w.heap.size + 1) wc
        have hm0 : w.heap.size + 1 ≤ wc.heap.size := hsw
        clear hcw HBODY
        go_region_held3 (fun w' => w.heap.size + 1 ≤ w'.heap.size ∧ Below (w.heap.size + 1) wc w' ∧ w'.cell? ⟨w.heap.size, 5, none⟩ = some (.int .i64 p) ∧ w'.cell? ⟨w.heap.size, 6, none⟩ = some (.int .i64 s)) (and_intros <;> first | assumption | omega | (exact Below.drew (by assumption)) | (simp; omega) | (simp [*]; done) | go_keep)
          (first | (go_at_call 155; refine (eight_any _ _).mono ?_; rintro r w' ⟨rfl, hb⟩; have hsz' := hb.size; have hbc := fun i => hb.cell (p := ⟨w.heap.size, i, none⟩) (by first | assumption | (simp; omega)); have hm' : w.heap.size + 1 ≤ w'.heap.size := Nat.le_trans (by assumption) hb.size; have hbb : Below (w.heap.size + 1) wc w' := Below.trans (by first | assumption | exact Below.drew hbr) (hb.mono (by first | assumption | omega | (simp; omega)))))
        all_goals go_wp2_with fail
        all_goals go_meet
        all_goals exact ⟨rfl, hbw.trans (hbb.mono (by omega)), by omega, fun i => (hbb.cell (by show w.heap.size < _; omega)).trans (HC0.out i)⟩
      case rest =>
      obtain ⟨rfl, hbp, hsp, hcp⟩ := hcut
      clear hcw
      go_wp2_with fail
      generalize hB : (H ++ (be p 8 ++ be s 8)) = B at HBODY ⊢
      have hlB : B.length = 26 := by rw [← hB]; simp [be_length, hlH]
      clear hB
      refine (rsum_any B _ (by omega)).mono ?_
      rintro r wy ⟨rfl, rfl⟩
      go_wp2_with fail
      refine (eight_any (sumNum B) _).mono ?_
      rintro r wz ⟨rfl, hbz⟩
      have hdz : Below w.heap.size w wz := hbp.trans (hbz.mono (by omega))
      clear hbz hcp
      have htl : (strOf (be (sumNum B) 8)).extract 4 8 = strOf (be (sumNum B) 4) := str_tail _
      have hlt : (be (sumNum B) 4).length = 4 := be_length _ 4
      have HR : Hid (B ++ be (sumNum B) 4 = encOf ((6 : Int).toNat) f.toNat [0, e, b, wa, p, s, q, bl, v, (zs.length : Int)] zs) := by
        show _ = bodyOf _ _ _ _ ++ be (sumNum (bodyOf _ _ _ _)) 4
        rw [← HBODY.out]
      generalize sumNum B = Z at *
      go_wp2
      go_ret
      exact ⟨congrArg (fun x => Ending.returned (Value.string (strOf x))) HR.out, hdz⟩
    · clear HIN hin
      have HBODY : Hid ((H ++ (be q 8 ++ (be bl 8 ++ be v 8))) = bodyOf ((7 : Int).toNat) f.toNat [0, e, b, wa, p, s, q, bl, v, (zs.length : Int)] zs) := by
        unfold Hid
        rw [HH'.out]
        show _ = [UInt8.ofNat ((7 : Int).toNat), UInt8.ofNat f.toNat] ++ (fieldTab.getD 7 []).flatMap _
        simp [fieldTab, fieldBytes]
      go_wp2_with fail
      refine (eight_any q _).mono ?_
      rintro r w0 ⟨rfl, hb0⟩
      have hc0 : ∀ i, w0.cell? ⟨w.heap.size, i, none⟩ = #[Value.int IntKind.i64 7, Value.int IntKind.i64 f, Value.int IntKind.i64 e, Value.int IntKind.i64 b, Value.int IntKind.i64 wa, Value.int IntKind.i64 p, Value.int IntKind.i64 s, Value.int IntKind.i64 q, Value.int IntKind.i64 bl, Value.int IntKind.i64 v, Value.slice a zs.length c][i]? := fun i => (hb0.cell (p := ⟨w.heap.size, i, none⟩) hsw).trans (hcw i)
      have hs0 : w.heap.size < w0.heap.size := Nat.lt_of_lt_of_le hsw hb0.size
      have hd0 : Below w.heap.size w w0 := hbw.trans (hb0.mono (by omega))
      clear hcw hb0
      go_wp2_with fail
      go_cut [3] from 68 to 76 (fun x wd => x = .string (strOf (H ++ (be q 8 ++ (be bl 8 ++ be v 8)))) ∧ Below w.heap.size w wd ∧ w.heap.size < wd.heap.size ∧ ∀ i, wd.cell? ⟨w.heap.size, i, none⟩ = #[Value.int IntKind.i64 7, Value.int IntKind.i64 f, Value.int IntKind.i64 e, Value.int IntKind.i64 b, Value.int IntKind.i64 wa, Value.int IntKind.i64 p, Value.int IntKind.i64 s, Value.int IntKind.i64 q, Value.int IntKind.i64 bl, Value.int IntKind.i64 v, Value.slice a zs.length c][i]?)
      case first =>
        have HC0 : Hid _ := hc0
        have g0 := hc0 8
        have g1 := hc0 9
        simp at g0 g1
        have hbr := Below.refl (w.heap.size + 1) w0
        have hm0 : w.heap.size + 1 ≤ w0.heap.size := hs0
        clear hc0 HBODY
        go_region_held3 (fun w' => w.heap.size + 1 ≤ w'.heap.size ∧ Below (w.heap.size + 1) w0 w' ∧ w'.cell? ⟨w.heap.size, 8, none⟩ = some (.int .i64 bl) ∧ w'.cell? ⟨w.heap.size, 9, none⟩ = some (.int .i64 v)) (and_intros <;> first | assumption | omega | (exact Below.drew (by assumption)) | (simp; omega) | (simp [*]; done) | go_keep)
          (first | (go_at_call 155; refine (eight_any _ _).mono ?_; rintro r w' ⟨rfl, hb⟩; have hsz' := hb.size; have hbc := fun i => hb.cell (p := ⟨w.heap.size, i, none⟩) (by first | assumption | (simp; omega)); have hm' : w.heap.size + 1 ≤ w'.heap.size := Nat.le_trans (by assumption) hb.size; have hbb : Below (w.heap.size + 1) w0 w' := Below.trans (by first | assumption | exact Below.drew hbr) (hb.mono (by first | assumption | omega | (simp; omega)))))
        all_goals go_wp2_with fail
        all_goals go_meet
        all_goals exact ⟨rfl, hd0.trans (hbb.mono (by omega)), by omega, fun i => (hbb.cell (by show w.heap.size < _; omega)).trans (HC0.out i)⟩
      case rest =>
      obtain ⟨rfl, hbp, hsp, hcp⟩ := hcut
      clear hc0
      go_wp2_with fail
      generalize hB : (H ++ (be q 8 ++ (be bl 8 ++ be v 8))) = B at HBODY ⊢
      have hlB : B.length = 34 := by rw [← hB]; simp [be_length, hlH]
      clear hB
      refine (rsum_any B _ (by omega)).mono ?_
      rintro r wy ⟨rfl, rfl⟩
      go_wp2_with fail
      refine (eight_any (sumNum B) _).mono ?_
      rintro r wz ⟨rfl, hbz⟩
      have hdz : Below w.heap.size w wz := hbp.trans (hbz.mono (by omega))
      clear hbz hcp
      have htl : (strOf (be (sumNum B) 8)).extract 4 8 = strOf (be (sumNum B) 4) := str_tail _
      have hlt : (be (sumNum B) 4).length = 4 := be_length _ 4
      have HR : Hid (B ++ be (sumNum B) 4 = encOf ((7 : Int).toNat) f.toNat [0, e, b, wa, p, s, q, bl, v, (zs.length : Int)] zs) := by
        show _ = bodyOf _ _ _ _ ++ be (sumNum (bodyOf _ _ _ _)) 4
        rw [← HBODY.out]
      generalize sumNum B = Z at *
      go_wp2
      go_ret
      exact ⟨congrArg (fun x => Ending.returned (Value.string (strOf x))) HR.out, hdz⟩
    · clear HIN hin
      have HBODY : Hid ((H ++ be q 8) = bodyOf ((8 : Int).toNat) f.toNat [0, e, b, wa, p, s, q, bl, v, (zs.length : Int)] zs) := by
        unfold Hid
        rw [HH'.out]
        show _ = [UInt8.ofNat ((8 : Int).toNat), UInt8.ofNat f.toNat] ++ (fieldTab.getD 8 []).flatMap _
        simp [fieldTab, fieldBytes]
      go_wp2_with fail
      refine (eight_any q _).mono ?_
      rintro r w0 ⟨rfl, hb0⟩
      have hc0 : ∀ i, w0.cell? ⟨w.heap.size, i, none⟩ = #[Value.int IntKind.i64 8, Value.int IntKind.i64 f, Value.int IntKind.i64 e, Value.int IntKind.i64 b, Value.int IntKind.i64 wa, Value.int IntKind.i64 p, Value.int IntKind.i64 s, Value.int IntKind.i64 q, Value.int IntKind.i64 bl, Value.int IntKind.i64 v, Value.slice a zs.length c][i]? := fun i => (hb0.cell (p := ⟨w.heap.size, i, none⟩) hsw).trans (hcw i)
      have hs0 : w.heap.size < w0.heap.size := Nat.lt_of_lt_of_le hsw hb0.size
      have hd0 : Below w.heap.size w w0 := hbw.trans (hb0.mono (by omega))
      clear hcw hb0
      go_wp2_with fail
      generalize hB : (H ++ be q 8) = B at HBODY ⊢
      have hlB : B.length = 18 := by rw [← hB]; simp [be_length, hlH]
      clear hB
      refine (rsum_any B _ (by omega)).mono ?_
      rintro r wy ⟨rfl, rfl⟩
      go_wp2_with fail
      refine (eight_any (sumNum B) _).mono ?_
      rintro r wz ⟨rfl, hbz⟩
      have hdz : Below w.heap.size w wz := hd0.trans (hbz.mono (by omega))
      clear hbz hc0
      have htl : (strOf (be (sumNum B) 8)).extract 4 8 = strOf (be (sumNum B) 4) := str_tail _
      have hlt : (be (sumNum B) 4).length = 4 := be_length _ 4
      have HR : Hid (B ++ be (sumNum B) 4 = encOf ((8 : Int).toNat) f.toNat [0, e, b, wa, p, s, q, bl, v, (zs.length : Int)] zs) := by
        show _ = bodyOf _ _ _ _ ++ be (sumNum (bodyOf _ _ _ _)) 4
        rw [← HBODY.out]
      generalize sumNum B = Z at *
      go_wp2
      go_ret
      exact ⟨congrArg (fun x => Ending.returned (Value.string (strOf x))) HR.out, hdz⟩
    · have HBODY : Hid ((H ++ (be q 8 ++ ((be (zs.length : Int) 1) ++ zs.flatMap (fun v => be v 8)))) = bodyOf ((9 : Int).toNat) f.toNat [0, e, b, wa, p, s, q, bl, v, (zs.length : Int)] zs) := by
        unfold Hid
        rw [HH'.out]
        show _ = [UInt8.ofNat ((9 : Int).toNat), UInt8.ofNat f.toNat] ++ (fieldTab.getD 9 []).flatMap _
        simp [fieldTab, fieldBytes]
      go_wp2_with fail
      refine (eight_any q _).mono ?_
      rintro r w0 ⟨rfl, hb0⟩
      have hc0 : ∀ i, w0.cell? ⟨w.heap.size, i, none⟩ = #[Value.int IntKind.i64 9, Value.int IntKind.i64 f, Value.int IntKind.i64 e, Value.int IntKind.i64 b, Value.int IntKind.i64 wa, Value.int IntKind.i64 p, Value.int IntKind.i64 s, Value.int IntKind.i64 q, Value.int IntKind.i64 bl, Value.int IntKind.i64 v, Value.slice a zs.length c][i]? := fun i => (hb0.cell (p := ⟨w.heap.size, i, none⟩) hsw).trans (hcw i)
      have hs0 : w.heap.size < w0.heap.size := Nat.lt_of_lt_of_le hsw hb0.size
      have hd0 : Below w.heap.size w w0 := hbw.trans (hb0.mono (by omega))
      clear hcw hb0
      have hcv1 := conv1 (w0.alloc (Obj.cells #[Value.int IntKind.u8 (zs.length : Int)] 5)) w0.heap.size (UInt8.ofNat zs.length) (by rw [World.cell?_alloc_at _ _ _ _ rfl, UInt8.toNat_ofNat', Nat.mod_eq_of_lt (by omega)]; rfl)
      have HB1 : Hid (be (zs.length : Int) 1 = [UInt8.ofNat zs.length]) := be1 zs.length (by omega)
      clear HIN
      go_wp2_with fail
      have hbA := hd0.alloc (by omega) (Obj.cells #[Value.int IntKind.u8 (zs.length : Int)] 5)
      have hsA : w.heap.size < (w0.alloc (Obj.cells #[Value.int IntKind.u8 (zs.length : Int)] 5)).heap.size := by simp; omega
      have hcA : ∀ i, (w0.alloc (Obj.cells #[Value.int IntKind.u8 (zs.length : Int)] 5)).cell? ⟨w.heap.size, i, none⟩ = #[Value.int IntKind.i64 9, Value.int IntKind.i64 f, Value.int IntKind.i64 e, Value.int IntKind.i64 b, Value.int IntKind.i64 wa, Value.int IntKind.i64 p, Value.int IntKind.i64 s, Value.int IntKind.i64 q, Value.int IntKind.i64 bl, Value.int IntKind.i64 v, Value.slice a zs.length c][i]? := fun i => by rw [World.cell?_alloc_past _ _ _ hs0, hc0]
      generalize (w0.alloc (Obj.cells #[Value.int IntKind.u8 (zs.length : Int)] 5)) = wA at *
      clear hcv1 hc0 hd0 hs0
      generalize hP : H ++ (be q 8 ++ [UInt8.ofNat zs.length]) = P at *
      have hlP : P.length = 19 := by rw [← hP]; simp [be_length, hlH]
      have HP : Hid (H ++ (be q 8 ++ [UInt8.ofNat zs.length]) = P) := hP
      clear hP
      go_loopw [3, 5] (fun sx ix wr => ∃ t : Nat, t ≤ zs.length ∧ ix = .int .i64 t ∧ sx = .string (strOf (P ++ (zs.take t).flatMap (fun v => be v 8))) ∧ Below w.heap.size w wr ∧ w.heap.size < wr.heap.size ∧ ∀ i, wr.cell? ⟨w.heap.size, i, none⟩ = #[Value.int IntKind.i64 9, Value.int IntKind.i64 f, Value.int IntKind.i64 e, Value.int IntKind.i64 b, Value.int IntKind.i64 wa, Value.int IntKind.i64 p, Value.int IntKind.i64 s, Value.int IntKind.i64 q, Value.int IntKind.i64 bl, Value.int IntKind.i64 v, Value.slice a zs.length c][i]?) (fun _ i _ => zs.length - (intOf i).toNat)
      case atStart => exact ⟨0, by omega, rfl, by simp, hbA, hsA, hcA⟩
      case round =>
        obtain ⟨t, ht, rfl, rfl, hbr, hsr, hcr⟩ := hrel
        have hlf : ((zs.take t).flatMap (fun v => be v 8)).length = 8 * t := by rw [flatMap_len]; simp; omega
        clear hcA hbA hsA
        by_cases htl : t < zs.length
        · obtain ⟨g, o, rfl, _, kk⟩ := (hin.later hbr).resolve_left (by intro h; subst h; simp at htl)
          have j1 := kk t htl
          have htl2 : (t : Int) < (zs.length : Int) := by omega
          have HT : Hid ((zs.take (t + 1)).flatMap (fun v => be v 8) = (zs.take t).flatMap (fun v => be v 8) ++ be zs[t] 8) := take_flat zs t htl
          clear kk hin
          generalize zs[t] = X at *
          generalize hFT : (zs.take t).flatMap (fun v => be v 8) = FT at *
          clear hFT
          go_wp2_with fail
          refine (eight_any X _).mono ?_
          rintro r w' ⟨rfl, hb'⟩
          have hc' : ∀ i, w'.cell? ⟨w.heap.size, i, none⟩ = #[Value.int IntKind.i64 9, Value.int IntKind.i64 f, Value.int IntKind.i64 e, Value.int IntKind.i64 b, Value.int IntKind.i64 wa, Value.int IntKind.i64 p, Value.int IntKind.i64 s, Value.int IntKind.i64 q, Value.int IntKind.i64 bl, Value.int IntKind.i64 v, Value.slice (some ⟨g, o, none⟩) zs.length c][i]? := fun i => (hb'.cell (p := ⟨w.heap.size, i, none⟩) hsr).trans (hcr i)
          have hs' : w.heap.size < w'.heap.size := Nat.lt_of_lt_of_le hsr hb'.size
          have hd' : Below w.heap.size w w' := hbr.trans (hb'.mono (by omega))
          clear hb' hcr hbr hsr
          go_wp2
          go_roundw
          case rel => exact ⟨t + 1, by omega, by go_num, by rw [HT.out], hd', hs', hc'⟩
          case measure => simp [intOf]; omega
        · have hte : t = zs.length := by omega
          subst hte
          have HTT : Hid (zs.take zs.length = zs) := List.take_length
          rw [HTT.out] at hlf ⊢
          have HBODY2 : Hid (P ++ zs.flatMap (fun v => be v 8) = bodyOf ((9 : Int).toNat) f.toNat [0, e, b, wa, p, s, q, bl, v, (zs.length : Int)] zs) := by
            unfold Hid
            rw [← HBODY.out, HB1.out, ← HP.out]
            simp
          clear HBODY HB1
          generalize hB : P ++ zs.flatMap (fun v => be v 8) = B at HBODY2 ⊢
          have hlB : B.length ≤ 60 := by rw [← hB]; simp [hlP, hlf]; omega
          clear hB
          go_wp2_with fail
          refine (rsum_any B _ (by omega)).mono ?_
          rintro r wy ⟨rfl, rfl⟩
          go_wp2_with fail
          refine (eight_any (sumNum B) _).mono ?_
          rintro r wz ⟨rfl, hbz⟩
          have hdz : Below w.heap.size w wz := hbr.trans (hbz.mono (by omega))
          clear hbz hcr
          have htl : (strOf (be (sumNum B) 8)).extract 4 8 = strOf (be (sumNum B) 4) := str_tail _
          have hlt : (be (sumNum B) 4).length = 4 := be_length _ 4
          have HR : Hid (B ++ be (sumNum B) 4 = encOf ((9 : Int).toNat) f.toNat [0, e, b, wa, p, s, q, bl, v, (zs.length : Int)] zs) := by
            show _ = bodyOf _ _ _ _ ++ be (sumNum (bodyOf _ _ _ _)) 4
            rw [← HBODY2.out]
          generalize sumNum B = Z at *
          go_wp2
          go_ret
          exact ⟨congrArg (fun x => Ending.returned (Value.string (strOf x))) HR.out, hdz⟩
    · clear HIN hin
      have HBODY : Hid ((H ++ be q 8) = bodyOf ((10 : Int).toNat) f.toNat [0, e, b, wa, p, s, q, bl, v, (zs.length : Int)] zs) := by
        unfold Hid
        rw [HH'.out]
        show _ = [UInt8.ofNat ((10 : Int).toNat), UInt8.ofNat f.toNat] ++ (fieldTab.getD 10 []).flatMap _
        simp [fieldTab, fieldBytes]
      go_wp2_with fail
      refine (eight_any q _).mono ?_
      rintro r w0 ⟨rfl, hb0⟩
      have hc0 : ∀ i, w0.cell? ⟨w.heap.size, i, none⟩ = #[Value.int IntKind.i64 10, Value.int IntKind.i64 f, Value.int IntKind.i64 e, Value.int IntKind.i64 b, Value.int IntKind.i64 wa, Value.int IntKind.i64 p, Value.int IntKind.i64 s, Value.int IntKind.i64 q, Value.int IntKind.i64 bl, Value.int IntKind.i64 v, Value.slice a zs.length c][i]? := fun i => (hb0.cell (p := ⟨w.heap.size, i, none⟩) hsw).trans (hcw i)
      have hs0 : w.heap.size < w0.heap.size := Nat.lt_of_lt_of_le hsw hb0.size
      have hd0 : Below w.heap.size w w0 := hbw.trans (hb0.mono (by omega))
      clear hcw hb0
      go_wp2_with fail
      generalize hB : (H ++ be q 8) = B at HBODY ⊢
      have hlB : B.length = 18 := by rw [← hB]; simp [be_length, hlH]
      clear hB
      refine (rsum_any B _ (by omega)).mono ?_
      rintro r wy ⟨rfl, rfl⟩
      go_wp2_with fail
      refine (eight_any (sumNum B) _).mono ?_
      rintro r wz ⟨rfl, hbz⟩
      have hdz : Below w.heap.size w wz := hd0.trans (hbz.mono (by omega))
      clear hbz hc0
      have htl : (strOf (be (sumNum B) 8)).extract 4 8 = strOf (be (sumNum B) 4) := str_tail _
      have hlt : (be (sumNum B) 4).length = 4 := be_length _ 4
      have HR : Hid (B ++ be (sumNum B) 4 = encOf ((10 : Int).toNat) f.toNat [0, e, b, wa, p, s, q, bl, v, (zs.length : Int)] zs) := by
        show _ = bodyOf _ _ _ _ ++ be (sumNum (bodyOf _ _ _ _)) 4
        rw [← HBODY.out]
      generalize sumNum B = Z at *
      go_wp2
      go_ret
      exact ⟨congrArg (fun x => Ending.returned (Value.string (strOf x))) HR.out, hdz⟩
end Go.Proofs.YtdcainmlcpafbaaGreatDoor
