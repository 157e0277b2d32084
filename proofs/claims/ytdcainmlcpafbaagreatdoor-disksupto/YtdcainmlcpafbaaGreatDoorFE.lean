import Derived.Test.YtdcainmlcpafbaaGreatDoorFC
set_option linter.unusedSimpArgs false
set_option linter.unusedVariables false
namespace Go.Proofs.YtdcainmlcpafbaaGreatDoor
open Go.RowKit

set_option maxHeartbeats 8000000 in
set_option maxRecDepth 20000 in
theorem acrash_any (low D H S : Nat) (v : Value) (fs : List FD) (left keep : Int) (w : World) (hH : Hands w D H S) (h : DS 98 107 low w S v fs left) (hl : fs.length ≤ 3000000000) (hb : -9223372036854775808 ≤ keep ∧ keep ≤ 9223372036854775807) (hsafe : ∀ f ∈ fs, f.s ≤ f.d.length ∧ f.d.length ≤ 3000000000) :
    Calls Tryz.prog 15 #[.pointer (some ⟨H, 0, none⟩), .int .i64 keep] w fun r w' => r = .returned (.tuple #[.pointer (some ⟨w.heap.size + 1, 0, none⟩), .pointer (some ⟨w.heap.size + 2, 0, none⟩)]) ∧ (∃ v', DS 98 107 w.heap.size w' w.heap.size v' (fs.map (crF keep)) (-1)) ∧ Hands w' (w.heap.size + 1) (w.heap.size + 2) w.heap.size ∧ Below w.heap.size w w' := by
  obtain ⟨i0, hi0, hz0, hz1, hz2⟩ := info_parts info76
  have hS := h.lt
  have hHlt : H < w.heap.size := (Array.getElem?_eq_some_iff.1 hH.h).1
  have ch := hH.ch
  have c0 := h.cell 0
  simp at c0
  obtain ⟨a, c, hv, hrow⟩ := row3 h.row
  subst hv
  have HR : Hid _ := hrow
  have HSf : Hid _ := hsafe
  clear h hrow hsafe hH
  go_enter Tryz.func15, Tryz.ntmps15
  go_wp2_with fail
  refine (anew_any w.heap.size w).mono ?_
  rintro r w1 ⟨rfl, hd1, hh1, hb1, hs1⟩
  have HD1 : Hid (DS 98 107 w.heap.size w1 w.heap.size (.slice none 0 0) [] (-1)) := hd1
  have HH1 : Hid (Hands w1 (w.heap.size + 1) (w.heap.size + 2) w.heap.size) := hh1
  have HB1 : Hid (Below w.heap.size w w1) := hb1
  have ch1 := (hb1.cell (p := ⟨H, 0, none⟩) hHlt).trans ch
  have c01 := (hb1.cell (p := ⟨S, 0, none⟩) hS).trans c0
  clear hd1 hb1 hh1
  go_wp2_with fail
  go_loopw [23, 9, 10] (fun ix _ _ wr => ∃ (t : Nat) (vo : Value), t ≤ fs.length ∧ ix = .int .i64 t ∧ DS 98 107 w.heap.size wr w.heap.size vo ((fs.take t).map (crF keep)) (-1) ∧ Hands wr (w.heap.size + 1) (w.heap.size + 2) w.heap.size ∧ Below w.heap.size w wr) (fun ix _ _ _ => fs.length - (intOf ix).toNat)
  case atStart => exact ⟨0, _, by omega, rfl, HD1.out, HH1.out, HB1.out⟩
  case round =>
    clear HD1 HB1 HH1
    obtain ⟨t, vo, ht, rfl, hd, hhr, hbr⟩ := hrel
    have hbs := hbr.size
    by_cases htl : t < fs.length
    · obtain ⟨g, ha, _, hgl, hcc⟩ := HR.out.resolve_left (by omega)
      subst ha
      have j0 := (hbr.cell (p := ⟨g, t * 3 + 0, none⟩) hgl).trans (hcc _ _ (file_at fs t htl 0 (by omega)))
      have j1 := (hbr.cell (p := ⟨g, t * 3 + 1, none⟩) hgl).trans (hcc _ _ (file_at fs t htl 1 (by omega)))
      have j2 := (hbr.cell (p := ⟨g, t * 3 + 2, none⟩) hgl).trans (hcc _ _ (file_at fs t htl 2 (by omega)))
      simp [FD.cells] at j0 j1 j2
      have htl2 : (t : Int) < (fs.length : Int) := by omega
      have HT : Hid ((fs.take (t + 1)).map (crF keep) = (fs.take t).map (crF keep) ++ [crF keep fs[t]]) := by unfold Hid; rw [List.take_succ_eq_append_getElem htl, List.map_append]; rfl
      obtain ⟨hsf, hdl⟩ := HSf.out fs[t] (List.getElem_mem htl)
      have hcn := cN_le keep fs[t] hsf
      have HCF : Hid (crF keep fs[t] = ⟨fs[t].n, fs[t].d.take (cN keep fs[t]), cN keep fs[t]⟩) := rfl
      have HCN : Hid (cN keep fs[t] = if keep < 0 then fs[t].s else if keep < (fs[t].d.length : Int) - (fs[t].s : Int) then fs[t].s + keep.toNat else fs[t].d.length) := rfl
      clear hcc
      generalize fs[t] = F at *
      have hsz : (strOf F.d).size = F.d.length := strOf_size _
      have HDS : Hid (DS 98 107 w.heap.size wr w.heap.size vo ((fs.take t).map (crF keep)) (-1)) := hd
      have HBr : Hid (Below w.heap.size w wr) := hbr
      have HHr : Hid (Hands wr (w.heap.size + 1) (w.heap.size + 2) w.heap.size) := hhr
      have co := hd.cell 0
      have fo := hd.free 0
      simp at co
      have hO := hd.lt
      have chr := hhr.ch
      have hdi : (F.d.length : Int) - (F.s : Int) ≤ 3000000000 := by omega
      have hX : (keep < 0 ∧ cN keep F = F.s) ∨ (keep = 0 ∧ cN keep F = F.s) ∨ (0 < keep ∧ keep ≤ (F.d.length : Int) - (F.s : Int) ∧ (F.s : Int) + keep = (cN keep F : Int)) ∨ (0 < keep ∧ (F.d.length : Int) - (F.s : Int) < keep ∧ 0 < (F.d.length : Int) - (F.s : Int) ∧ cN keep F = F.d.length) ∨ (0 < keep ∧ F.d.length = F.s ∧ cN keep F = F.s) := by
        rw [HCN.out]
        by_cases h1 : keep < 0
        · exact .inl ⟨h1, by rw [if_pos h1]⟩
        · by_cases h3 : keep = 0
          · refine .inr (.inl ⟨h3, ?_⟩)
            rw [if_neg h1]
            split
            · omega
            · omega
          · by_cases h2 : keep ≤ (F.d.length : Int) - (F.s : Int)
            · refine .inr (.inr (.inl ⟨by omega, h2, ?_⟩))
              rw [if_neg h1]
              split
              · omega
              · omega
            · by_cases h4 : 0 < (F.d.length : Int) - (F.s : Int)
              · exact .inr (.inr (.inr (.inl ⟨by omega, by omega, h4, by rw [if_neg h1, if_neg (by omega)]⟩)))
              · exact .inr (.inr (.inr (.inr ⟨by omega, by omega, by rw [if_neg h1, if_neg (by omega)]; omega⟩)))
      have HX : Hid _ := hX
      clear hX hd hbr hhr
      obtain ⟨ao, co1, hvo, _⟩ := row3 HDS.out.row
      have hlen : ((fs.take t).map (crF keep)).length = t := by rw [List.length_map, List.length_take]; omega
      rw [hlen] at hvo
      subst hvo
      have HOff : Hid (Value.ownBlock (.slice ao t co1) ≠ some w.heap.size) := HDS.out.off (by decide)
      have HOffF : Hid (Value.ownBlock (.slice ao t co1) ≠ some wr.heap.size) := fun hh => by have := (HDS.out.row.lt wr.heap.size hh).2; omega
      have HLtD : Hid (w.heap.size + 1 < wr.heap.size) := (Array.getElem?_eq_some_iff.1 HHr.out.d).1
      have HLtH : Hid (w.heap.size + 2 < wr.heap.size) := (Array.getElem?_eq_some_iff.1 HHr.out.h).1
      have htyp : ∀ k cs ty, wr.heap[k]? = some (.cells cs ty (0, 0)) → ty ≠ 107 → Value.ownBlock (.slice ao t co1) ≠ some k := by
        intro k cs ty h1 h2 hh
        rcases HDS.out.row.2 with ⟨h3, _⟩ | ⟨g', cap, cur, h3, _, hg, _⟩
        · rw [h3] at hh; simp [Value.ownBlock] at hh
        · rw [h3] at hh
          simp [Value.ownBlock] at hh
          subst hh
          rw [h1] at hg
          simp at hg
          exact h2 hg.2
      have HOffD : Hid (Value.ownBlock (.slice ao t co1) ≠ some (w.heap.size + 1)) := htyp _ _ _ HHr.out.d (by decide)
      have HOffH : Hid (Value.ownBlock (.slice ao t co1) ≠ some (w.heap.size + 2)) := htyp _ _ _ HHr.out.h (by decide)
      clear htyp
      rcases HX.out with ⟨hk0, e⟩ | ⟨hk0, e⟩ | ⟨hk0, hk1, e⟩ | ⟨hk0, hk1, hk2, e⟩ | ⟨hk0, hk1, e⟩
      · have e' : Hid _ := e
        clear e
        go_wp2_with fail
        rw [show (Obj.cells #[Value.string (strOf F.n), Value.string ((strOf F.d).extract 0 F.s), Value.int IntKind.i64 (F.s : Int)] 107) = (Obj.cells #[Value.string (strOf F.n), Value.string (strOf (F.d.take (cN keep F))), Value.int IntKind.i64 (((cN keep F) : Nat) : Int)] 107) from by
          rw [e'.out, str_take F.d F.s (by omega)]]
        clear e' HX HCN
        generalize cN keep F = M at *
        have fc2 : ∀ i, (wr.alloc (Obj.cells #[Value.string (strOf F.n), Value.string (strOf (F.d.take M)), Value.int IntKind.i64 ((M : Nat) : Int)] 107)).cell? ⟨wr.heap.size, i, none⟩ = #[Value.string (strOf F.n), Value.string (strOf (F.d.take M)), Value.int IntKind.i64 ((M : Nat) : Int)][i]? := fun i => World.cell?_alloc_at _ _ _ _ rfl
        have hb2 := (Below.refl wr.heap.size wr).alloc (Nat.le_refl _) (Obj.cells #[Value.string (strOf F.n), Value.string (strOf (F.d.take M)), Value.int IntKind.i64 ((M : Nat) : Int)] 107)
        have hs2 : (wr.alloc (Obj.cells #[Value.string (strOf F.n), Value.string (strOf (F.d.take M)), Value.int IntKind.i64 ((M : Nat) : Int)] 107)).heap.size = wr.heap.size + 1 := by simp
        have H2 : Hid (DS 98 107 w.heap.size (wr.alloc (Obj.cells #[Value.string (strOf F.n), Value.string (strOf (F.d.take M)), Value.int IntKind.i64 ((M : Nat) : Int)] 107)) w.heap.size (.slice ao t co1) ((fs.take t).map (crF keep)) (-1)) := HDS.out.later hb2
        have HH2 : Hid (Hands (wr.alloc (Obj.cells #[Value.string (strOf F.n), Value.string (strOf (F.d.take M)), Value.int IntKind.i64 ((M : Nat) : Int)] 107)) (w.heap.size + 1) (w.heap.size + 2) w.heap.size) := HHr.out.later (hb2.block _ HLtD.out) (hb2.block _ HLtH.out)
        have HB2 : Hid (Below w.heap.size w (wr.alloc (Obj.cells #[Value.string (strOf F.n), Value.string (strOf (F.d.take M)), Value.int IntKind.i64 ((M : Nat) : Int)] 107))) := HBr.out.trans (hb2.mono hbs)
        have HRow : Hid ((wr.alloc (Obj.cells #[Value.string (strOf F.n), Value.string (strOf (F.d.take M)), Value.int IntKind.i64 ((M : Nat) : Int)] 107)).ownsRow w.heap.size 107 3 (.slice ao t co1) t (((fs.take t).map (crF keep)).flatMap FD.cells)) := by have h9 := H2.out.row; rw [hlen] at h9; exact h9
        have co2 : (wr.alloc (Obj.cells #[Value.string (strOf F.n), Value.string (strOf (F.d.take M)), Value.int IntKind.i64 ((M : Nat) : Int)] 107)).cell? ⟨w.heap.size, 0, none⟩ = some (.slice ao t co1) := (World.cell?_alloc_past _ _ _ hO).trans co
        have ch2 : (wr.alloc (Obj.cells #[Value.string (strOf F.n), Value.string (strOf (F.d.take M)), Value.int IntKind.i64 ((M : Nat) : Int)] 107)).cell? ⟨w.heap.size + 2, 0, none⟩ = some (Value.pointer (some ⟨w.heap.size, 0, none⟩)) := (World.cell?_alloc_past _ _ _ HLtH.out).trans chr
        have fo2 := H2.out.free 0
        have hO2 := H2.out.lt
        have hlH := HLtH.out
        have p0 : (wr.alloc (Obj.cells #[Value.string (strOf F.n), Value.string (strOf (F.d.take M)), Value.int IntKind.i64 ((M : Nat) : Int)] 107)).cell? ⟨wr.heap.size, 0, none⟩ = some (Value.string (strOf F.n)) := fc2 0
        have p1 : (wr.alloc (Obj.cells #[Value.string (strOf F.n), Value.string (strOf (F.d.take M)), Value.int IntKind.i64 ((M : Nat) : Int)] 107)).cell? ⟨wr.heap.size, 1, none⟩ = some (Value.string (strOf (F.d.take M))) := fc2 1
        have p2 : (wr.alloc (Obj.cells #[Value.string (strOf F.n), Value.string (strOf (F.d.take M)), Value.int IntKind.i64 ((M : Nat) : Int)] 107)).cell? ⟨wr.heap.size, 2, none⟩ = some (Value.int IntKind.i64 ((M : Nat) : Int)) := fc2 2
        clear fc2 hb2 co fo chr j0 j1 j2
        generalize (wr.alloc (Obj.cells #[Value.string (strOf F.n), Value.string (strOf (F.d.take M)), Value.int IntKind.i64 ((M : Nat) : Int)] 107)) = W2 at *
        have q1 : (W2.alloc (Obj.cells #[Value.string (strOf F.n), Value.string (strOf (F.d.take M)), Value.int IntKind.i64 ((M : Nat) : Int)] 107)).drew.cell? ⟨w.heap.size, 0, none⟩ = some (.slice ao t co1) := (World.cell?_alloc_past _ _ _ hO2).trans co2
        refine wp_region_held_drew (S := (fun w' => w'.cell? ⟨w.heap.size + 2, 0, none⟩ = some (Value.pointer (some ⟨w.heap.size, 0, none⟩)) ∧ w'.cell? ⟨wr.heap.size, 0, none⟩ = some (Value.string (strOf F.n)) ∧ w'.cell? ⟨wr.heap.size, 1, none⟩ = some (Value.string (strOf (F.d.take M))) ∧ w'.cell? ⟨wr.heap.size, 2, none⟩ = some (Value.int IntKind.i64 ((M : Nat) : Int)))) (by kernel_rfl) (by (try dsimp only); (first | (and_intros <;> assumption) | (and_intros <;> first | (exact (World.cell?_setCell_other _ _ _ _ (by intro hh; have h9 := congrArg Addr.block hh; (try simp at h9); (try omega))).trans (by assumption)) | (exact (World.cell?_alloc_past _ _ _ (by first | assumption | omega)).trans (by assumption))) | go_keep)) (fun hHeld => ?_)
        refine wpAnyH_take (i := 0) (v := ?_) rfl (by kernel_rfl) (by kernel_rfl) (by kernel_rfl) (fun _ _ _ h => h) (Or.inl ⟨by rfl, ?_⟩) (by assumption) ?_
        rotate_left
        · intro w hSw; (try dsimp only at hSw); go_simp; (try with_reducible rfl)
        try simp only [Act.put, List.setIfInBounds_toArray, List.set_cons_zero, List.set_cons_succ]
        refine wpAnyH_take (i := 1) (v := ?_) rfl (by kernel_rfl) (by kernel_rfl) (by kernel_rfl) (fun _ _ _ h => h) (Or.inl ⟨by rfl, ?_⟩) (by assumption) ?_
        rotate_left
        · intro w hSw; (try dsimp only at hSw); go_simp; (try with_reducible rfl)
        try simp only [Act.put, List.setIfInBounds_toArray, List.set_cons_zero, List.set_cons_succ]
        refine wpAnyH_take (i := 2) (v := ?_) rfl (by kernel_rfl) (by kernel_rfl) (by kernel_rfl) (fun _ _ _ h => h) (Or.inl ⟨by rfl, ?_⟩) (by assumption) ?_
        rotate_left
        · intro w hSw; (try dsimp only at hSw); go_simp; (try with_reducible rfl)
        try simp only [Act.put, List.setIfInBounds_toArray, List.set_cons_zero, List.set_cons_succ]
        refine wpAnyH_take (i := 3) (v := ?_) rfl (by kernel_rfl) (by kernel_rfl) (by kernel_rfl) (fun _ _ _ h => h) (Or.inl ⟨by rfl, ?_⟩) (by assumption) ?_
        rotate_left
        · intro w hSw; (try dsimp only at hSw); go_simp; (try with_reducible rfl)
        try simp only [Act.put, List.setIfInBounds_toArray, List.set_cons_zero, List.set_cons_succ]
        refine wpAnyH_take (i := 4) (v := ?_) rfl (by kernel_rfl) (by kernel_rfl) (by kernel_rfl) (fun _ _ _ h => h) (Or.inl ⟨by rfl, ?_⟩) (by assumption) ?_
        rotate_left
        · intro w hSw; (try dsimp only at hSw); go_simp; (try with_reducible rfl)
        try simp only [Act.put, List.setIfInBounds_toArray, List.set_cons_zero, List.set_cons_succ]
        refine wpAnyH_take (i := 5) (v := ?_) rfl (by kernel_rfl) (by kernel_rfl) (by kernel_rfl) (fun _ _ _ h => h) (Or.inl ⟨by rfl, ?_⟩) (by assumption) ?_
        rotate_left
        · intro w hSw; (try dsimp only at hSw); go_simp; (try with_reducible rfl)
        try simp only [Act.put, List.setIfInBounds_toArray, List.set_cons_zero, List.set_cons_succ]
        refine wpAnyH_take (i := 6) (v := ?_) rfl (by kernel_rfl) (by kernel_rfl) (by kernel_rfl) (fun _ _ _ h => h) (Or.inl ⟨by rfl, ?_⟩) (by assumption) ?_
        rotate_left
        · intro w hSw; (try dsimp only at hSw); go_simp; (try with_reducible rfl)
        try simp only [Act.put, List.setIfInBounds_toArray, List.set_cons_zero, List.set_cons_succ]
        refine wpAnyH_take (i := 7) (v := ?_) rfl (by kernel_rfl) (by kernel_rfl) (by kernel_rfl) (fun _ _ _ h => h) (Or.inl ⟨by rfl, ?_⟩) (by assumption) ?_
        rotate_left
        · intro w hSw; (try dsimp only at hSw); go_simp; (try with_reducible rfl)
        try simp only [Act.put, List.setIfInBounds_toArray, List.set_cons_zero, List.set_cons_succ]
        refine wpAnyH_take (i := 8) (v := ?_) rfl (by kernel_rfl) (by kernel_rfl) (by kernel_rfl) (fun _ _ _ h => h) (Or.inl ⟨by rfl, ?_⟩) (by assumption) ?_
        rotate_left
        · intro w hSw; (try dsimp only at hSw); go_simp; (try with_reducible rfl)
        try simp only [Act.put, List.setIfInBounds_toArray, List.set_cons_zero, List.set_cons_succ]
        refine wpAnyH_take (i := 9) (v := ?_) rfl (by kernel_rfl) (by kernel_rfl) (by kernel_rfl) (fun _ _ _ h => h) (Or.inl ⟨by rfl, ?_⟩) (by assumption) ?_
        rotate_left
        · intro w hSw; (try dsimp only at hSw); go_simp; (try with_reducible rfl)
        try simp only [Act.put, List.setIfInBounds_toArray, List.set_cons_zero, List.set_cons_succ]
        refine wpAnyH_take (i := 11) (v := ?_) rfl (by kernel_rfl) (by kernel_rfl) (by kernel_rfl) (fun _ _ _ h => h) (Or.inl ⟨by rfl, ?_⟩) (by assumption) ?_
        rotate_left
        · intro w hSw; (try dsimp only at hSw); go_simp; (try with_reducible rfl)
        try simp only [Act.put, List.setIfInBounds_toArray, List.set_cons_zero, List.set_cons_succ]
        refine wpAnyH_ready (rs := [10, 12]) (by kernel_rfl) (by simp) ?_
        refine AllReadyH.cons rfl (fun K hK => ?_) ?_
        · go_simp
          refine hK.out _ _ ?_ (fun hHeld => ?_)
          · (try dsimp only); (first | (and_intros <;> assumption) | (and_intros <;> first | (exact (World.cell?_setCell_other _ _ _ _ (by intro hh; have h9 := congrArg Addr.block hh; (try simp at h9); (try omega))).trans (by assumption)) | (exact (World.cell?_alloc_past _ _ _ (by first | assumption | omega)).trans (by assumption))) | go_keep)
          clear hK K
          try simp only [Act.put, List.setIfInBounds_toArray, List.set_cons_zero, List.set_cons_succ]
          refine wpAnyH_ready (rs := [12]) (by kernel_rfl) (by simp) ?_
          refine AllReadyH.cons rfl (fun K hK => ?_) ?_
          · go_simp
            refine hK.out _ _ ?_ (fun hHeld => ?_)
            · (try dsimp only); (first | (and_intros <;> assumption) | (and_intros <;> first | (exact (World.cell?_setCell_other _ _ _ _ (by intro hh; have h9 := congrArg Addr.block hh; (try simp at h9); (try omega))).trans (by assumption)) | (exact (World.cell?_alloc_past _ _ _ (by first | assumption | omega)).trans (by assumption))) | go_keep)
            clear hK K
            try simp only [Act.put, List.setIfInBounds_toArray, List.set_cons_zero, List.set_cons_succ]
            refine wpAnyH_ready (rs := [13]) (by kernel_rfl) (by simp) ?_
            refine AllReadyH.cons rfl (fun K hK => ?_) ?_
            · refine step_append_keep rfl (.tmp 58) (.tmp 60) 96 rfl w.heap.size 107 i0 (.agg #[.string ⟨#[]⟩, .string ⟨#[]⟩, .int .i64 0]) 3 40 Tryz.underlying96 hi0 hz0 hz1 hz2 rfl (by decide) (.slice ao t co1) t (((fs.take t).map (crF keep)).flatMap FD.cells) (by simp [Act.eval]) (by exact (World.ownsRow.alloc HRow.out _).drew) ⟨W2.heap.size, 0, none⟩ 1 1 [Value.string (strOf F.n), Value.string (strOf (F.d.take M)), Value.int IntKind.i64 ((M : Nat) : Int)] (by omega) (by simp [Act.eval]) rfl (by intro j u hu; rw [Go.WideShapes.add_plain]; refine (World.cell?_alloc_at _ _ _ _ rfl).trans ?_; simpa using hu) (by intro u hu; simp at hu; rcases hu with rfl | rfl | rfl <;> rfl) (by unfold maxLen; omega) (by omega) (by show _ ≤ (World.alloc _ _).heap.size; simp; omega) ?_
              intro v6 w6 ho6 hg6 hloc6
              obtain ⟨va6, vc6, rfl⟩ := shape_of ho6
              have hblk6 : ∀ k, k < W2.heap.size → Value.ownBlock (.slice ao t co1) ≠ some k → w6.heap[k]? = W2.heap[k]? := fun k hk hne => (hg6.block k (by show _ < (World.alloc _ _).heap.size; simp; omega) (Ne.symm hne)).trans (heap_alloc_old W2 _ hk)
              have hs6 : W2.heap.size ≤ w6.heap.size := Nat.le_trans (by show _ ≤ (World.alloc _ _).heap.size; simp) hg6.size
              have hO6 := hblk6 w.heap.size (by omega) HOff.out
              have hH6 := hblk6 (w.heap.size + 2) (by omega) HOffH.out
              have hD6 := hblk6 (w.heap.size + 1) (by omega) HOffD.out
              have ks6 : w6.cell? ⟨w.heap.size, 0, none⟩ = some (.slice ao t co1) := (World.cell?_of_block (w := W2) (a := ⟨w.heap.size, 0, none⟩) hO6).trans co2
              have kf6 : w6.frozen? ⟨w.heap.size, 0, none⟩ = false := (World.frozen?_of_block (w := W2) (a := ⟨w.heap.size, 0, none⟩) hO6).trans fo2
              have kh6 : w6.cell? ⟨w.heap.size + 2, 0, none⟩ = some (Value.pointer (some ⟨w.heap.size, 0, none⟩)) := (World.cell?_of_block (w := W2) (a := ⟨w.heap.size + 2, 0, none⟩) hH6).trans ch2
              have hF6 := hblk6 wr.heap.size (by omega) HOffF.out
              have y0 : w6.cell? ⟨wr.heap.size, 0, none⟩ = some (Value.string (strOf F.n)) := (World.cell?_of_block (w := W2) (a := ⟨wr.heap.size, 0, none⟩) hF6).trans p0
              have y1 : w6.cell? ⟨wr.heap.size, 1, none⟩ = some (Value.string (strOf (F.d.take M))) := (World.cell?_of_block (w := W2) (a := ⟨wr.heap.size, 1, none⟩) hF6).trans p1
              have y2 : w6.cell? ⟨wr.heap.size, 2, none⟩ = some (Value.int IntKind.i64 ((M : Nat) : Int)) := (World.cell?_of_block (w := W2) (a := ⟨wr.heap.size, 2, none⟩) hF6).trans p2
              refine hK.out _ _ ?_ (fun hHeld => ?_)
              · (try dsimp only); (first | (and_intros <;> assumption) | (and_intros <;> first | (exact (World.cell?_setCell_other _ _ _ _ (by intro hh; have h9 := congrArg Addr.block hh; (try simp at h9); (try omega))).trans (by assumption)) | (exact (World.cell?_alloc_past _ _ _ (by first | assumption | omega)).trans (by assumption))) | go_keep)
              clear hK K
              try simp only [Act.put, List.setIfInBounds_toArray, List.set_cons_zero, List.set_cons_succ]
              refine wpAnyH_ready (rs := [14]) (by kernel_rfl) (by simp) ?_
              refine AllReadyH.cons rfl (fun K hK => ?_) ?_
              · go_simp
                refine hK.out _ _ ?_ (fun hHeld => ?_)
                · (try dsimp only); (first | (and_intros <;> assumption) | (and_intros <;> first | (exact (World.cell?_setCell_other _ _ _ _ (by intro hh; have h9 := congrArg Addr.block hh; (try simp at h9); (try omega))).trans (by assumption)) | (exact (World.cell?_alloc_past _ _ _ (by first | assumption | omega)).trans (by assumption))) | go_keep)
                clear hK K
                try simp only [Act.put, List.setIfInBounds_toArray, List.set_cons_zero, List.set_cons_succ]
                refine wpAnyH_ready (rs := [15]) (by kernel_rfl) (by simp) ?_
                refine AllReadyH.cons rfl (fun K hK => ?_) ?_
                · go_simp
                  refine hK.out _ _ ?_ (fun hHeld => ?_)
                  · (try dsimp only); (first | (and_intros <;> assumption) | (and_intros <;> first | (exact (World.cell?_setCell_other _ _ _ _ (by intro hh; have h9 := congrArg Addr.block hh; (try simp at h9); (try omega))).trans (by assumption)) | (exact (World.cell?_alloc_past _ _ _ (by first | assumption | omega)).trans (by assumption))) | go_keep)
                  clear hK K
                  try simp only [Act.put, List.setIfInBounds_toArray, List.set_cons_zero, List.set_cons_succ]
                  refine wpAnyH_ready (rs := [16]) (by kernel_rfl) (by simp) ?_
                  refine AllReadyH.cons rfl (fun K hK => ?_) ?_
                  · go_simp
                    refine hK.out _ _ ?_ (fun hHeld => ?_)
                    · (try dsimp only); (first | (and_intros <;> assumption) | (and_intros <;> first | (exact (World.cell?_setCell_other _ _ _ _ (by intro hh; have h9 := congrArg Addr.block hh; (try simp at h9); (try omega))).trans (by assumption)) | (exact (World.cell?_alloc_past _ _ _ (by first | assumption | omega)).trans (by assumption))) | go_keep)
                    clear hK K
                    try simp only [Act.put, List.setIfInBounds_toArray, List.set_cons_zero, List.set_cons_succ]
                    refine wpAnyH_done (by kernel_rfl) ?_ _
                    have hne6 : Value.ownBlock (.slice va6 (t + 1) vc6) ≠ some w.heap.size := by
                      intro hh
                      obtain ⟨g', d1, d2⟩ := hloc6
                      rw [d1] at hh
                      have hgO : g' = w.heap.size := by simpa using hh
                      subst hgO
                      rcases d2 with d2 | ⟨d2, _⟩
                      · exact HOff.out d2
                      · have d3 : W2.heap.size + 1 ≤ w.heap.size := Nat.le_trans (by show _ ≤ (World.alloc _ _).heap.size; simp) d2
                        omega
                    have HN : Hid (DS 98 107 w.heap.size (w6.setCell ⟨w.heap.size, 0, none⟩ (.slice va6 (t + 1) vc6)) w.heap.size (.slice va6 (t + 1) vc6) ((fs.take (t + 1)).map (crF keep)) (-1)) := by
                      refine DS.store (low' := w.heap.size) (hO6.trans H2.out.st) ?_ (Nat.le_refl _) hne6
                      rw [HT.out, List.length_append, List.flatMap_append, hlen, HCF.out]
                      simp only [List.length_cons, List.length_nil, List.flatMap_cons, List.flatMap_nil, List.append_nil]
                      exact ho6
                    have HHN : Hid (Hands (w6.setCell ⟨w.heap.size, 0, none⟩ (.slice va6 (t + 1) vc6)) (w.heap.size + 1) (w.heap.size + 2) w.heap.size) := HH2.out.later (((But.setCell w6 ⟨w.heap.size, 0, none⟩ _).block (w.heap.size + 1) (by show w.heap.size + 1 ≠ w.heap.size; omega)).trans hD6) (((But.setCell w6 ⟨w.heap.size, 0, none⟩ _).block (w.heap.size + 2) (by show w.heap.size + 2 ≠ w.heap.size; omega)).trans hH6)
                    have HBN : Hid (Below w.heap.size w (w6.setCell ⟨w.heap.size, 0, none⟩ (.slice va6 (t + 1) vc6))) := by
                      have hb := HB2.out
                      refine Below.setCell ⟨hg6.os.trans hb.os, hg6.tape.trans hb.tape, hg6.output.trans hb.output, by have := hb.size; omega, fun k hk => (hblk6 k (by have := hb.size; omega) (fun hh => by have := (World.ownsRow.lt HRow.out k hh).1; omega)).trans (hb.block k hk)⟩ (Nat.le_refl _) _
                    clear ho6 hg6 hloc6 hblk6 hO6 hF6 hne6 hD6 hH6
                    go_wp2
                    go_roundw
                    case rel => exact ⟨t + 1, _, by omega, by go_num, HN.out, HHN.out, HBN.out⟩
                    case measure => simp [intOf]; omega
                  exact AllReadyH.nil
                exact AllReadyH.nil
              exact AllReadyH.nil
            exact AllReadyH.nil
          exact AllReadyH.nil
        refine AllReadyH.cons rfl (fun K hK => ?_) ?_
        · go_simp
          refine hK.out _ _ ?_ (fun hHeld => ?_)
          · (try dsimp only); (first | (and_intros <;> assumption) | (and_intros <;> first | (exact (World.cell?_setCell_other _ _ _ _ (by intro hh; have h9 := congrArg Addr.block hh; (try simp at h9); (try omega))).trans (by assumption)) | (exact (World.cell?_alloc_past _ _ _ (by first | assumption | omega)).trans (by assumption))) | go_keep)
          clear hK K
          try simp only [Act.put, List.setIfInBounds_toArray, List.set_cons_zero, List.set_cons_succ]
          refine wpAnyH_ready (rs := [10]) (by kernel_rfl) (by simp) ?_
          refine AllReadyH.cons rfl (fun K hK => ?_) ?_
          · go_simp
            refine hK.out _ _ ?_ (fun hHeld => ?_)
            · (try dsimp only); (first | (and_intros <;> assumption) | (and_intros <;> first | (exact (World.cell?_setCell_other _ _ _ _ (by intro hh; have h9 := congrArg Addr.block hh; (try simp at h9); (try omega))).trans (by assumption)) | (exact (World.cell?_alloc_past _ _ _ (by first | assumption | omega)).trans (by assumption))) | go_keep)
            clear hK K
            try simp only [Act.put, List.setIfInBounds_toArray, List.set_cons_zero, List.set_cons_succ]
            refine wpAnyH_ready (rs := [13]) (by kernel_rfl) (by simp) ?_
            refine AllReadyH.cons rfl (fun K hK => ?_) ?_
            · refine step_append_keep rfl (.tmp 58) (.tmp 60) 96 rfl w.heap.size 107 i0 (.agg #[.string ⟨#[]⟩, .string ⟨#[]⟩, .int .i64 0]) 3 40 Tryz.underlying96 hi0 hz0 hz1 hz2 rfl (by decide) (.slice ao t co1) t (((fs.take t).map (crF keep)).flatMap FD.cells) (by simp [Act.eval]) (by exact (World.ownsRow.alloc HRow.out _).drew) ⟨W2.heap.size, 0, none⟩ 1 1 [Value.string (strOf F.n), Value.string (strOf (F.d.take M)), Value.int IntKind.i64 ((M : Nat) : Int)] (by omega) (by simp [Act.eval]) rfl (by intro j u hu; rw [Go.WideShapes.add_plain]; refine (World.cell?_alloc_at _ _ _ _ rfl).trans ?_; simpa using hu) (by intro u hu; simp at hu; rcases hu with rfl | rfl | rfl <;> rfl) (by unfold maxLen; omega) (by omega) (by show _ ≤ (World.alloc _ _).heap.size; simp; omega) ?_
              intro v6 w6 ho6 hg6 hloc6
              obtain ⟨va6, vc6, rfl⟩ := shape_of ho6
              have hblk6 : ∀ k, k < W2.heap.size → Value.ownBlock (.slice ao t co1) ≠ some k → w6.heap[k]? = W2.heap[k]? := fun k hk hne => (hg6.block k (by show _ < (World.alloc _ _).heap.size; simp; omega) (Ne.symm hne)).trans (heap_alloc_old W2 _ hk)
              have hs6 : W2.heap.size ≤ w6.heap.size := Nat.le_trans (by show _ ≤ (World.alloc _ _).heap.size; simp) hg6.size
              have hO6 := hblk6 w.heap.size (by omega) HOff.out
              have hH6 := hblk6 (w.heap.size + 2) (by omega) HOffH.out
              have hD6 := hblk6 (w.heap.size + 1) (by omega) HOffD.out
              have ks6 : w6.cell? ⟨w.heap.size, 0, none⟩ = some (.slice ao t co1) := (World.cell?_of_block (w := W2) (a := ⟨w.heap.size, 0, none⟩) hO6).trans co2
              have kf6 : w6.frozen? ⟨w.heap.size, 0, none⟩ = false := (World.frozen?_of_block (w := W2) (a := ⟨w.heap.size, 0, none⟩) hO6).trans fo2
              have kh6 : w6.cell? ⟨w.heap.size + 2, 0, none⟩ = some (Value.pointer (some ⟨w.heap.size, 0, none⟩)) := (World.cell?_of_block (w := W2) (a := ⟨w.heap.size + 2, 0, none⟩) hH6).trans ch2
              have hF6 := hblk6 wr.heap.size (by omega) HOffF.out
              have y0 : w6.cell? ⟨wr.heap.size, 0, none⟩ = some (Value.string (strOf F.n)) := (World.cell?_of_block (w := W2) (a := ⟨wr.heap.size, 0, none⟩) hF6).trans p0
              have y1 : w6.cell? ⟨wr.heap.size, 1, none⟩ = some (Value.string (strOf (F.d.take M))) := (World.cell?_of_block (w := W2) (a := ⟨wr.heap.size, 1, none⟩) hF6).trans p1
              have y2 : w6.cell? ⟨wr.heap.size, 2, none⟩ = some (Value.int IntKind.i64 ((M : Nat) : Int)) := (World.cell?_of_block (w := W2) (a := ⟨wr.heap.size, 2, none⟩) hF6).trans p2
              refine hK.out _ _ ?_ (fun hHeld => ?_)
              · (try dsimp only); (first | (and_intros <;> assumption) | (and_intros <;> first | (exact (World.cell?_setCell_other _ _ _ _ (by intro hh; have h9 := congrArg Addr.block hh; (try simp at h9); (try omega))).trans (by assumption)) | (exact (World.cell?_alloc_past _ _ _ (by first | assumption | omega)).trans (by assumption))) | go_keep)
              clear hK K
              try simp only [Act.put, List.setIfInBounds_toArray, List.set_cons_zero, List.set_cons_succ]
              refine wpAnyH_ready (rs := [14]) (by kernel_rfl) (by simp) ?_
              refine AllReadyH.cons rfl (fun K hK => ?_) ?_
              · go_simp
                refine hK.out _ _ ?_ (fun hHeld => ?_)
                · (try dsimp only); (first | (and_intros <;> assumption) | (and_intros <;> first | (exact (World.cell?_setCell_other _ _ _ _ (by intro hh; have h9 := congrArg Addr.block hh; (try simp at h9); (try omega))).trans (by assumption)) | (exact (World.cell?_alloc_past _ _ _ (by first | assumption | omega)).trans (by assumption))) | go_keep)
                clear hK K
                try simp only [Act.put, List.setIfInBounds_toArray, List.set_cons_zero, List.set_cons_succ]
                refine wpAnyH_ready (rs := [15]) (by kernel_rfl) (by simp) ?_
                refine AllReadyH.cons rfl (fun K hK => ?_) ?_
                · go_simp
                  refine hK.out _ _ ?_ (fun hHeld => ?_)
                  · (try dsimp only); (first | (and_intros <;> assumption) | (and_intros <;> first | (exact (World.cell?_setCell_other _ _ _ _ (by intro hh; have h9 := congrArg Addr.block hh; (try simp at h9); (try omega))).trans (by assumption)) | (exact (World.cell?_alloc_past _ _ _ (by first | assumption | omega)).trans (by assumption))) | go_keep)
                  clear hK K
                  try simp only [Act.put, List.setIfInBounds_toArray, List.set_cons_zero, List.set_cons_succ]
                  refine wpAnyH_ready (rs := [16]) (by kernel_rfl) (by simp) ?_
                  refine AllReadyH.cons rfl (fun K hK => ?_) ?_
                  · go_simp
                    refine hK.out _ _ ?_ (fun hHeld => ?_)
                    · (try dsimp only); (first | (and_intros <;> assumption) | (and_intros <;> first | (exact (World.cell?_setCell_other _ _ _ _ (by intro hh; have h9 := congrArg Addr.block hh; (try simp at h9); (try omega))).trans (by assumption)) | (exact (World.cell?_alloc_past _ _ _ (by first | assumption | omega)).trans (by assumption))) | go_keep)
                    clear hK K
                    try simp only [Act.put, List.setIfInBounds_toArray, List.set_cons_zero, List.set_cons_succ]
                    refine wpAnyH_done (by kernel_rfl) ?_ _
                    have hne6 : Value.ownBlock (.slice va6 (t + 1) vc6) ≠ some w.heap.size := by
                      intro hh
                      obtain ⟨g', d1, d2⟩ := hloc6
                      rw [d1] at hh
                      have hgO : g' = w.heap.size := by simpa using hh
                      subst hgO
                      rcases d2 with d2 | ⟨d2, _⟩
                      · exact HOff.out d2
                      · have d3 : W2.heap.size + 1 ≤ w.heap.size := Nat.le_trans (by show _ ≤ (World.alloc _ _).heap.size; simp) d2
                        omega
                    have HN : Hid (DS 98 107 w.heap.size (w6.setCell ⟨w.heap.size, 0, none⟩ (.slice va6 (t + 1) vc6)) w.heap.size (.slice va6 (t + 1) vc6) ((fs.take (t + 1)).map (crF keep)) (-1)) := by
                      refine DS.store (low' := w.heap.size) (hO6.trans H2.out.st) ?_ (Nat.le_refl _) hne6
                      rw [HT.out, List.length_append, List.flatMap_append, hlen, HCF.out]
                      simp only [List.length_cons, List.length_nil, List.flatMap_cons, List.flatMap_nil, List.append_nil]
                      exact ho6
                    have HHN : Hid (Hands (w6.setCell ⟨w.heap.size, 0, none⟩ (.slice va6 (t + 1) vc6)) (w.heap.size + 1) (w.heap.size + 2) w.heap.size) := HH2.out.later (((But.setCell w6 ⟨w.heap.size, 0, none⟩ _).block (w.heap.size + 1) (by show w.heap.size + 1 ≠ w.heap.size; omega)).trans hD6) (((But.setCell w6 ⟨w.heap.size, 0, none⟩ _).block (w.heap.size + 2) (by show w.heap.size + 2 ≠ w.heap.size; omega)).trans hH6)
                    have HBN : Hid (Below w.heap.size w (w6.setCell ⟨w.heap.size, 0, none⟩ (.slice va6 (t + 1) vc6))) := by
                      have hb := HB2.out
                      refine Below.setCell ⟨hg6.os.trans hb.os, hg6.tape.trans hb.tape, hg6.output.trans hb.output, by have := hb.size; omega, fun k hk => (hblk6 k (by have := hb.size; omega) (fun hh => by have := (World.ownsRow.lt HRow.out k hh).1; omega)).trans (hb.block k hk)⟩ (Nat.le_refl _) _
                    clear ho6 hg6 hloc6 hblk6 hO6 hF6 hne6 hD6 hH6
                    go_wp2
                    go_roundw
                    case rel => exact ⟨t + 1, _, by omega, by go_num, HN.out, HHN.out, HBN.out⟩
                    case measure => simp [intOf]; omega
                  exact AllReadyH.nil
                exact AllReadyH.nil
              exact AllReadyH.nil
            exact AllReadyH.nil
          exact AllReadyH.nil
        exact AllReadyH.nil
      · have e' : Hid _ := e
        clear e
        have hkz : Hid _ := hk0
        subst hk0
        go_wp2_with fail
        rw [show (Obj.cells #[Value.string (strOf F.n), Value.string ((strOf F.d).extract 0 F.s), Value.int IntKind.i64 (F.s : Int)] 107) = (Obj.cells #[Value.string (strOf F.n), Value.string (strOf (F.d.take (cN 0 F))), Value.int IntKind.i64 (((cN 0 F) : Nat) : Int)] 107) from by
          rw [e'.out, str_take F.d F.s (by omega)]]
        clear e' HX HCN
        generalize cN 0 F = M at *
        have fc2 : ∀ i, (wr.alloc (Obj.cells #[Value.string (strOf F.n), Value.string (strOf (F.d.take M)), Value.int IntKind.i64 ((M : Nat) : Int)] 107)).cell? ⟨wr.heap.size, i, none⟩ = #[Value.string (strOf F.n), Value.string (strOf (F.d.take M)), Value.int IntKind.i64 ((M : Nat) : Int)][i]? := fun i => World.cell?_alloc_at _ _ _ _ rfl
        have hb2 := (Below.refl wr.heap.size wr).alloc (Nat.le_refl _) (Obj.cells #[Value.string (strOf F.n), Value.string (strOf (F.d.take M)), Value.int IntKind.i64 ((M : Nat) : Int)] 107)
        have hs2 : (wr.alloc (Obj.cells #[Value.string (strOf F.n), Value.string (strOf (F.d.take M)), Value.int IntKind.i64 ((M : Nat) : Int)] 107)).heap.size = wr.heap.size + 1 := by simp
        have H2 : Hid (DS 98 107 w.heap.size (wr.alloc (Obj.cells #[Value.string (strOf F.n), Value.string (strOf (F.d.take M)), Value.int IntKind.i64 ((M : Nat) : Int)] 107)) w.heap.size (.slice ao t co1) ((fs.take t).map (crF 0)) (-1)) := HDS.out.later hb2
        have HH2 : Hid (Hands (wr.alloc (Obj.cells #[Value.string (strOf F.n), Value.string (strOf (F.d.take M)), Value.int IntKind.i64 ((M : Nat) : Int)] 107)) (w.heap.size + 1) (w.heap.size + 2) w.heap.size) := HHr.out.later (hb2.block _ HLtD.out) (hb2.block _ HLtH.out)
        have HB2 : Hid (Below w.heap.size w (wr.alloc (Obj.cells #[Value.string (strOf F.n), Value.string (strOf (F.d.take M)), Value.int IntKind.i64 ((M : Nat) : Int)] 107))) := HBr.out.trans (hb2.mono hbs)
        have HRow : Hid ((wr.alloc (Obj.cells #[Value.string (strOf F.n), Value.string (strOf (F.d.take M)), Value.int IntKind.i64 ((M : Nat) : Int)] 107)).ownsRow w.heap.size 107 3 (.slice ao t co1) t (((fs.take t).map (crF 0)).flatMap FD.cells)) := by have h9 := H2.out.row; rw [hlen] at h9; exact h9
        have co2 : (wr.alloc (Obj.cells #[Value.string (strOf F.n), Value.string (strOf (F.d.take M)), Value.int IntKind.i64 ((M : Nat) : Int)] 107)).cell? ⟨w.heap.size, 0, none⟩ = some (.slice ao t co1) := (World.cell?_alloc_past _ _ _ hO).trans co
        have ch2 : (wr.alloc (Obj.cells #[Value.string (strOf F.n), Value.string (strOf (F.d.take M)), Value.int IntKind.i64 ((M : Nat) : Int)] 107)).cell? ⟨w.heap.size + 2, 0, none⟩ = some (Value.pointer (some ⟨w.heap.size, 0, none⟩)) := (World.cell?_alloc_past _ _ _ HLtH.out).trans chr
        have fo2 := H2.out.free 0
        have hO2 := H2.out.lt
        have hlH := HLtH.out
        have p0 : (wr.alloc (Obj.cells #[Value.string (strOf F.n), Value.string (strOf (F.d.take M)), Value.int IntKind.i64 ((M : Nat) : Int)] 107)).cell? ⟨wr.heap.size, 0, none⟩ = some (Value.string (strOf F.n)) := fc2 0
        have p1 : (wr.alloc (Obj.cells #[Value.string (strOf F.n), Value.string (strOf (F.d.take M)), Value.int IntKind.i64 ((M : Nat) : Int)] 107)).cell? ⟨wr.heap.size, 1, none⟩ = some (Value.string (strOf (F.d.take M))) := fc2 1
        have p2 : (wr.alloc (Obj.cells #[Value.string (strOf F.n), Value.string (strOf (F.d.take M)), Value.int IntKind.i64 ((M : Nat) : Int)] 107)).cell? ⟨wr.heap.size, 2, none⟩ = some (Value.int IntKind.i64 ((M : Nat) : Int)) := fc2 2
        clear fc2 hb2 co fo chr j0 j1 j2
        generalize (wr.alloc (Obj.cells #[Value.string (strOf F.n), Value.string (strOf (F.d.take M)), Value.int IntKind.i64 ((M : Nat) : Int)] 107)) = W2 at *
        have q1 : (W2.alloc (Obj.cells #[Value.string (strOf F.n), Value.string (strOf (F.d.take M)), Value.int IntKind.i64 ((M : Nat) : Int)] 107)).drew.cell? ⟨w.heap.size, 0, none⟩ = some (.slice ao t co1) := (World.cell?_alloc_past _ _ _ hO2).trans co2
        refine wp_region_held_drew (S := (fun w' => w'.cell? ⟨w.heap.size + 2, 0, none⟩ = some (Value.pointer (some ⟨w.heap.size, 0, none⟩)) ∧ w'.cell? ⟨wr.heap.size, 0, none⟩ = some (Value.string (strOf F.n)) ∧ w'.cell? ⟨wr.heap.size, 1, none⟩ = some (Value.string (strOf (F.d.take M))) ∧ w'.cell? ⟨wr.heap.size, 2, none⟩ = some (Value.int IntKind.i64 ((M : Nat) : Int)))) (by kernel_rfl) (by (try dsimp only); (first | (and_intros <;> assumption) | (and_intros <;> first | (exact (World.cell?_setCell_other _ _ _ _ (by intro hh; have h9 := congrArg Addr.block hh; (try simp at h9); (try omega))).trans (by assumption)) | (exact (World.cell?_alloc_past _ _ _ (by first | assumption | omega)).trans (by assumption))) | go_keep)) (fun hHeld => ?_)
        refine wpAnyH_take (i := 0) (v := ?_) rfl (by kernel_rfl) (by kernel_rfl) (by kernel_rfl) (fun _ _ _ h => h) (Or.inl ⟨by rfl, ?_⟩) (by assumption) ?_
        rotate_left
        · intro w hSw; (try dsimp only at hSw); go_simp; (try with_reducible rfl)
        try simp only [Act.put, List.setIfInBounds_toArray, List.set_cons_zero, List.set_cons_succ]
        refine wpAnyH_take (i := 1) (v := ?_) rfl (by kernel_rfl) (by kernel_rfl) (by kernel_rfl) (fun _ _ _ h => h) (Or.inl ⟨by rfl, ?_⟩) (by assumption) ?_
        rotate_left
        · intro w hSw; (try dsimp only at hSw); go_simp; (try with_reducible rfl)
        try simp only [Act.put, List.setIfInBounds_toArray, List.set_cons_zero, List.set_cons_succ]
        refine wpAnyH_take (i := 2) (v := ?_) rfl (by kernel_rfl) (by kernel_rfl) (by kernel_rfl) (fun _ _ _ h => h) (Or.inl ⟨by rfl, ?_⟩) (by assumption) ?_
        rotate_left
        · intro w hSw; (try dsimp only at hSw); go_simp; (try with_reducible rfl)
        try simp only [Act.put, List.setIfInBounds_toArray, List.set_cons_zero, List.set_cons_succ]
        refine wpAnyH_take (i := 3) (v := ?_) rfl (by kernel_rfl) (by kernel_rfl) (by kernel_rfl) (fun _ _ _ h => h) (Or.inl ⟨by rfl, ?_⟩) (by assumption) ?_
        rotate_left
        · intro w hSw; (try dsimp only at hSw); go_simp; (try with_reducible rfl)
        try simp only [Act.put, List.setIfInBounds_toArray, List.set_cons_zero, List.set_cons_succ]
        refine wpAnyH_take (i := 4) (v := ?_) rfl (by kernel_rfl) (by kernel_rfl) (by kernel_rfl) (fun _ _ _ h => h) (Or.inl ⟨by rfl, ?_⟩) (by assumption) ?_
        rotate_left
        · intro w hSw; (try dsimp only at hSw); go_simp; (try with_reducible rfl)
        try simp only [Act.put, List.setIfInBounds_toArray, List.set_cons_zero, List.set_cons_succ]
        refine wpAnyH_take (i := 5) (v := ?_) rfl (by kernel_rfl) (by kernel_rfl) (by kernel_rfl) (fun _ _ _ h => h) (Or.inl ⟨by rfl, ?_⟩) (by assumption) ?_
        rotate_left
        · intro w hSw; (try dsimp only at hSw); go_simp; (try with_reducible rfl)
        try simp only [Act.put, List.setIfInBounds_toArray, List.set_cons_zero, List.set_cons_succ]
        refine wpAnyH_take (i := 6) (v := ?_) rfl (by kernel_rfl) (by kernel_rfl) (by kernel_rfl) (fun _ _ _ h => h) (Or.inl ⟨by rfl, ?_⟩) (by assumption) ?_
        rotate_left
        · intro w hSw; (try dsimp only at hSw); go_simp; (try with_reducible rfl)
        try simp only [Act.put, List.setIfInBounds_toArray, List.set_cons_zero, List.set_cons_succ]
        refine wpAnyH_take (i := 7) (v := ?_) rfl (by kernel_rfl) (by kernel_rfl) (by kernel_rfl) (fun _ _ _ h => h) (Or.inl ⟨by rfl, ?_⟩) (by assumption) ?_
        rotate_left
        · intro w hSw; (try dsimp only at hSw); go_simp; (try with_reducible rfl)
        try simp only [Act.put, List.setIfInBounds_toArray, List.set_cons_zero, List.set_cons_succ]
        refine wpAnyH_take (i := 8) (v := ?_) rfl (by kernel_rfl) (by kernel_rfl) (by kernel_rfl) (fun _ _ _ h => h) (Or.inl ⟨by rfl, ?_⟩) (by assumption) ?_
        rotate_left
        · intro w hSw; (try dsimp only at hSw); go_simp; (try with_reducible rfl)
        try simp only [Act.put, List.setIfInBounds_toArray, List.set_cons_zero, List.set_cons_succ]
        refine wpAnyH_take (i := 9) (v := ?_) rfl (by kernel_rfl) (by kernel_rfl) (by kernel_rfl) (fun _ _ _ h => h) (Or.inl ⟨by rfl, ?_⟩) (by assumption) ?_
        rotate_left
        · intro w hSw; (try dsimp only at hSw); go_simp; (try with_reducible rfl)
        try simp only [Act.put, List.setIfInBounds_toArray, List.set_cons_zero, List.set_cons_succ]
        refine wpAnyH_take (i := 11) (v := ?_) rfl (by kernel_rfl) (by kernel_rfl) (by kernel_rfl) (fun _ _ _ h => h) (Or.inl ⟨by rfl, ?_⟩) (by assumption) ?_
        rotate_left
        · intro w hSw; (try dsimp only at hSw); go_simp; (try with_reducible rfl)
        try simp only [Act.put, List.setIfInBounds_toArray, List.set_cons_zero, List.set_cons_succ]
        refine wpAnyH_ready (rs := [10, 12]) (by kernel_rfl) (by simp) ?_
        refine AllReadyH.cons rfl (fun K hK => ?_) ?_
        · go_simp
          refine hK.out _ _ ?_ (fun hHeld => ?_)
          · (try dsimp only); (first | (and_intros <;> assumption) | (and_intros <;> first | (exact (World.cell?_setCell_other _ _ _ _ (by intro hh; have h9 := congrArg Addr.block hh; (try simp at h9); (try omega))).trans (by assumption)) | (exact (World.cell?_alloc_past _ _ _ (by first | assumption | omega)).trans (by assumption))) | go_keep)
          clear hK K
          try simp only [Act.put, List.setIfInBounds_toArray, List.set_cons_zero, List.set_cons_succ]
          refine wpAnyH_ready (rs := [12]) (by kernel_rfl) (by simp) ?_
          refine AllReadyH.cons rfl (fun K hK => ?_) ?_
          · go_simp
            refine hK.out _ _ ?_ (fun hHeld => ?_)
            · (try dsimp only); (first | (and_intros <;> assumption) | (and_intros <;> first | (exact (World.cell?_setCell_other _ _ _ _ (by intro hh; have h9 := congrArg Addr.block hh; (try simp at h9); (try omega))).trans (by assumption)) | (exact (World.cell?_alloc_past _ _ _ (by first | assumption | omega)).trans (by assumption))) | go_keep)
            clear hK K
            try simp only [Act.put, List.setIfInBounds_toArray, List.set_cons_zero, List.set_cons_succ]
            refine wpAnyH_ready (rs := [13]) (by kernel_rfl) (by simp) ?_
            refine AllReadyH.cons rfl (fun K hK => ?_) ?_
            · refine step_append_keep rfl (.tmp 58) (.tmp 60) 96 rfl w.heap.size 107 i0 (.agg #[.string ⟨#[]⟩, .string ⟨#[]⟩, .int .i64 0]) 3 40 Tryz.underlying96 hi0 hz0 hz1 hz2 rfl (by decide) (.slice ao t co1) t (((fs.take t).map (crF 0)).flatMap FD.cells) (by simp [Act.eval]) (by exact (World.ownsRow.alloc HRow.out _).drew) ⟨W2.heap.size, 0, none⟩ 1 1 [Value.string (strOf F.n), Value.string (strOf (F.d.take M)), Value.int IntKind.i64 ((M : Nat) : Int)] (by omega) (by simp [Act.eval]) rfl (by intro j u hu; rw [Go.WideShapes.add_plain]; refine (World.cell?_alloc_at _ _ _ _ rfl).trans ?_; simpa using hu) (by intro u hu; simp at hu; rcases hu with rfl | rfl | rfl <;> rfl) (by unfold maxLen; omega) (by omega) (by show _ ≤ (World.alloc _ _).heap.size; simp; omega) ?_
              intro v6 w6 ho6 hg6 hloc6
              obtain ⟨va6, vc6, rfl⟩ := shape_of ho6
              have hblk6 : ∀ k, k < W2.heap.size → Value.ownBlock (.slice ao t co1) ≠ some k → w6.heap[k]? = W2.heap[k]? := fun k hk hne => (hg6.block k (by show _ < (World.alloc _ _).heap.size; simp; omega) (Ne.symm hne)).trans (heap_alloc_old W2 _ hk)
              have hs6 : W2.heap.size ≤ w6.heap.size := Nat.le_trans (by show _ ≤ (World.alloc _ _).heap.size; simp) hg6.size
              have hO6 := hblk6 w.heap.size (by omega) HOff.out
              have hH6 := hblk6 (w.heap.size + 2) (by omega) HOffH.out
              have hD6 := hblk6 (w.heap.size + 1) (by omega) HOffD.out
              have ks6 : w6.cell? ⟨w.heap.size, 0, none⟩ = some (.slice ao t co1) := (World.cell?_of_block (w := W2) (a := ⟨w.heap.size, 0, none⟩) hO6).trans co2
              have kf6 : w6.frozen? ⟨w.heap.size, 0, none⟩ = false := (World.frozen?_of_block (w := W2) (a := ⟨w.heap.size, 0, none⟩) hO6).trans fo2
              have kh6 : w6.cell? ⟨w.heap.size + 2, 0, none⟩ = some (Value.pointer (some ⟨w.heap.size, 0, none⟩)) := (World.cell?_of_block (w := W2) (a := ⟨w.heap.size + 2, 0, none⟩) hH6).trans ch2
              have hF6 := hblk6 wr.heap.size (by omega) HOffF.out
              have y0 : w6.cell? ⟨wr.heap.size, 0, none⟩ = some (Value.string (strOf F.n)) := (World.cell?_of_block (w := W2) (a := ⟨wr.heap.size, 0, none⟩) hF6).trans p0
              have y1 : w6.cell? ⟨wr.heap.size, 1, none⟩ = some (Value.string (strOf (F.d.take M))) := (World.cell?_of_block (w := W2) (a := ⟨wr.heap.size, 1, none⟩) hF6).trans p1
              have y2 : w6.cell? ⟨wr.heap.size, 2, none⟩ = some (Value.int IntKind.i64 ((M : Nat) : Int)) := (World.cell?_of_block (w := W2) (a := ⟨wr.heap.size, 2, none⟩) hF6).trans p2
              refine hK.out _ _ ?_ (fun hHeld => ?_)
              · (try dsimp only); (first | (and_intros <;> assumption) | (and_intros <;> first | (exact (World.cell?_setCell_other _ _ _ _ (by intro hh; have h9 := congrArg Addr.block hh; (try simp at h9); (try omega))).trans (by assumption)) | (exact (World.cell?_alloc_past _ _ _ (by first | assumption | omega)).trans (by assumption))) | go_keep)
              clear hK K
              try simp only [Act.put, List.setIfInBounds_toArray, List.set_cons_zero, List.set_cons_succ]
              refine wpAnyH_ready (rs := [14]) (by kernel_rfl) (by simp) ?_
              refine AllReadyH.cons rfl (fun K hK => ?_) ?_
              · go_simp
                refine hK.out _ _ ?_ (fun hHeld => ?_)
                · (try dsimp only); (first | (and_intros <;> assumption) | (and_intros <;> first | (exact (World.cell?_setCell_other _ _ _ _ (by intro hh; have h9 := congrArg Addr.block hh; (try simp at h9); (try omega))).trans (by assumption)) | (exact (World.cell?_alloc_past _ _ _ (by first | assumption | omega)).trans (by assumption))) | go_keep)
                clear hK K
                try simp only [Act.put, List.setIfInBounds_toArray, List.set_cons_zero, List.set_cons_succ]
                refine wpAnyH_ready (rs := [15]) (by kernel_rfl) (by simp) ?_
                refine AllReadyH.cons rfl (fun K hK => ?_) ?_
                · go_simp
                  refine hK.out _ _ ?_ (fun hHeld => ?_)
                  · (try dsimp only); (first | (and_intros <;> assumption) | (and_intros <;> first | (exact (World.cell?_setCell_other _ _ _ _ (by intro hh; have h9 := congrArg Addr.block hh; (try simp at h9); (try omega))).trans (by assumption)) | (exact (World.cell?_alloc_past _ _ _ (by first | assumption | omega)).trans (by assumption))) | go_keep)
                  clear hK K
                  try simp only [Act.put, List.setIfInBounds_toArray, List.set_cons_zero, List.set_cons_succ]
                  refine wpAnyH_ready (rs := [16]) (by kernel_rfl) (by simp) ?_
                  refine AllReadyH.cons rfl (fun K hK => ?_) ?_
                  · go_simp
                    refine hK.out _ _ ?_ (fun hHeld => ?_)
                    · (try dsimp only); (first | (and_intros <;> assumption) | (and_intros <;> first | (exact (World.cell?_setCell_other _ _ _ _ (by intro hh; have h9 := congrArg Addr.block hh; (try simp at h9); (try omega))).trans (by assumption)) | (exact (World.cell?_alloc_past _ _ _ (by first | assumption | omega)).trans (by assumption))) | go_keep)
                    clear hK K
                    try simp only [Act.put, List.setIfInBounds_toArray, List.set_cons_zero, List.set_cons_succ]
                    refine wpAnyH_done (by kernel_rfl) ?_ _
                    have hne6 : Value.ownBlock (.slice va6 (t + 1) vc6) ≠ some w.heap.size := by
                      intro hh
                      obtain ⟨g', d1, d2⟩ := hloc6
                      rw [d1] at hh
                      have hgO : g' = w.heap.size := by simpa using hh
                      subst hgO
                      rcases d2 with d2 | ⟨d2, _⟩
                      · exact HOff.out d2
                      · have d3 : W2.heap.size + 1 ≤ w.heap.size := Nat.le_trans (by show _ ≤ (World.alloc _ _).heap.size; simp) d2
                        omega
                    have HN : Hid (DS 98 107 w.heap.size (w6.setCell ⟨w.heap.size, 0, none⟩ (.slice va6 (t + 1) vc6)) w.heap.size (.slice va6 (t + 1) vc6) ((fs.take (t + 1)).map (crF 0)) (-1)) := by
                      refine DS.store (low' := w.heap.size) (hO6.trans H2.out.st) ?_ (Nat.le_refl _) hne6
                      rw [HT.out, List.length_append, List.flatMap_append, hlen, HCF.out]
                      simp only [List.length_cons, List.length_nil, List.flatMap_cons, List.flatMap_nil, List.append_nil]
                      exact ho6
                    have HHN : Hid (Hands (w6.setCell ⟨w.heap.size, 0, none⟩ (.slice va6 (t + 1) vc6)) (w.heap.size + 1) (w.heap.size + 2) w.heap.size) := HH2.out.later (((But.setCell w6 ⟨w.heap.size, 0, none⟩ _).block (w.heap.size + 1) (by show w.heap.size + 1 ≠ w.heap.size; omega)).trans hD6) (((But.setCell w6 ⟨w.heap.size, 0, none⟩ _).block (w.heap.size + 2) (by show w.heap.size + 2 ≠ w.heap.size; omega)).trans hH6)
                    have HBN : Hid (Below w.heap.size w (w6.setCell ⟨w.heap.size, 0, none⟩ (.slice va6 (t + 1) vc6))) := by
                      have hb := HB2.out
                      refine Below.setCell ⟨hg6.os.trans hb.os, hg6.tape.trans hb.tape, hg6.output.trans hb.output, by have := hb.size; omega, fun k hk => (hblk6 k (by have := hb.size; omega) (fun hh => by have := (World.ownsRow.lt HRow.out k hh).1; omega)).trans (hb.block k hk)⟩ (Nat.le_refl _) _
                    clear ho6 hg6 hloc6 hblk6 hO6 hF6 hne6 hD6 hH6
                    go_wp2
                    go_roundw
                    case rel => exact ⟨t + 1, _, by omega, by go_num, HN.out, HHN.out, HBN.out⟩
                    case measure => simp [intOf]; omega
                  exact AllReadyH.nil
                exact AllReadyH.nil
              exact AllReadyH.nil
            exact AllReadyH.nil
          exact AllReadyH.nil
        refine AllReadyH.cons rfl (fun K hK => ?_) ?_
        · go_simp
          refine hK.out _ _ ?_ (fun hHeld => ?_)
          · (try dsimp only); (first | (and_intros <;> assumption) | (and_intros <;> first | (exact (World.cell?_setCell_other _ _ _ _ (by intro hh; have h9 := congrArg Addr.block hh; (try simp at h9); (try omega))).trans (by assumption)) | (exact (World.cell?_alloc_past _ _ _ (by first | assumption | omega)).trans (by assumption))) | go_keep)
          clear hK K
          try simp only [Act.put, List.setIfInBounds_toArray, List.set_cons_zero, List.set_cons_succ]
          refine wpAnyH_ready (rs := [10]) (by kernel_rfl) (by simp) ?_
          refine AllReadyH.cons rfl (fun K hK => ?_) ?_
          · go_simp
            refine hK.out _ _ ?_ (fun hHeld => ?_)
            · (try dsimp only); (first | (and_intros <;> assumption) | (and_intros <;> first | (exact (World.cell?_setCell_other _ _ _ _ (by intro hh; have h9 := congrArg Addr.block hh; (try simp at h9); (try omega))).trans (by assumption)) | (exact (World.cell?_alloc_past _ _ _ (by first | assumption | omega)).trans (by assumption))) | go_keep)
            clear hK K
            try simp only [Act.put, List.setIfInBounds_toArray, List.set_cons_zero, List.set_cons_succ]
            refine wpAnyH_ready (rs := [13]) (by kernel_rfl) (by simp) ?_
            refine AllReadyH.cons rfl (fun K hK => ?_) ?_
            · refine step_append_keep rfl (.tmp 58) (.tmp 60) 96 rfl w.heap.size 107 i0 (.agg #[.string ⟨#[]⟩, .string ⟨#[]⟩, .int .i64 0]) 3 40 Tryz.underlying96 hi0 hz0 hz1 hz2 rfl (by decide) (.slice ao t co1) t (((fs.take t).map (crF 0)).flatMap FD.cells) (by simp [Act.eval]) (by exact (World.ownsRow.alloc HRow.out _).drew) ⟨W2.heap.size, 0, none⟩ 1 1 [Value.string (strOf F.n), Value.string (strOf (F.d.take M)), Value.int IntKind.i64 ((M : Nat) : Int)] (by omega) (by simp [Act.eval]) rfl (by intro j u hu; rw [Go.WideShapes.add_plain]; refine (World.cell?_alloc_at _ _ _ _ rfl).trans ?_; simpa using hu) (by intro u hu; simp at hu; rcases hu with rfl | rfl | rfl <;> rfl) (by unfold maxLen; omega) (by omega) (by show _ ≤ (World.alloc _ _).heap.size; simp; omega) ?_
              intro v6 w6 ho6 hg6 hloc6
              obtain ⟨va6, vc6, rfl⟩ := shape_of ho6
              have hblk6 : ∀ k, k < W2.heap.size → Value.ownBlock (.slice ao t co1) ≠ some k → w6.heap[k]? = W2.heap[k]? := fun k hk hne => (hg6.block k (by show _ < (World.alloc _ _).heap.size; simp; omega) (Ne.symm hne)).trans (heap_alloc_old W2 _ hk)
              have hs6 : W2.heap.size ≤ w6.heap.size := Nat.le_trans (by show _ ≤ (World.alloc _ _).heap.size; simp) hg6.size
              have hO6 := hblk6 w.heap.size (by omega) HOff.out
              have hH6 := hblk6 (w.heap.size + 2) (by omega) HOffH.out
              have hD6 := hblk6 (w.heap.size + 1) (by omega) HOffD.out
              have ks6 : w6.cell? ⟨w.heap.size, 0, none⟩ = some (.slice ao t co1) := (World.cell?_of_block (w := W2) (a := ⟨w.heap.size, 0, none⟩) hO6).trans co2
              have kf6 : w6.frozen? ⟨w.heap.size, 0, none⟩ = false := (World.frozen?_of_block (w := W2) (a := ⟨w.heap.size, 0, none⟩) hO6).trans fo2
              have kh6 : w6.cell? ⟨w.heap.size + 2, 0, none⟩ = some (Value.pointer (some ⟨w.heap.size, 0, none⟩)) := (World.cell?_of_block (w := W2) (a := ⟨w.heap.size + 2, 0, none⟩) hH6).trans ch2
              have hF6 := hblk6 wr.heap.size (by omega) HOffF.out
              have y0 : w6.cell? ⟨wr.heap.size, 0, none⟩ = some (Value.string (strOf F.n)) := (World.cell?_of_block (w := W2) (a := ⟨wr.heap.size, 0, none⟩) hF6).trans p0
              have y1 : w6.cell? ⟨wr.heap.size, 1, none⟩ = some (Value.string (strOf (F.d.take M))) := (World.cell?_of_block (w := W2) (a := ⟨wr.heap.size, 1, none⟩) hF6).trans p1
              have y2 : w6.cell? ⟨wr.heap.size, 2, none⟩ = some (Value.int IntKind.i64 ((M : Nat) : Int)) := (World.cell?_of_block (w := W2) (a := ⟨wr.heap.size, 2, none⟩) hF6).trans p2
              refine hK.out _ _ ?_ (fun hHeld => ?_)
              · (try dsimp only); (first | (and_intros <;> assumption) | (and_intros <;> first | (exact (World.cell?_setCell_other _ _ _ _ (by intro hh; have h9 := congrArg Addr.block hh; (try simp at h9); (try omega))).trans (by assumption)) | (exact (World.cell?_alloc_past _ _ _ (by first | assumption | omega)).trans (by assumption))) | go_keep)
              clear hK K
              try simp only [Act.put, List.setIfInBounds_toArray, List.set_cons_zero, List.set_cons_succ]
              refine wpAnyH_ready (rs := [14]) (by kernel_rfl) (by simp) ?_
              refine AllReadyH.cons rfl (fun K hK => ?_) ?_
              · go_simp
                refine hK.out _ _ ?_ (fun hHeld => ?_)
                · (try dsimp only); (first | (and_intros <;> assumption) | (and_intros <;> first | (exact (World.cell?_setCell_other _ _ _ _ (by intro hh; have h9 := congrArg Addr.block hh; (try simp at h9); (try omega))).trans (by assumption)) | (exact (World.cell?_alloc_past _ _ _ (by first | assumption | omega)).trans (by assumption))) | go_keep)
                clear hK K
                try simp only [Act.put, List.setIfInBounds_toArray, List.set_cons_zero, List.set_cons_succ]
                refine wpAnyH_ready (rs := [15]) (by kernel_rfl) (by simp) ?_
                refine AllReadyH.cons rfl (fun K hK => ?_) ?_
                · go_simp
                  refine hK.out _ _ ?_ (fun hHeld => ?_)
                  · (try dsimp only); (first | (and_intros <;> assumption) | (and_intros <;> first | (exact (World.cell?_setCell_other _ _ _ _ (by intro hh; have h9 := congrArg Addr.block hh; (try simp at h9); (try omega))).trans (by assumption)) | (exact (World.cell?_alloc_past _ _ _ (by first | assumption | omega)).trans (by assumption))) | go_keep)
                  clear hK K
                  try simp only [Act.put, List.setIfInBounds_toArray, List.set_cons_zero, List.set_cons_succ]
                  refine wpAnyH_ready (rs := [16]) (by kernel_rfl) (by simp) ?_
                  refine AllReadyH.cons rfl (fun K hK => ?_) ?_
                  · go_simp
                    refine hK.out _ _ ?_ (fun hHeld => ?_)
                    · (try dsimp only); (first | (and_intros <;> assumption) | (and_intros <;> first | (exact (World.cell?_setCell_other _ _ _ _ (by intro hh; have h9 := congrArg Addr.block hh; (try simp at h9); (try omega))).trans (by assumption)) | (exact (World.cell?_alloc_past _ _ _ (by first | assumption | omega)).trans (by assumption))) | go_keep)
                    clear hK K
                    try simp only [Act.put, List.setIfInBounds_toArray, List.set_cons_zero, List.set_cons_succ]
                    refine wpAnyH_done (by kernel_rfl) ?_ _
                    have hne6 : Value.ownBlock (.slice va6 (t + 1) vc6) ≠ some w.heap.size := by
                      intro hh
                      obtain ⟨g', d1, d2⟩ := hloc6
                      rw [d1] at hh
                      have hgO : g' = w.heap.size := by simpa using hh
                      subst hgO
                      rcases d2 with d2 | ⟨d2, _⟩
                      · exact HOff.out d2
                      · have d3 : W2.heap.size + 1 ≤ w.heap.size := Nat.le_trans (by show _ ≤ (World.alloc _ _).heap.size; simp) d2
                        omega
                    have HN : Hid (DS 98 107 w.heap.size (w6.setCell ⟨w.heap.size, 0, none⟩ (.slice va6 (t + 1) vc6)) w.heap.size (.slice va6 (t + 1) vc6) ((fs.take (t + 1)).map (crF 0)) (-1)) := by
                      refine DS.store (low' := w.heap.size) (hO6.trans H2.out.st) ?_ (Nat.le_refl _) hne6
                      rw [HT.out, List.length_append, List.flatMap_append, hlen, HCF.out]
                      simp only [List.length_cons, List.length_nil, List.flatMap_cons, List.flatMap_nil, List.append_nil]
                      exact ho6
                    have HHN : Hid (Hands (w6.setCell ⟨w.heap.size, 0, none⟩ (.slice va6 (t + 1) vc6)) (w.heap.size + 1) (w.heap.size + 2) w.heap.size) := HH2.out.later (((But.setCell w6 ⟨w.heap.size, 0, none⟩ _).block (w.heap.size + 1) (by show w.heap.size + 1 ≠ w.heap.size; omega)).trans hD6) (((But.setCell w6 ⟨w.heap.size, 0, none⟩ _).block (w.heap.size + 2) (by show w.heap.size + 2 ≠ w.heap.size; omega)).trans hH6)
                    have HBN : Hid (Below w.heap.size w (w6.setCell ⟨w.heap.size, 0, none⟩ (.slice va6 (t + 1) vc6))) := by
                      have hb := HB2.out
                      refine Below.setCell ⟨hg6.os.trans hb.os, hg6.tape.trans hb.tape, hg6.output.trans hb.output, by have := hb.size; omega, fun k hk => (hblk6 k (by have := hb.size; omega) (fun hh => by have := (World.ownsRow.lt HRow.out k hh).1; omega)).trans (hb.block k hk)⟩ (Nat.le_refl _) _
                    clear ho6 hg6 hloc6 hblk6 hO6 hF6 hne6 hD6 hH6
                    go_wp2
                    go_roundw
                    case rel => exact ⟨t + 1, _, by omega, by go_num, HN.out, HHN.out, HBN.out⟩
                    case measure => simp [intOf]; omega
                  exact AllReadyH.nil
                exact AllReadyH.nil
              exact AllReadyH.nil
            exact AllReadyH.nil
          exact AllReadyH.nil
        exact AllReadyH.nil
      · have e' : Hid _ := e
        clear e
        go_wp2_with fail
        rw [show (Obj.cells #[Value.string (strOf F.n), Value.string ((strOf F.d).extract 0 ((F.s : Int) + keep).toNat), Value.int IntKind.i64 ((min ((F.s : Int) + keep).toNat F.d.length : Nat) : Int)] 107) = (Obj.cells #[Value.string (strOf F.n), Value.string (strOf (F.d.take (cN keep F))), Value.int IntKind.i64 (((cN keep F) : Nat) : Int)] 107) from by
          have hN : (F.s + keep : Int).toNat = cN keep F := by have h9 := e'.out; omega
          rw [hN, str_take F.d (cN keep F) hcn, Nat.min_eq_left hcn]]
        clear e' HX HCN
        generalize cN keep F = M at *
        have fc2 : ∀ i, (wr.alloc (Obj.cells #[Value.string (strOf F.n), Value.string (strOf (F.d.take M)), Value.int IntKind.i64 ((M : Nat) : Int)] 107)).cell? ⟨wr.heap.size, i, none⟩ = #[Value.string (strOf F.n), Value.string (strOf (F.d.take M)), Value.int IntKind.i64 ((M : Nat) : Int)][i]? := fun i => World.cell?_alloc_at _ _ _ _ rfl
        have hb2 := (Below.refl wr.heap.size wr).alloc (Nat.le_refl _) (Obj.cells #[Value.string (strOf F.n), Value.string (strOf (F.d.take M)), Value.int IntKind.i64 ((M : Nat) : Int)] 107)
        have hs2 : (wr.alloc (Obj.cells #[Value.string (strOf F.n), Value.string (strOf (F.d.take M)), Value.int IntKind.i64 ((M : Nat) : Int)] 107)).heap.size = wr.heap.size + 1 := by simp
        have H2 : Hid (DS 98 107 w.heap.size (wr.alloc (Obj.cells #[Value.string (strOf F.n), Value.string (strOf (F.d.take M)), Value.int IntKind.i64 ((M : Nat) : Int)] 107)) w.heap.size (.slice ao t co1) ((fs.take t).map (crF keep)) (-1)) := HDS.out.later hb2
        have HH2 : Hid (Hands (wr.alloc (Obj.cells #[Value.string (strOf F.n), Value.string (strOf (F.d.take M)), Value.int IntKind.i64 ((M : Nat) : Int)] 107)) (w.heap.size + 1) (w.heap.size + 2) w.heap.size) := HHr.out.later (hb2.block _ HLtD.out) (hb2.block _ HLtH.out)
        have HB2 : Hid (Below w.heap.size w (wr.alloc (Obj.cells #[Value.string (strOf F.n), Value.string (strOf (F.d.take M)), Value.int IntKind.i64 ((M : Nat) : Int)] 107))) := HBr.out.trans (hb2.mono hbs)
        have HRow : Hid ((wr.alloc (Obj.cells #[Value.string (strOf F.n), Value.string (strOf (F.d.take M)), Value.int IntKind.i64 ((M : Nat) : Int)] 107)).ownsRow w.heap.size 107 3 (.slice ao t co1) t (((fs.take t).map (crF keep)).flatMap FD.cells)) := by have h9 := H2.out.row; rw [hlen] at h9; exact h9
        have co2 : (wr.alloc (Obj.cells #[Value.string (strOf F.n), Value.string (strOf (F.d.take M)), Value.int IntKind.i64 ((M : Nat) : Int)] 107)).cell? ⟨w.heap.size, 0, none⟩ = some (.slice ao t co1) := (World.cell?_alloc_past _ _ _ hO).trans co
        have ch2 : (wr.alloc (Obj.cells #[Value.string (strOf F.n), Value.string (strOf (F.d.take M)), Value.int IntKind.i64 ((M : Nat) : Int)] 107)).cell? ⟨w.heap.size + 2, 0, none⟩ = some (Value.pointer (some ⟨w.heap.size, 0, none⟩)) := (World.cell?_alloc_past _ _ _ HLtH.out).trans chr
        have fo2 := H2.out.free 0
        have hO2 := H2.out.lt
        have hlH := HLtH.out
        have p0 : (wr.alloc (Obj.cells #[Value.string (strOf F.n), Value.string (strOf (F.d.take M)), Value.int IntKind.i64 ((M : Nat) : Int)] 107)).cell? ⟨wr.heap.size, 0, none⟩ = some (Value.string (strOf F.n)) := fc2 0
        have p1 : (wr.alloc (Obj.cells #[Value.string (strOf F.n), Value.string (strOf (F.d.take M)), Value.int IntKind.i64 ((M : Nat) : Int)] 107)).cell? ⟨wr.heap.size, 1, none⟩ = some (Value.string (strOf (F.d.take M))) := fc2 1
        have p2 : (wr.alloc (Obj.cells #[Value.string (strOf F.n), Value.string (strOf (F.d.take M)), Value.int IntKind.i64 ((M : Nat) : Int)] 107)).cell? ⟨wr.heap.size, 2, none⟩ = some (Value.int IntKind.i64 ((M : Nat) : Int)) := fc2 2
        clear fc2 hb2 co fo chr j0 j1 j2
        generalize (wr.alloc (Obj.cells #[Value.string (strOf F.n), Value.string (strOf (F.d.take M)), Value.int IntKind.i64 ((M : Nat) : Int)] 107)) = W2 at *
        have q1 : (W2.alloc (Obj.cells #[Value.string (strOf F.n), Value.string (strOf (F.d.take M)), Value.int IntKind.i64 ((M : Nat) : Int)] 107)).drew.cell? ⟨w.heap.size, 0, none⟩ = some (.slice ao t co1) := (World.cell?_alloc_past _ _ _ hO2).trans co2
        refine wp_region_held_drew (S := (fun w' => w'.cell? ⟨w.heap.size + 2, 0, none⟩ = some (Value.pointer (some ⟨w.heap.size, 0, none⟩)) ∧ w'.cell? ⟨wr.heap.size, 0, none⟩ = some (Value.string (strOf F.n)) ∧ w'.cell? ⟨wr.heap.size, 1, none⟩ = some (Value.string (strOf (F.d.take M))) ∧ w'.cell? ⟨wr.heap.size, 2, none⟩ = some (Value.int IntKind.i64 ((M : Nat) : Int)))) (by kernel_rfl) (by (try dsimp only); (first | (and_intros <;> assumption) | (and_intros <;> first | (exact (World.cell?_setCell_other _ _ _ _ (by intro hh; have h9 := congrArg Addr.block hh; (try simp at h9); (try omega))).trans (by assumption)) | (exact (World.cell?_alloc_past _ _ _ (by first | assumption | omega)).trans (by assumption))) | go_keep)) (fun hHeld => ?_)
        refine wpAnyH_take (i := 0) (v := ?_) rfl (by kernel_rfl) (by kernel_rfl) (by kernel_rfl) (fun _ _ _ h => h) (Or.inl ⟨by rfl, ?_⟩) (by assumption) ?_
        rotate_left
        · intro w hSw; (try dsimp only at hSw); go_simp; (try with_reducible rfl)
        try simp only [Act.put, List.setIfInBounds_toArray, List.set_cons_zero, List.set_cons_succ]
        refine wpAnyH_take (i := 1) (v := ?_) rfl (by kernel_rfl) (by kernel_rfl) (by kernel_rfl) (fun _ _ _ h => h) (Or.inl ⟨by rfl, ?_⟩) (by assumption) ?_
        rotate_left
        · intro w hSw; (try dsimp only at hSw); go_simp; (try with_reducible rfl)
        try simp only [Act.put, List.setIfInBounds_toArray, List.set_cons_zero, List.set_cons_succ]
        refine wpAnyH_take (i := 2) (v := ?_) rfl (by kernel_rfl) (by kernel_rfl) (by kernel_rfl) (fun _ _ _ h => h) (Or.inl ⟨by rfl, ?_⟩) (by assumption) ?_
        rotate_left
        · intro w hSw; (try dsimp only at hSw); go_simp; (try with_reducible rfl)
        try simp only [Act.put, List.setIfInBounds_toArray, List.set_cons_zero, List.set_cons_succ]
        refine wpAnyH_take (i := 3) (v := ?_) rfl (by kernel_rfl) (by kernel_rfl) (by kernel_rfl) (fun _ _ _ h => h) (Or.inl ⟨by rfl, ?_⟩) (by assumption) ?_
        rotate_left
        · intro w hSw; (try dsimp only at hSw); go_simp; (try with_reducible rfl)
        try simp only [Act.put, List.setIfInBounds_toArray, List.set_cons_zero, List.set_cons_succ]
        refine wpAnyH_take (i := 4) (v := ?_) rfl (by kernel_rfl) (by kernel_rfl) (by kernel_rfl) (fun _ _ _ h => h) (Or.inl ⟨by rfl, ?_⟩) (by assumption) ?_
        rotate_left
        · intro w hSw; (try dsimp only at hSw); go_simp; (try with_reducible rfl)
        try simp only [Act.put, List.setIfInBounds_toArray, List.set_cons_zero, List.set_cons_succ]
        refine wpAnyH_take (i := 5) (v := ?_) rfl (by kernel_rfl) (by kernel_rfl) (by kernel_rfl) (fun _ _ _ h => h) (Or.inl ⟨by rfl, ?_⟩) (by assumption) ?_
        rotate_left
        · intro w hSw; (try dsimp only at hSw); go_simp; (try with_reducible rfl)
        try simp only [Act.put, List.setIfInBounds_toArray, List.set_cons_zero, List.set_cons_succ]
        refine wpAnyH_take (i := 6) (v := ?_) rfl (by kernel_rfl) (by kernel_rfl) (by kernel_rfl) (fun _ _ _ h => h) (Or.inl ⟨by rfl, ?_⟩) (by assumption) ?_
        rotate_left
        · intro w hSw; (try dsimp only at hSw); go_simp; (try with_reducible rfl)
        try simp only [Act.put, List.setIfInBounds_toArray, List.set_cons_zero, List.set_cons_succ]
        refine wpAnyH_take (i := 7) (v := ?_) rfl (by kernel_rfl) (by kernel_rfl) (by kernel_rfl) (fun _ _ _ h => h) (Or.inl ⟨by rfl, ?_⟩) (by assumption) ?_
        rotate_left
        · intro w hSw; (try dsimp only at hSw); go_simp; (try with_reducible rfl)
        try simp only [Act.put, List.setIfInBounds_toArray, List.set_cons_zero, List.set_cons_succ]
        refine wpAnyH_take (i := 8) (v := ?_) rfl (by kernel_rfl) (by kernel_rfl) (by kernel_rfl) (fun _ _ _ h => h) (Or.inl ⟨by rfl, ?_⟩) (by assumption) ?_
        rotate_left
        · intro w hSw; (try dsimp only at hSw); go_simp; (try with_reducible rfl)
        try simp only [Act.put, List.setIfInBounds_toArray, List.set_cons_zero, List.set_cons_succ]
        refine wpAnyH_take (i := 9) (v := ?_) rfl (by kernel_rfl) (by kernel_rfl) (by kernel_rfl) (fun _ _ _ h => h) (Or.inl ⟨by rfl, ?_⟩) (by assumption) ?_
        rotate_left
        · intro w hSw; (try dsimp only at hSw); go_simp; (try with_reducible rfl)
        try simp only [Act.put, List.setIfInBounds_toArray, List.set_cons_zero, List.set_cons_succ]
        refine wpAnyH_take (i := 11) (v := ?_) rfl (by kernel_rfl) (by kernel_rfl) (by kernel_rfl) (fun _ _ _ h => h) (Or.inl ⟨by rfl, ?_⟩) (by assumption) ?_
        rotate_left
        · intro w hSw; (try dsimp only at hSw); go_simp; (try with_reducible rfl)
        try simp only [Act.put, List.setIfInBounds_toArray, List.set_cons_zero, List.set_cons_succ]
        refine wpAnyH_ready (rs := [10, 12]) (by kernel_rfl) (by simp) ?_
        refine AllReadyH.cons rfl (fun K hK => ?_) ?_
        · go_simp
          refine hK.out _ _ ?_ (fun hHeld => ?_)
          · (try dsimp only); (first | (and_intros <;> assumption) | (and_intros <;> first | (exact (World.cell?_setCell_other _ _ _ _ (by intro hh; have h9 := congrArg Addr.block hh; (try simp at h9); (try omega))).trans (by assumption)) | (exact (World.cell?_alloc_past _ _ _ (by first | assumption | omega)).trans (by assumption))) | go_keep)
          clear hK K
          try simp only [Act.put, List.setIfInBounds_toArray, List.set_cons_zero, List.set_cons_succ]
          refine wpAnyH_ready (rs := [12]) (by kernel_rfl) (by simp) ?_
          refine AllReadyH.cons rfl (fun K hK => ?_) ?_
          · go_simp
            refine hK.out _ _ ?_ (fun hHeld => ?_)
            · (try dsimp only); (first | (and_intros <;> assumption) | (and_intros <;> first | (exact (World.cell?_setCell_other _ _ _ _ (by intro hh; have h9 := congrArg Addr.block hh; (try simp at h9); (try omega))).trans (by assumption)) | (exact (World.cell?_alloc_past _ _ _ (by first | assumption | omega)).trans (by assumption))) | go_keep)
            clear hK K
            try simp only [Act.put, List.setIfInBounds_toArray, List.set_cons_zero, List.set_cons_succ]
            refine wpAnyH_ready (rs := [13]) (by kernel_rfl) (by simp) ?_
            refine AllReadyH.cons rfl (fun K hK => ?_) ?_
            · refine step_append_keep rfl (.tmp 58) (.tmp 60) 96 rfl w.heap.size 107 i0 (.agg #[.string ⟨#[]⟩, .string ⟨#[]⟩, .int .i64 0]) 3 40 Tryz.underlying96 hi0 hz0 hz1 hz2 rfl (by decide) (.slice ao t co1) t (((fs.take t).map (crF keep)).flatMap FD.cells) (by simp [Act.eval]) (by exact (World.ownsRow.alloc HRow.out _).drew) ⟨W2.heap.size, 0, none⟩ 1 1 [Value.string (strOf F.n), Value.string (strOf (F.d.take M)), Value.int IntKind.i64 ((M : Nat) : Int)] (by omega) (by simp [Act.eval]) rfl (by intro j u hu; rw [Go.WideShapes.add_plain]; refine (World.cell?_alloc_at _ _ _ _ rfl).trans ?_; simpa using hu) (by intro u hu; simp at hu; rcases hu with rfl | rfl | rfl <;> rfl) (by unfold maxLen; omega) (by omega) (by show _ ≤ (World.alloc _ _).heap.size; simp; omega) ?_
              intro v6 w6 ho6 hg6 hloc6
              obtain ⟨va6, vc6, rfl⟩ := shape_of ho6
              have hblk6 : ∀ k, k < W2.heap.size → Value.ownBlock (.slice ao t co1) ≠ some k → w6.heap[k]? = W2.heap[k]? := fun k hk hne => (hg6.block k (by show _ < (World.alloc _ _).heap.size; simp; omega) (Ne.symm hne)).trans (heap_alloc_old W2 _ hk)
              have hs6 : W2.heap.size ≤ w6.heap.size := Nat.le_trans (by show _ ≤ (World.alloc _ _).heap.size; simp) hg6.size
              have hO6 := hblk6 w.heap.size (by omega) HOff.out
              have hH6 := hblk6 (w.heap.size + 2) (by omega) HOffH.out
              have hD6 := hblk6 (w.heap.size + 1) (by omega) HOffD.out
              have ks6 : w6.cell? ⟨w.heap.size, 0, none⟩ = some (.slice ao t co1) := (World.cell?_of_block (w := W2) (a := ⟨w.heap.size, 0, none⟩) hO6).trans co2
              have kf6 : w6.frozen? ⟨w.heap.size, 0, none⟩ = false := (World.frozen?_of_block (w := W2) (a := ⟨w.heap.size, 0, none⟩) hO6).trans fo2
              have kh6 : w6.cell? ⟨w.heap.size + 2, 0, none⟩ = some (Value.pointer (some ⟨w.heap.size, 0, none⟩)) := (World.cell?_of_block (w := W2) (a := ⟨w.heap.size + 2, 0, none⟩) hH6).trans ch2
              have hF6 := hblk6 wr.heap.size (by omega) HOffF.out
              have y0 : w6.cell? ⟨wr.heap.size, 0, none⟩ = some (Value.string (strOf F.n)) := (World.cell?_of_block (w := W2) (a := ⟨wr.heap.size, 0, none⟩) hF6).trans p0
              have y1 : w6.cell? ⟨wr.heap.size, 1, none⟩ = some (Value.string (strOf (F.d.take M))) := (World.cell?_of_block (w := W2) (a := ⟨wr.heap.size, 1, none⟩) hF6).trans p1
              have y2 : w6.cell? ⟨wr.heap.size, 2, none⟩ = some (Value.int IntKind.i64 ((M : Nat) : Int)) := (World.cell?_of_block (w := W2) (a := ⟨wr.heap.size, 2, none⟩) hF6).trans p2
              refine hK.out _ _ ?_ (fun hHeld => ?_)
              · (try dsimp only); (first | (and_intros <;> assumption) | (and_intros <;> first | (exact (World.cell?_setCell_other _ _ _ _ (by intro hh; have h9 := congrArg Addr.block hh; (try simp at h9); (try omega))).trans (by assumption)) | (exact (World.cell?_alloc_past _ _ _ (by first | assumption | omega)).trans (by assumption))) | go_keep)
              clear hK K
              try simp only [Act.put, List.setIfInBounds_toArray, List.set_cons_zero, List.set_cons_succ]
              refine wpAnyH_ready (rs := [14]) (by kernel_rfl) (by simp) ?_
              refine AllReadyH.cons rfl (fun K hK => ?_) ?_
              · go_simp
                refine hK.out _ _ ?_ (fun hHeld => ?_)
                · (try dsimp only); (first | (and_intros <;> assumption) | (and_intros <;> first | (exact (World.cell?_setCell_other _ _ _ _ (by intro hh; have h9 := congrArg Addr.block hh; (try simp at h9); (try omega))).trans (by assumption)) | (exact (World.cell?_alloc_past _ _ _ (by first | assumption | omega)).trans (by assumption))) | go_keep)
                clear hK K
                try simp only [Act.put, List.setIfInBounds_toArray, List.set_cons_zero, List.set_cons_succ]
                refine wpAnyH_ready (rs := [15]) (by kernel_rfl) (by simp) ?_
                refine AllReadyH.cons rfl (fun K hK => ?_) ?_
                · go_simp
                  refine hK.out _ _ ?_ (fun hHeld => ?_)
                  · (try dsimp only); (first | (and_intros <;> assumption) | (and_intros <;> first | (exact (World.cell?_setCell_other _ _ _ _ (by intro hh; have h9 := congrArg Addr.block hh; (try simp at h9); (try omega))).trans (by assumption)) | (exact (World.cell?_alloc_past _ _ _ (by first | assumption | omega)).trans (by assumption))) | go_keep)
                  clear hK K
                  try simp only [Act.put, List.setIfInBounds_toArray, List.set_cons_zero, List.set_cons_succ]
                  refine wpAnyH_ready (rs := [16]) (by kernel_rfl) (by simp) ?_
                  refine AllReadyH.cons rfl (fun K hK => ?_) ?_
                  · go_simp
                    refine hK.out _ _ ?_ (fun hHeld => ?_)
                    · (try dsimp only); (first | (and_intros <;> assumption) | (and_intros <;> first | (exact (World.cell?_setCell_other _ _ _ _ (by intro hh; have h9 := congrArg Addr.block hh; (try simp at h9); (try omega))).trans (by assumption)) | (exact (World.cell?_alloc_past _ _ _ (by first | assumption | omega)).trans (by assumption))) | go_keep)
                    clear hK K
                    try simp only [Act.put, List.setIfInBounds_toArray, List.set_cons_zero, List.set_cons_succ]
                    refine wpAnyH_done (by kernel_rfl) ?_ _
                    have hne6 : Value.ownBlock (.slice va6 (t + 1) vc6) ≠ some w.heap.size := by
                      intro hh
                      obtain ⟨g', d1, d2⟩ := hloc6
                      rw [d1] at hh
                      have hgO : g' = w.heap.size := by simpa using hh
                      subst hgO
                      rcases d2 with d2 | ⟨d2, _⟩
                      · exact HOff.out d2
                      · have d3 : W2.heap.size + 1 ≤ w.heap.size := Nat.le_trans (by show _ ≤ (World.alloc _ _).heap.size; simp) d2
                        omega
                    have HN : Hid (DS 98 107 w.heap.size (w6.setCell ⟨w.heap.size, 0, none⟩ (.slice va6 (t + 1) vc6)) w.heap.size (.slice va6 (t + 1) vc6) ((fs.take (t + 1)).map (crF keep)) (-1)) := by
                      refine DS.store (low' := w.heap.size) (hO6.trans H2.out.st) ?_ (Nat.le_refl _) hne6
                      rw [HT.out, List.length_append, List.flatMap_append, hlen, HCF.out]
                      simp only [List.length_cons, List.length_nil, List.flatMap_cons, List.flatMap_nil, List.append_nil]
                      exact ho6
                    have HHN : Hid (Hands (w6.setCell ⟨w.heap.size, 0, none⟩ (.slice va6 (t + 1) vc6)) (w.heap.size + 1) (w.heap.size + 2) w.heap.size) := HH2.out.later (((But.setCell w6 ⟨w.heap.size, 0, none⟩ _).block (w.heap.size + 1) (by show w.heap.size + 1 ≠ w.heap.size; omega)).trans hD6) (((But.setCell w6 ⟨w.heap.size, 0, none⟩ _).block (w.heap.size + 2) (by show w.heap.size + 2 ≠ w.heap.size; omega)).trans hH6)
                    have HBN : Hid (Below w.heap.size w (w6.setCell ⟨w.heap.size, 0, none⟩ (.slice va6 (t + 1) vc6))) := by
                      have hb := HB2.out
                      refine Below.setCell ⟨hg6.os.trans hb.os, hg6.tape.trans hb.tape, hg6.output.trans hb.output, by have := hb.size; omega, fun k hk => (hblk6 k (by have := hb.size; omega) (fun hh => by have := (World.ownsRow.lt HRow.out k hh).1; omega)).trans (hb.block k hk)⟩ (Nat.le_refl _) _
                    clear ho6 hg6 hloc6 hblk6 hO6 hF6 hne6 hD6 hH6
                    go_wp2
                    go_roundw
                    case rel => exact ⟨t + 1, _, by omega, by go_num, HN.out, HHN.out, HBN.out⟩
                    case measure => simp [intOf]; omega
                  exact AllReadyH.nil
                exact AllReadyH.nil
              exact AllReadyH.nil
            exact AllReadyH.nil
          exact AllReadyH.nil
        refine AllReadyH.cons rfl (fun K hK => ?_) ?_
        · go_simp
          refine hK.out _ _ ?_ (fun hHeld => ?_)
          · (try dsimp only); (first | (and_intros <;> assumption) | (and_intros <;> first | (exact (World.cell?_setCell_other _ _ _ _ (by intro hh; have h9 := congrArg Addr.block hh; (try simp at h9); (try omega))).trans (by assumption)) | (exact (World.cell?_alloc_past _ _ _ (by first | assumption | omega)).trans (by assumption))) | go_keep)
          clear hK K
          try simp only [Act.put, List.setIfInBounds_toArray, List.set_cons_zero, List.set_cons_succ]
          refine wpAnyH_ready (rs := [10]) (by kernel_rfl) (by simp) ?_
          refine AllReadyH.cons rfl (fun K hK => ?_) ?_
          · go_simp
            refine hK.out _ _ ?_ (fun hHeld => ?_)
            · (try dsimp only); (first | (and_intros <;> assumption) | (and_intros <;> first | (exact (World.cell?_setCell_other _ _ _ _ (by intro hh; have h9 := congrArg Addr.block hh; (try simp at h9); (try omega))).trans (by assumption)) | (exact (World.cell?_alloc_past _ _ _ (by first | assumption | omega)).trans (by assumption))) | go_keep)
            clear hK K
            try simp only [Act.put, List.setIfInBounds_toArray, List.set_cons_zero, List.set_cons_succ]
            refine wpAnyH_ready (rs := [13]) (by kernel_rfl) (by simp) ?_
            refine AllReadyH.cons rfl (fun K hK => ?_) ?_
            · refine step_append_keep rfl (.tmp 58) (.tmp 60) 96 rfl w.heap.size 107 i0 (.agg #[.string ⟨#[]⟩, .string ⟨#[]⟩, .int .i64 0]) 3 40 Tryz.underlying96 hi0 hz0 hz1 hz2 rfl (by decide) (.slice ao t co1) t (((fs.take t).map (crF keep)).flatMap FD.cells) (by simp [Act.eval]) (by exact (World.ownsRow.alloc HRow.out _).drew) ⟨W2.heap.size, 0, none⟩ 1 1 [Value.string (strOf F.n), Value.string (strOf (F.d.take M)), Value.int IntKind.i64 ((M : Nat) : Int)] (by omega) (by simp [Act.eval]) rfl (by intro j u hu; rw [Go.WideShapes.add_plain]; refine (World.cell?_alloc_at _ _ _ _ rfl).trans ?_; simpa using hu) (by intro u hu; simp at hu; rcases hu with rfl | rfl | rfl <;> rfl) (by unfold maxLen; omega) (by omega) (by show _ ≤ (World.alloc _ _).heap.size; simp; omega) ?_
              intro v6 w6 ho6 hg6 hloc6
              obtain ⟨va6, vc6, rfl⟩ := shape_of ho6
              have hblk6 : ∀ k, k < W2.heap.size → Value.ownBlock (.slice ao t co1) ≠ some k → w6.heap[k]? = W2.heap[k]? := fun k hk hne => (hg6.block k (by show _ < (World.alloc _ _).heap.size; simp; omega) (Ne.symm hne)).trans (heap_alloc_old W2 _ hk)
              have hs6 : W2.heap.size ≤ w6.heap.size := Nat.le_trans (by show _ ≤ (World.alloc _ _).heap.size; simp) hg6.size
              have hO6 := hblk6 w.heap.size (by omega) HOff.out
              have hH6 := hblk6 (w.heap.size + 2) (by omega) HOffH.out
              have hD6 := hblk6 (w.heap.size + 1) (by omega) HOffD.out
              have ks6 : w6.cell? ⟨w.heap.size, 0, none⟩ = some (.slice ao t co1) := (World.cell?_of_block (w := W2) (a := ⟨w.heap.size, 0, none⟩) hO6).trans co2
              have kf6 : w6.frozen? ⟨w.heap.size, 0, none⟩ = false := (World.frozen?_of_block (w := W2) (a := ⟨w.heap.size, 0, none⟩) hO6).trans fo2
              have kh6 : w6.cell? ⟨w.heap.size + 2, 0, none⟩ = some (Value.pointer (some ⟨w.heap.size, 0, none⟩)) := (World.cell?_of_block (w := W2) (a := ⟨w.heap.size + 2, 0, none⟩) hH6).trans ch2
              have hF6 := hblk6 wr.heap.size (by omega) HOffF.out
              have y0 : w6.cell? ⟨wr.heap.size, 0, none⟩ = some (Value.string (strOf F.n)) := (World.cell?_of_block (w := W2) (a := ⟨wr.heap.size, 0, none⟩) hF6).trans p0
              have y1 : w6.cell? ⟨wr.heap.size, 1, none⟩ = some (Value.string (strOf (F.d.take M))) := (World.cell?_of_block (w := W2) (a := ⟨wr.heap.size, 1, none⟩) hF6).trans p1
              have y2 : w6.cell? ⟨wr.heap.size, 2, none⟩ = some (Value.int IntKind.i64 ((M : Nat) : Int)) := (World.cell?_of_block (w := W2) (a := ⟨wr.heap.size, 2, none⟩) hF6).trans p2
              refine hK.out _ _ ?_ (fun hHeld => ?_)
              · (try dsimp only); (first | (and_intros <;> assumption) | (and_intros <;> first | (exact (World.cell?_setCell_other _ _ _ _ (by intro hh; have h9 := congrArg Addr.block hh; (try simp at h9); (try omega))).trans (by assumption)) | (exact (World.cell?_alloc_past _ _ _ (by first | assumption | omega)).trans (by assumption))) | go_keep)
              clear hK K
              try simp only [Act.put, List.setIfInBounds_toArray, List.set_cons_zero, List.set_cons_succ]
              refine wpAnyH_ready (rs := [14]) (by kernel_rfl) (by simp) ?_
              refine AllReadyH.cons rfl (fun K hK => ?_) ?_
              · go_simp
                refine hK.out _ _ ?_ (fun hHeld => ?_)
                · (try dsimp only); (first | (and_intros <;> assumption) | (and_intros <;> first | (exact (World.cell?_setCell_other _ _ _ _ (by intro hh; have h9 := congrArg Addr.block hh; (try simp at h9); (try omega))).trans (by assumption)) | (exact (World.cell?_alloc_past _ _ _ (by first | assumption | omega)).trans (by assumption))) | go_keep)
                clear hK K
                try simp only [Act.put, List.setIfInBounds_toArray, List.set_cons_zero, List.set_cons_succ]
                refine wpAnyH_ready (rs := [15]) (by kernel_rfl) (by simp) ?_
                refine AllReadyH.cons rfl (fun K hK => ?_) ?_
                · go_simp
                  refine hK.out _ _ ?_ (fun hHeld => ?_)
                  · (try dsimp only); (first | (and_intros <;> assumption) | (and_intros <;> first | (exact (World.cell?_setCell_other _ _ _ _ (by intro hh; have h9 := congrArg Addr.block hh; (try simp at h9); (try omega))).trans (by assumption)) | (exact (World.cell?_alloc_past _ _ _ (by first | assumption | omega)).trans (by assumption))) | go_keep)
                  clear hK K
                  try simp only [Act.put, List.setIfInBounds_toArray, List.set_cons_zero, List.set_cons_succ]
                  refine wpAnyH_ready (rs := [16]) (by kernel_rfl) (by simp) ?_
                  refine AllReadyH.cons rfl (fun K hK => ?_) ?_
                  · go_simp
                    refine hK.out _ _ ?_ (fun hHeld => ?_)
                    · (try dsimp only); (first | (and_intros <;> assumption) | (and_intros <;> first | (exact (World.cell?_setCell_other _ _ _ _ (by intro hh; have h9 := congrArg Addr.block hh; (try simp at h9); (try omega))).trans (by assumption)) | (exact (World.cell?_alloc_past _ _ _ (by first | assumption | omega)).trans (by assumption))) | go_keep)
                    clear hK K
                    try simp only [Act.put, List.setIfInBounds_toArray, List.set_cons_zero, List.set_cons_succ]
                    refine wpAnyH_done (by kernel_rfl) ?_ _
                    have hne6 : Value.ownBlock (.slice va6 (t + 1) vc6) ≠ some w.heap.size := by
                      intro hh
                      obtain ⟨g', d1, d2⟩ := hloc6
                      rw [d1] at hh
                      have hgO : g' = w.heap.size := by simpa using hh
                      subst hgO
                      rcases d2 with d2 | ⟨d2, _⟩
                      · exact HOff.out d2
                      · have d3 : W2.heap.size + 1 ≤ w.heap.size := Nat.le_trans (by show _ ≤ (World.alloc _ _).heap.size; simp) d2
                        omega
                    have HN : Hid (DS 98 107 w.heap.size (w6.setCell ⟨w.heap.size, 0, none⟩ (.slice va6 (t + 1) vc6)) w.heap.size (.slice va6 (t + 1) vc6) ((fs.take (t + 1)).map (crF keep)) (-1)) := by
                      refine DS.store (low' := w.heap.size) (hO6.trans H2.out.st) ?_ (Nat.le_refl _) hne6
                      rw [HT.out, List.length_append, List.flatMap_append, hlen, HCF.out]
                      simp only [List.length_cons, List.length_nil, List.flatMap_cons, List.flatMap_nil, List.append_nil]
                      exact ho6
                    have HHN : Hid (Hands (w6.setCell ⟨w.heap.size, 0, none⟩ (.slice va6 (t + 1) vc6)) (w.heap.size + 1) (w.heap.size + 2) w.heap.size) := HH2.out.later (((But.setCell w6 ⟨w.heap.size, 0, none⟩ _).block (w.heap.size + 1) (by show w.heap.size + 1 ≠ w.heap.size; omega)).trans hD6) (((But.setCell w6 ⟨w.heap.size, 0, none⟩ _).block (w.heap.size + 2) (by show w.heap.size + 2 ≠ w.heap.size; omega)).trans hH6)
                    have HBN : Hid (Below w.heap.size w (w6.setCell ⟨w.heap.size, 0, none⟩ (.slice va6 (t + 1) vc6))) := by
                      have hb := HB2.out
                      refine Below.setCell ⟨hg6.os.trans hb.os, hg6.tape.trans hb.tape, hg6.output.trans hb.output, by have := hb.size; omega, fun k hk => (hblk6 k (by have := hb.size; omega) (fun hh => by have := (World.ownsRow.lt HRow.out k hh).1; omega)).trans (hb.block k hk)⟩ (Nat.le_refl _) _
                    clear ho6 hg6 hloc6 hblk6 hO6 hF6 hne6 hD6 hH6
                    go_wp2
                    go_roundw
                    case rel => exact ⟨t + 1, _, by omega, by go_num, HN.out, HHN.out, HBN.out⟩
                    case measure => simp [intOf]; omega
                  exact AllReadyH.nil
                exact AllReadyH.nil
              exact AllReadyH.nil
            exact AllReadyH.nil
          exact AllReadyH.nil
        exact AllReadyH.nil
      · have e' : Hid _ := e
        clear e
        go_wp2_with fail
        rw [show (Obj.cells #[Value.string (strOf F.n), Value.string ((strOf F.d).extract 0 F.d.length), Value.int IntKind.i64 (F.d.length : Int)] 107) = (Obj.cells #[Value.string (strOf F.n), Value.string (strOf (F.d.take (cN keep F))), Value.int IntKind.i64 (((cN keep F) : Nat) : Int)] 107) from by
          rw [e'.out, str_take F.d F.d.length (Nat.le_refl _)]]
        clear e' HX HCN
        generalize cN keep F = M at *
        have fc2 : ∀ i, (wr.alloc (Obj.cells #[Value.string (strOf F.n), Value.string (strOf (F.d.take M)), Value.int IntKind.i64 ((M : Nat) : Int)] 107)).cell? ⟨wr.heap.size, i, none⟩ = #[Value.string (strOf F.n), Value.string (strOf (F.d.take M)), Value.int IntKind.i64 ((M : Nat) : Int)][i]? := fun i => World.cell?_alloc_at _ _ _ _ rfl
        have hb2 := (Below.refl wr.heap.size wr).alloc (Nat.le_refl _) (Obj.cells #[Value.string (strOf F.n), Value.string (strOf (F.d.take M)), Value.int IntKind.i64 ((M : Nat) : Int)] 107)
        have hs2 : (wr.alloc (Obj.cells #[Value.string (strOf F.n), Value.string (strOf (F.d.take M)), Value.int IntKind.i64 ((M : Nat) : Int)] 107)).heap.size = wr.heap.size + 1 := by simp
        have H2 : Hid (DS 98 107 w.heap.size (wr.alloc (Obj.cells #[Value.string (strOf F.n), Value.string (strOf (F.d.take M)), Value.int IntKind.i64 ((M : Nat) : Int)] 107)) w.heap.size (.slice ao t co1) ((fs.take t).map (crF keep)) (-1)) := HDS.out.later hb2
        have HH2 : Hid (Hands (wr.alloc (Obj.cells #[Value.string (strOf F.n), Value.string (strOf (F.d.take M)), Value.int IntKind.i64 ((M : Nat) : Int)] 107)) (w.heap.size + 1) (w.heap.size + 2) w.heap.size) := HHr.out.later (hb2.block _ HLtD.out) (hb2.block _ HLtH.out)
        have HB2 : Hid (Below w.heap.size w (wr.alloc (Obj.cells #[Value.string (strOf F.n), Value.string (strOf (F.d.take M)), Value.int IntKind.i64 ((M : Nat) : Int)] 107))) := HBr.out.trans (hb2.mono hbs)
        have HRow : Hid ((wr.alloc (Obj.cells #[Value.string (strOf F.n), Value.string (strOf (F.d.take M)), Value.int IntKind.i64 ((M : Nat) : Int)] 107)).ownsRow w.heap.size 107 3 (.slice ao t co1) t (((fs.take t).map (crF keep)).flatMap FD.cells)) := by have h9 := H2.out.row; rw [hlen] at h9; exact h9
        have co2 : (wr.alloc (Obj.cells #[Value.string (strOf F.n), Value.string (strOf (F.d.take M)), Value.int IntKind.i64 ((M : Nat) : Int)] 107)).cell? ⟨w.heap.size, 0, none⟩ = some (.slice ao t co1) := (World.cell?_alloc_past _ _ _ hO).trans co
        have ch2 : (wr.alloc (Obj.cells #[Value.string (strOf F.n), Value.string (strOf (F.d.take M)), Value.int IntKind.i64 ((M : Nat) : Int)] 107)).cell? ⟨w.heap.size + 2, 0, none⟩ = some (Value.pointer (some ⟨w.heap.size, 0, none⟩)) := (World.cell?_alloc_past _ _ _ HLtH.out).trans chr
        have fo2 := H2.out.free 0
        have hO2 := H2.out.lt
        have hlH := HLtH.out
        have p0 : (wr.alloc (Obj.cells #[Value.string (strOf F.n), Value.string (strOf (F.d.take M)), Value.int IntKind.i64 ((M : Nat) : Int)] 107)).cell? ⟨wr.heap.size, 0, none⟩ = some (Value.string (strOf F.n)) := fc2 0
        have p1 : (wr.alloc (Obj.cells #[Value.string (strOf F.n), Value.string (strOf (F.d.take M)), Value.int IntKind.i64 ((M : Nat) : Int)] 107)).cell? ⟨wr.heap.size, 1, none⟩ = some (Value.string (strOf (F.d.take M))) := fc2 1
        have p2 : (wr.alloc (Obj.cells #[Value.string (strOf F.n), Value.string (strOf (F.d.take M)), Value.int IntKind.i64 ((M : Nat) : Int)] 107)).cell? ⟨wr.heap.size, 2, none⟩ = some (Value.int IntKind.i64 ((M : Nat) : Int)) := fc2 2
        clear fc2 hb2 co fo chr j0 j1 j2
        generalize (wr.alloc (Obj.cells #[Value.string (strOf F.n), Value.string (strOf (F.d.take M)), Value.int IntKind.i64 ((M : Nat) : Int)] 107)) = W2 at *
        have q1 : (W2.alloc (Obj.cells #[Value.string (strOf F.n), Value.string (strOf (F.d.take M)), Value.int IntKind.i64 ((M : Nat) : Int)] 107)).drew.cell? ⟨w.heap.size, 0, none⟩ = some (.slice ao t co1) := (World.cell?_alloc_past _ _ _ hO2).trans co2
        refine wp_region_held_drew (S := (fun w' => w'.cell? ⟨w.heap.size + 2, 0, none⟩ = some (Value.pointer (some ⟨w.heap.size, 0, none⟩)) ∧ w'.cell? ⟨wr.heap.size, 0, none⟩ = some (Value.string (strOf F.n)) ∧ w'.cell? ⟨wr.heap.size, 1, none⟩ = some (Value.string (strOf (F.d.take M))) ∧ w'.cell? ⟨wr.heap.size, 2, none⟩ = some (Value.int IntKind.i64 ((M : Nat) : Int)))) (by kernel_rfl) (by (try dsimp only); (first | (and_intros <;> assumption) | (and_intros <;> first | (exact (World.cell?_setCell_other _ _ _ _ (by intro hh; have h9 := congrArg Addr.block hh; (try simp at h9); (try omega))).trans (by assumption)) | (exact (World.cell?_alloc_past _ _ _ (by first | assumption | omega)).trans (by assumption))) | go_keep)) (fun hHeld => ?_)
        refine wpAnyH_take (i := 0) (v := ?_) rfl (by kernel_rfl) (by kernel_rfl) (by kernel_rfl) (fun _ _ _ h => h) (Or.inl ⟨by rfl, ?_⟩) (by assumption) ?_
        rotate_left
        · intro w hSw; (try dsimp only at hSw); go_simp; (try with_reducible rfl)
        try simp only [Act.put, List.setIfInBounds_toArray, List.set_cons_zero, List.set_cons_succ]
        refine wpAnyH_take (i := 1) (v := ?_) rfl (by kernel_rfl) (by kernel_rfl) (by kernel_rfl) (fun _ _ _ h => h) (Or.inl ⟨by rfl, ?_⟩) (by assumption) ?_
        rotate_left
        · intro w hSw; (try dsimp only at hSw); go_simp; (try with_reducible rfl)
        try simp only [Act.put, List.setIfInBounds_toArray, List.set_cons_zero, List.set_cons_succ]
        refine wpAnyH_take (i := 2) (v := ?_) rfl (by kernel_rfl) (by kernel_rfl) (by kernel_rfl) (fun _ _ _ h => h) (Or.inl ⟨by rfl, ?_⟩) (by assumption) ?_
        rotate_left
        · intro w hSw; (try dsimp only at hSw); go_simp; (try with_reducible rfl)
        try simp only [Act.put, List.setIfInBounds_toArray, List.set_cons_zero, List.set_cons_succ]
        refine wpAnyH_take (i := 3) (v := ?_) rfl (by kernel_rfl) (by kernel_rfl) (by kernel_rfl) (fun _ _ _ h => h) (Or.inl ⟨by rfl, ?_⟩) (by assumption) ?_
        rotate_left
        · intro w hSw; (try dsimp only at hSw); go_simp; (try with_reducible rfl)
        try simp only [Act.put, List.setIfInBounds_toArray, List.set_cons_zero, List.set_cons_succ]
        refine wpAnyH_take (i := 4) (v := ?_) rfl (by kernel_rfl) (by kernel_rfl) (by kernel_rfl) (fun _ _ _ h => h) (Or.inl ⟨by rfl, ?_⟩) (by assumption) ?_
        rotate_left
        · intro w hSw; (try dsimp only at hSw); go_simp; (try with_reducible rfl)
        try simp only [Act.put, List.setIfInBounds_toArray, List.set_cons_zero, List.set_cons_succ]
        refine wpAnyH_take (i := 5) (v := ?_) rfl (by kernel_rfl) (by kernel_rfl) (by kernel_rfl) (fun _ _ _ h => h) (Or.inl ⟨by rfl, ?_⟩) (by assumption) ?_
        rotate_left
        · intro w hSw; (try dsimp only at hSw); go_simp; (try with_reducible rfl)
        try simp only [Act.put, List.setIfInBounds_toArray, List.set_cons_zero, List.set_cons_succ]
        refine wpAnyH_take (i := 6) (v := ?_) rfl (by kernel_rfl) (by kernel_rfl) (by kernel_rfl) (fun _ _ _ h => h) (Or.inl ⟨by rfl, ?_⟩) (by assumption) ?_
        rotate_left
        · intro w hSw; (try dsimp only at hSw); go_simp; (try with_reducible rfl)
        try simp only [Act.put, List.setIfInBounds_toArray, List.set_cons_zero, List.set_cons_succ]
        refine wpAnyH_take (i := 7) (v := ?_) rfl (by kernel_rfl) (by kernel_rfl) (by kernel_rfl) (fun _ _ _ h => h) (Or.inl ⟨by rfl, ?_⟩) (by assumption) ?_
        rotate_left
        · intro w hSw; (try dsimp only at hSw); go_simp; (try with_reducible rfl)
        try simp only [Act.put, List.setIfInBounds_toArray, List.set_cons_zero, List.set_cons_succ]
        refine wpAnyH_take (i := 8) (v := ?_) rfl (by kernel_rfl) (by kernel_rfl) (by kernel_rfl) (fun _ _ _ h => h) (Or.inl ⟨by rfl, ?_⟩) (by assumption) ?_
        rotate_left
        · intro w hSw; (try dsimp only at hSw); go_simp; (try with_reducible rfl)
        try simp only [Act.put, List.setIfInBounds_toArray, List.set_cons_zero, List.set_cons_succ]
        refine wpAnyH_take (i := 9) (v := ?_) rfl (by kernel_rfl) (by kernel_rfl) (by kernel_rfl) (fun _ _ _ h => h) (Or.inl ⟨by rfl, ?_⟩) (by assumption) ?_
        rotate_left
        · intro w hSw; (try dsimp only at hSw); go_simp; (try with_reducible rfl)
        try simp only [Act.put, List.setIfInBounds_toArray, List.set_cons_zero, List.set_cons_succ]
        refine wpAnyH_take (i := 11) (v := ?_) rfl (by kernel_rfl) (by kernel_rfl) (by kernel_rfl) (fun _ _ _ h => h) (Or.inl ⟨by rfl, ?_⟩) (by assumption) ?_
        rotate_left
        · intro w hSw; (try dsimp only at hSw); go_simp; (try with_reducible rfl)
        try simp only [Act.put, List.setIfInBounds_toArray, List.set_cons_zero, List.set_cons_succ]
        refine wpAnyH_ready (rs := [10, 12]) (by kernel_rfl) (by simp) ?_
        refine AllReadyH.cons rfl (fun K hK => ?_) ?_
        · go_simp
          refine hK.out _ _ ?_ (fun hHeld => ?_)
          · (try dsimp only); (first | (and_intros <;> assumption) | (and_intros <;> first | (exact (World.cell?_setCell_other _ _ _ _ (by intro hh; have h9 := congrArg Addr.block hh; (try simp at h9); (try omega))).trans (by assumption)) | (exact (World.cell?_alloc_past _ _ _ (by first | assumption | omega)).trans (by assumption))) | go_keep)
          clear hK K
          try simp only [Act.put, List.setIfInBounds_toArray, List.set_cons_zero, List.set_cons_succ]
          refine wpAnyH_ready (rs := [12]) (by kernel_rfl) (by simp) ?_
          refine AllReadyH.cons rfl (fun K hK => ?_) ?_
          · go_simp
            refine hK.out _ _ ?_ (fun hHeld => ?_)
            · (try dsimp only); (first | (and_intros <;> assumption) | (and_intros <;> first | (exact (World.cell?_setCell_other _ _ _ _ (by intro hh; have h9 := congrArg Addr.block hh; (try simp at h9); (try omega))).trans (by assumption)) | (exact (World.cell?_alloc_past _ _ _ (by first | assumption | omega)).trans (by assumption))) | go_keep)
            clear hK K
            try simp only [Act.put, List.setIfInBounds_toArray, List.set_cons_zero, List.set_cons_succ]
            refine wpAnyH_ready (rs := [13]) (by kernel_rfl) (by simp) ?_
            refine AllReadyH.cons rfl (fun K hK => ?_) ?_
            · refine step_append_keep rfl (.tmp 58) (.tmp 60) 96 rfl w.heap.size 107 i0 (.agg #[.string ⟨#[]⟩, .string ⟨#[]⟩, .int .i64 0]) 3 40 Tryz.underlying96 hi0 hz0 hz1 hz2 rfl (by decide) (.slice ao t co1) t (((fs.take t).map (crF keep)).flatMap FD.cells) (by simp [Act.eval]) (by exact (World.ownsRow.alloc HRow.out _).drew) ⟨W2.heap.size, 0, none⟩ 1 1 [Value.string (strOf F.n), Value.string (strOf (F.d.take M)), Value.int IntKind.i64 ((M : Nat) : Int)] (by omega) (by simp [Act.eval]) rfl (by intro j u hu; rw [Go.WideShapes.add_plain]; refine (World.cell?_alloc_at _ _ _ _ rfl).trans ?_; simpa using hu) (by intro u hu; simp at hu; rcases hu with rfl | rfl | rfl <;> rfl) (by unfold maxLen; omega) (by omega) (by show _ ≤ (World.alloc _ _).heap.size; simp; omega) ?_
              intro v6 w6 ho6 hg6 hloc6
              obtain ⟨va6, vc6, rfl⟩ := shape_of ho6
              have hblk6 : ∀ k, k < W2.heap.size → Value.ownBlock (.slice ao t co1) ≠ some k → w6.heap[k]? = W2.heap[k]? := fun k hk hne => (hg6.block k (by show _ < (World.alloc _ _).heap.size; simp; omega) (Ne.symm hne)).trans (heap_alloc_old W2 _ hk)
              have hs6 : W2.heap.size ≤ w6.heap.size := Nat.le_trans (by show _ ≤ (World.alloc _ _).heap.size; simp) hg6.size
              have hO6 := hblk6 w.heap.size (by omega) HOff.out
              have hH6 := hblk6 (w.heap.size + 2) (by omega) HOffH.out
              have hD6 := hblk6 (w.heap.size + 1) (by omega) HOffD.out
              have ks6 : w6.cell? ⟨w.heap.size, 0, none⟩ = some (.slice ao t co1) := (World.cell?_of_block (w := W2) (a := ⟨w.heap.size, 0, none⟩) hO6).trans co2
              have kf6 : w6.frozen? ⟨w.heap.size, 0, none⟩ = false := (World.frozen?_of_block (w := W2) (a := ⟨w.heap.size, 0, none⟩) hO6).trans fo2
              have kh6 : w6.cell? ⟨w.heap.size + 2, 0, none⟩ = some (Value.pointer (some ⟨w.heap.size, 0, none⟩)) := (World.cell?_of_block (w := W2) (a := ⟨w.heap.size + 2, 0, none⟩) hH6).trans ch2
              have hF6 := hblk6 wr.heap.size (by omega) HOffF.out
              have y0 : w6.cell? ⟨wr.heap.size, 0, none⟩ = some (Value.string (strOf F.n)) := (World.cell?_of_block (w := W2) (a := ⟨wr.heap.size, 0, none⟩) hF6).trans p0
              have y1 : w6.cell? ⟨wr.heap.size, 1, none⟩ = some (Value.string (strOf (F.d.take M))) := (World.cell?_of_block (w := W2) (a := ⟨wr.heap.size, 1, none⟩) hF6).trans p1
              have y2 : w6.cell? ⟨wr.heap.size, 2, none⟩ = some (Value.int IntKind.i64 ((M : Nat) : Int)) := (World.cell?_of_block (w := W2) (a := ⟨wr.heap.size, 2, none⟩) hF6).trans p2
              refine hK.out _ _ ?_ (fun hHeld => ?_)
              · (try dsimp only); (first | (and_intros <;> assumption) | (and_intros <;> first | (exact (World.cell?_setCell_other _ _ _ _ (by intro hh; have h9 := congrArg Addr.block hh; (try simp at h9); (try omega))).trans (by assumption)) | (exact (World.cell?_alloc_past _ _ _ (by first | assumption | omega)).trans (by assumption))) | go_keep)
              clear hK K
              try simp only [Act.put, List.setIfInBounds_toArray, List.set_cons_zero, List.set_cons_succ]
              refine wpAnyH_ready (rs := [14]) (by kernel_rfl) (by simp) ?_
              refine AllReadyH.cons rfl (fun K hK => ?_) ?_
              · go_simp
                refine hK.out _ _ ?_ (fun hHeld => ?_)
                · (try dsimp only); (first | (and_intros <;> assumption) | (and_intros <;> first | (exact (World.cell?_setCell_other _ _ _ _ (by intro hh; have h9 := congrArg Addr.block hh; (try simp at h9); (try omega))).trans (by assumption)) | (exact (World.cell?_alloc_past _ _ _ (by first | assumption | omega)).trans (by assumption))) | go_keep)
                clear hK K
                try simp only [Act.put, List.setIfInBounds_toArray, List.set_cons_zero, List.set_cons_succ]
                refine wpAnyH_ready (rs := [15]) (by kernel_rfl) (by simp) ?_
                refine AllReadyH.cons rfl (fun K hK => ?_) ?_
                · go_simp
                  refine hK.out _ _ ?_ (fun hHeld => ?_)
                  · (try dsimp only); (first | (and_intros <;> assumption) | (and_intros <;> first | (exact (World.cell?_setCell_other _ _ _ _ (by intro hh; have h9 := congrArg Addr.block hh; (try simp at h9); (try omega))).trans (by assumption)) | (exact (World.cell?_alloc_past _ _ _ (by first | assumption | omega)).trans (by assumption))) | go_keep)
                  clear hK K
                  try simp only [Act.put, List.setIfInBounds_toArray, List.set_cons_zero, List.set_cons_succ]
                  refine wpAnyH_ready (rs := [16]) (by kernel_rfl) (by simp) ?_
                  refine AllReadyH.cons rfl (fun K hK => ?_) ?_
                  · go_simp
                    refine hK.out _ _ ?_ (fun hHeld => ?_)
                    · (try dsimp only); (first | (and_intros <;> assumption) | (and_intros <;> first | (exact (World.cell?_setCell_other _ _ _ _ (by intro hh; have h9 := congrArg Addr.block hh; (try simp at h9); (try omega))).trans (by assumption)) | (exact (World.cell?_alloc_past _ _ _ (by first | assumption | omega)).trans (by assumption))) | go_keep)
                    clear hK K
                    try simp only [Act.put, List.setIfInBounds_toArray, List.set_cons_zero, List.set_cons_succ]
                    refine wpAnyH_done (by kernel_rfl) ?_ _
                    have hne6 : Value.ownBlock (.slice va6 (t + 1) vc6) ≠ some w.heap.size := by
                      intro hh
                      obtain ⟨g', d1, d2⟩ := hloc6
                      rw [d1] at hh
                      have hgO : g' = w.heap.size := by simpa using hh
                      subst hgO
                      rcases d2 with d2 | ⟨d2, _⟩
                      · exact HOff.out d2
                      · have d3 : W2.heap.size + 1 ≤ w.heap.size := Nat.le_trans (by show _ ≤ (World.alloc _ _).heap.size; simp) d2
                        omega
                    have HN : Hid (DS 98 107 w.heap.size (w6.setCell ⟨w.heap.size, 0, none⟩ (.slice va6 (t + 1) vc6)) w.heap.size (.slice va6 (t + 1) vc6) ((fs.take (t + 1)).map (crF keep)) (-1)) := by
                      refine DS.store (low' := w.heap.size) (hO6.trans H2.out.st) ?_ (Nat.le_refl _) hne6
                      rw [HT.out, List.length_append, List.flatMap_append, hlen, HCF.out]
                      simp only [List.length_cons, List.length_nil, List.flatMap_cons, List.flatMap_nil, List.append_nil]
                      exact ho6
                    have HHN : Hid (Hands (w6.setCell ⟨w.heap.size, 0, none⟩ (.slice va6 (t + 1) vc6)) (w.heap.size + 1) (w.heap.size + 2) w.heap.size) := HH2.out.later (((But.setCell w6 ⟨w.heap.size, 0, none⟩ _).block (w.heap.size + 1) (by show w.heap.size + 1 ≠ w.heap.size; omega)).trans hD6) (((But.setCell w6 ⟨w.heap.size, 0, none⟩ _).block (w.heap.size + 2) (by show w.heap.size + 2 ≠ w.heap.size; omega)).trans hH6)
                    have HBN : Hid (Below w.heap.size w (w6.setCell ⟨w.heap.size, 0, none⟩ (.slice va6 (t + 1) vc6))) := by
                      have hb := HB2.out
                      refine Below.setCell ⟨hg6.os.trans hb.os, hg6.tape.trans hb.tape, hg6.output.trans hb.output, by have := hb.size; omega, fun k hk => (hblk6 k (by have := hb.size; omega) (fun hh => by have := (World.ownsRow.lt HRow.out k hh).1; omega)).trans (hb.block k hk)⟩ (Nat.le_refl _) _
                    clear ho6 hg6 hloc6 hblk6 hO6 hF6 hne6 hD6 hH6
                    go_wp2
                    go_roundw
                    case rel => exact ⟨t + 1, _, by omega, by go_num, HN.out, HHN.out, HBN.out⟩
                    case measure => simp [intOf]; omega
                  exact AllReadyH.nil
                exact AllReadyH.nil
              exact AllReadyH.nil
            exact AllReadyH.nil
          exact AllReadyH.nil
        refine AllReadyH.cons rfl (fun K hK => ?_) ?_
        · go_simp
          refine hK.out _ _ ?_ (fun hHeld => ?_)
          · (try dsimp only); (first | (and_intros <;> assumption) | (and_intros <;> first | (exact (World.cell?_setCell_other _ _ _ _ (by intro hh; have h9 := congrArg Addr.block hh; (try simp at h9); (try omega))).trans (by assumption)) | (exact (World.cell?_alloc_past _ _ _ (by first | assumption | omega)).trans (by assumption))) | go_keep)
          clear hK K
          try simp only [Act.put, List.setIfInBounds_toArray, List.set_cons_zero, List.set_cons_succ]
          refine wpAnyH_ready (rs := [10]) (by kernel_rfl) (by simp) ?_
          refine AllReadyH.cons rfl (fun K hK => ?_) ?_
          · go_simp
            refine hK.out _ _ ?_ (fun hHeld => ?_)
            · (try dsimp only); (first | (and_intros <;> assumption) | (and_intros <;> first | (exact (World.cell?_setCell_other _ _ _ _ (by intro hh; have h9 := congrArg Addr.block hh; (try simp at h9); (try omega))).trans (by assumption)) | (exact (World.cell?_alloc_past _ _ _ (by first | assumption | omega)).trans (by assumption))) | go_keep)
            clear hK K
            try simp only [Act.put, List.setIfInBounds_toArray, List.set_cons_zero, List.set_cons_succ]
            refine wpAnyH_ready (rs := [13]) (by kernel_rfl) (by simp) ?_
            refine AllReadyH.cons rfl (fun K hK => ?_) ?_
            · refine step_append_keep rfl (.tmp 58) (.tmp 60) 96 rfl w.heap.size 107 i0 (.agg #[.string ⟨#[]⟩, .string ⟨#[]⟩, .int .i64 0]) 3 40 Tryz.underlying96 hi0 hz0 hz1 hz2 rfl (by decide) (.slice ao t co1) t (((fs.take t).map (crF keep)).flatMap FD.cells) (by simp [Act.eval]) (by exact (World.ownsRow.alloc HRow.out _).drew) ⟨W2.heap.size, 0, none⟩ 1 1 [Value.string (strOf F.n), Value.string (strOf (F.d.take M)), Value.int IntKind.i64 ((M : Nat) : Int)] (by omega) (by simp [Act.eval]) rfl (by intro j u hu; rw [Go.WideShapes.add_plain]; refine (World.cell?_alloc_at _ _ _ _ rfl).trans ?_; simpa using hu) (by intro u hu; simp at hu; rcases hu with rfl | rfl | rfl <;> rfl) (by unfold maxLen; omega) (by omega) (by show _ ≤ (World.alloc _ _).heap.size; simp; omega) ?_
              intro v6 w6 ho6 hg6 hloc6
              obtain ⟨va6, vc6, rfl⟩ := shape_of ho6
              have hblk6 : ∀ k, k < W2.heap.size → Value.ownBlock (.slice ao t co1) ≠ some k → w6.heap[k]? = W2.heap[k]? := fun k hk hne => (hg6.block k (by show _ < (World.alloc _ _).heap.size; simp; omega) (Ne.symm hne)).trans (heap_alloc_old W2 _ hk)
              have hs6 : W2.heap.size ≤ w6.heap.size := Nat.le_trans (by show _ ≤ (World.alloc _ _).heap.size; simp) hg6.size
              have hO6 := hblk6 w.heap.size (by omega) HOff.out
              have hH6 := hblk6 (w.heap.size + 2) (by omega) HOffH.out
              have hD6 := hblk6 (w.heap.size + 1) (by omega) HOffD.out
              have ks6 : w6.cell? ⟨w.heap.size, 0, none⟩ = some (.slice ao t co1) := (World.cell?_of_block (w := W2) (a := ⟨w.heap.size, 0, none⟩) hO6).trans co2
              have kf6 : w6.frozen? ⟨w.heap.size, 0, none⟩ = false := (World.frozen?_of_block (w := W2) (a := ⟨w.heap.size, 0, none⟩) hO6).trans fo2
              have kh6 : w6.cell? ⟨w.heap.size + 2, 0, none⟩ = some (Value.pointer (some ⟨w.heap.size, 0, none⟩)) := (World.cell?_of_block (w := W2) (a := ⟨w.heap.size + 2, 0, none⟩) hH6).trans ch2
              have hF6 := hblk6 wr.heap.size (by omega) HOffF.out
              have y0 : w6.cell? ⟨wr.heap.size, 0, none⟩ = some (Value.string (strOf F.n)) := (World.cell?_of_block (w := W2) (a := ⟨wr.heap.size, 0, none⟩) hF6).trans p0
              have y1 : w6.cell? ⟨wr.heap.size, 1, none⟩ = some (Value.string (strOf (F.d.take M))) := (World.cell?_of_block (w := W2) (a := ⟨wr.heap.size, 1, none⟩) hF6).trans p1
              have y2 : w6.cell? ⟨wr.heap.size, 2, none⟩ = some (Value.int IntKind.i64 ((M : Nat) : Int)) := (World.cell?_of_block (w := W2) (a := ⟨wr.heap.size, 2, none⟩) hF6).trans p2
              refine hK.out _ _ ?_ (fun hHeld => ?_)
              · (try dsimp only); (first | (and_intros <;> assumption) | (and_intros <;> first | (exact (World.cell?_setCell_other _ _ _ _ (by intro hh; have h9 := congrArg Addr.block hh; (try simp at h9); (try omega))).trans (by assumption)) | (exact (World.cell?_alloc_past _ _ _ (by first | assumption | omega)).trans (by assumption))) | go_keep)
              clear hK K
              try simp only [Act.put, List.setIfInBounds_toArray, List.set_cons_zero, List.set_cons_succ]
              refine wpAnyH_ready (rs := [14]) (by kernel_rfl) (by simp) ?_
              refine AllReadyH.cons rfl (fun K hK => ?_) ?_
              · go_simp
                refine hK.out _ _ ?_ (fun hHeld => ?_)
                · (try dsimp only); (first | (and_intros <;> assumption) | (and_intros <;> first | (exact (World.cell?_setCell_other _ _ _ _ (by intro hh; have h9 := congrArg Addr.block hh; (try simp at h9); (try omega))).trans (by assumption)) | (exact (World.cell?_alloc_past _ _ _ (by first | assumption | omega)).trans (by assumption))) | go_keep)
                clear hK K
                try simp only [Act.put, List.setIfInBounds_toArray, List.set_cons_zero, List.set_cons_succ]
                refine wpAnyH_ready (rs := [15]) (by kernel_rfl) (by simp) ?_
                refine AllReadyH.cons rfl (fun K hK => ?_) ?_
                · go_simp
                  refine hK.out _ _ ?_ (fun hHeld => ?_)
                  · (try dsimp only); (first | (and_intros <;> assumption) | (and_intros <;> first | (exact (World.cell?_setCell_other _ _ _ _ (by intro hh; have h9 := congrArg Addr.block hh; (try simp at h9); (try omega))).trans (by assumption)) | (exact (World.cell?_alloc_past _ _ _ (by first | assumption | omega)).trans (by assumption))) | go_keep)
                  clear hK K
                  try simp only [Act.put, List.setIfInBounds_toArray, List.set_cons_zero, List.set_cons_succ]
                  refine wpAnyH_ready (rs := [16]) (by kernel_rfl) (by simp) ?_
                  refine AllReadyH.cons rfl (fun K hK => ?_) ?_
                  · go_simp
                    refine hK.out _ _ ?_ (fun hHeld => ?_)
                    · (try dsimp only); (first | (and_intros <;> assumption) | (and_intros <;> first | (exact (World.cell?_setCell_other _ _ _ _ (by intro hh; have h9 := congrArg Addr.block hh; (try simp at h9); (try omega))).trans (by assumption)) | (exact (World.cell?_alloc_past _ _ _ (by first | assumption | omega)).trans (by assumption))) | go_keep)
                    clear hK K
                    try simp only [Act.put, List.setIfInBounds_toArray, List.set_cons_zero, List.set_cons_succ]
                    refine wpAnyH_done (by kernel_rfl) ?_ _
                    have hne6 : Value.ownBlock (.slice va6 (t + 1) vc6) ≠ some w.heap.size := by
                      intro hh
                      obtain ⟨g', d1, d2⟩ := hloc6
                      rw [d1] at hh
                      have hgO : g' = w.heap.size := by simpa using hh
                      subst hgO
                      rcases d2 with d2 | ⟨d2, _⟩
                      · exact HOff.out d2
                      · have d3 : W2.heap.size + 1 ≤ w.heap.size := Nat.le_trans (by show _ ≤ (World.alloc _ _).heap.size; simp) d2
                        omega
                    have HN : Hid (DS 98 107 w.heap.size (w6.setCell ⟨w.heap.size, 0, none⟩ (.slice va6 (t + 1) vc6)) w.heap.size (.slice va6 (t + 1) vc6) ((fs.take (t + 1)).map (crF keep)) (-1)) := by
                      refine DS.store (low' := w.heap.size) (hO6.trans H2.out.st) ?_ (Nat.le_refl _) hne6
                      rw [HT.out, List.length_append, List.flatMap_append, hlen, HCF.out]
                      simp only [List.length_cons, List.length_nil, List.flatMap_cons, List.flatMap_nil, List.append_nil]
                      exact ho6
                    have HHN : Hid (Hands (w6.setCell ⟨w.heap.size, 0, none⟩ (.slice va6 (t + 1) vc6)) (w.heap.size + 1) (w.heap.size + 2) w.heap.size) := HH2.out.later (((But.setCell w6 ⟨w.heap.size, 0, none⟩ _).block (w.heap.size + 1) (by show w.heap.size + 1 ≠ w.heap.size; omega)).trans hD6) (((But.setCell w6 ⟨w.heap.size, 0, none⟩ _).block (w.heap.size + 2) (by show w.heap.size + 2 ≠ w.heap.size; omega)).trans hH6)
                    have HBN : Hid (Below w.heap.size w (w6.setCell ⟨w.heap.size, 0, none⟩ (.slice va6 (t + 1) vc6))) := by
                      have hb := HB2.out
                      refine Below.setCell ⟨hg6.os.trans hb.os, hg6.tape.trans hb.tape, hg6.output.trans hb.output, by have := hb.size; omega, fun k hk => (hblk6 k (by have := hb.size; omega) (fun hh => by have := (World.ownsRow.lt HRow.out k hh).1; omega)).trans (hb.block k hk)⟩ (Nat.le_refl _) _
                    clear ho6 hg6 hloc6 hblk6 hO6 hF6 hne6 hD6 hH6
                    go_wp2
                    go_roundw
                    case rel => exact ⟨t + 1, _, by omega, by go_num, HN.out, HHN.out, HBN.out⟩
                    case measure => simp [intOf]; omega
                  exact AllReadyH.nil
                exact AllReadyH.nil
              exact AllReadyH.nil
            exact AllReadyH.nil
          exact AllReadyH.nil
        exact AllReadyH.nil
      · have e' : Hid _ := e
        clear e
        go_wp2_with fail
        rw [show (Obj.cells #[Value.string (strOf F.n), Value.string ((strOf F.d).extract 0 F.s), Value.int IntKind.i64 (F.s : Int)] 107) = (Obj.cells #[Value.string (strOf F.n), Value.string (strOf (F.d.take (cN keep F))), Value.int IntKind.i64 (((cN keep F) : Nat) : Int)] 107) from by
          rw [e'.out, str_take F.d F.s (by omega)]]
        clear e' HX HCN
        generalize cN keep F = M at *
        have fc2 : ∀ i, (wr.alloc (Obj.cells #[Value.string (strOf F.n), Value.string (strOf (F.d.take M)), Value.int IntKind.i64 ((M : Nat) : Int)] 107)).cell? ⟨wr.heap.size, i, none⟩ = #[Value.string (strOf F.n), Value.string (strOf (F.d.take M)), Value.int IntKind.i64 ((M : Nat) : Int)][i]? := fun i => World.cell?_alloc_at _ _ _ _ rfl
        have hb2 := (Below.refl wr.heap.size wr).alloc (Nat.le_refl _) (Obj.cells #[Value.string (strOf F.n), Value.string (strOf (F.d.take M)), Value.int IntKind.i64 ((M : Nat) : Int)] 107)
        have hs2 : (wr.alloc (Obj.cells #[Value.string (strOf F.n), Value.string (strOf (F.d.take M)), Value.int IntKind.i64 ((M : Nat) : Int)] 107)).heap.size = wr.heap.size + 1 := by simp
        have H2 : Hid (DS 98 107 w.heap.size (wr.alloc (Obj.cells #[Value.string (strOf F.n), Value.string (strOf (F.d.take M)), Value.int IntKind.i64 ((M : Nat) : Int)] 107)) w.heap.size (.slice ao t co1) ((fs.take t).map (crF keep)) (-1)) := HDS.out.later hb2
        have HH2 : Hid (Hands (wr.alloc (Obj.cells #[Value.string (strOf F.n), Value.string (strOf (F.d.take M)), Value.int IntKind.i64 ((M : Nat) : Int)] 107)) (w.heap.size + 1) (w.heap.size + 2) w.heap.size) := HHr.out.later (hb2.block _ HLtD.out) (hb2.block _ HLtH.out)
        have HB2 : Hid (Below w.heap.size w (wr.alloc (Obj.cells #[Value.string (strOf F.n), Value.string (strOf (F.d.take M)), Value.int IntKind.i64 ((M : Nat) : Int)] 107))) := HBr.out.trans (hb2.mono hbs)
        have HRow : Hid ((wr.alloc (Obj.cells #[Value.string (strOf F.n), Value.string (strOf (F.d.take M)), Value.int IntKind.i64 ((M : Nat) : Int)] 107)).ownsRow w.heap.size 107 3 (.slice ao t co1) t (((fs.take t).map (crF keep)).flatMap FD.cells)) := by have h9 := H2.out.row; rw [hlen] at h9; exact h9
        have co2 : (wr.alloc (Obj.cells #[Value.string (strOf F.n), Value.string (strOf (F.d.take M)), Value.int IntKind.i64 ((M : Nat) : Int)] 107)).cell? ⟨w.heap.size, 0, none⟩ = some (.slice ao t co1) := (World.cell?_alloc_past _ _ _ hO).trans co
        have ch2 : (wr.alloc (Obj.cells #[Value.string (strOf F.n), Value.string (strOf (F.d.take M)), Value.int IntKind.i64 ((M : Nat) : Int)] 107)).cell? ⟨w.heap.size + 2, 0, none⟩ = some (Value.pointer (some ⟨w.heap.size, 0, none⟩)) := (World.cell?_alloc_past _ _ _ HLtH.out).trans chr
        have fo2 := H2.out.free 0
        have hO2 := H2.out.lt
        have hlH := HLtH.out
        have p0 : (wr.alloc (Obj.cells #[Value.string (strOf F.n), Value.string (strOf (F.d.take M)), Value.int IntKind.i64 ((M : Nat) : Int)] 107)).cell? ⟨wr.heap.size, 0, none⟩ = some (Value.string (strOf F.n)) := fc2 0
        have p1 : (wr.alloc (Obj.cells #[Value.string (strOf F.n), Value.string (strOf (F.d.take M)), Value.int IntKind.i64 ((M : Nat) : Int)] 107)).cell? ⟨wr.heap.size, 1, none⟩ = some (Value.string (strOf (F.d.take M))) := fc2 1
        have p2 : (wr.alloc (Obj.cells #[Value.string (strOf F.n), Value.string (strOf (F.d.take M)), Value.int IntKind.i64 ((M : Nat) : Int)] 107)).cell? ⟨wr.heap.size, 2, none⟩ = some (Value.int IntKind.i64 ((M : Nat) : Int)) := fc2 2
        clear fc2 hb2 co fo chr j0 j1 j2
        generalize (wr.alloc (Obj.cells #[Value.string (strOf F.n), Value.string (strOf (F.d.take M)), Value.int IntKind.i64 ((M : Nat) : Int)] 107)) = W2 at *
        have q1 : (W2.alloc (Obj.cells #[Value.string (strOf F.n), Value.string (strOf (F.d.take M)), Value.int IntKind.i64 ((M : Nat) : Int)] 107)).drew.cell? ⟨w.heap.size, 0, none⟩ = some (.slice ao t co1) := (World.cell?_alloc_past _ _ _ hO2).trans co2
        refine wp_region_held_drew (S := (fun w' => w'.cell? ⟨w.heap.size + 2, 0, none⟩ = some (Value.pointer (some ⟨w.heap.size, 0, none⟩)) ∧ w'.cell? ⟨wr.heap.size, 0, none⟩ = some (Value.string (strOf F.n)) ∧ w'.cell? ⟨wr.heap.size, 1, none⟩ = some (Value.string (strOf (F.d.take M))) ∧ w'.cell? ⟨wr.heap.size, 2, none⟩ = some (Value.int IntKind.i64 ((M : Nat) : Int)))) (by kernel_rfl) (by (try dsimp only); (first | (and_intros <;> assumption) | (and_intros <;> first | (exact (World.cell?_setCell_other _ _ _ _ (by intro hh; have h9 := congrArg Addr.block hh; (try simp at h9); (try omega))).trans (by assumption)) | (exact (World.cell?_alloc_past _ _ _ (by first | assumption | omega)).trans (by assumption))) | go_keep)) (fun hHeld => ?_)
        refine wpAnyH_take (i := 0) (v := ?_) rfl (by kernel_rfl) (by kernel_rfl) (by kernel_rfl) (fun _ _ _ h => h) (Or.inl ⟨by rfl, ?_⟩) (by assumption) ?_
        rotate_left
        · intro w hSw; (try dsimp only at hSw); go_simp; (try with_reducible rfl)
        try simp only [Act.put, List.setIfInBounds_toArray, List.set_cons_zero, List.set_cons_succ]
        refine wpAnyH_take (i := 1) (v := ?_) rfl (by kernel_rfl) (by kernel_rfl) (by kernel_rfl) (fun _ _ _ h => h) (Or.inl ⟨by rfl, ?_⟩) (by assumption) ?_
        rotate_left
        · intro w hSw; (try dsimp only at hSw); go_simp; (try with_reducible rfl)
        try simp only [Act.put, List.setIfInBounds_toArray, List.set_cons_zero, List.set_cons_succ]
        refine wpAnyH_take (i := 2) (v := ?_) rfl (by kernel_rfl) (by kernel_rfl) (by kernel_rfl) (fun _ _ _ h => h) (Or.inl ⟨by rfl, ?_⟩) (by assumption) ?_
        rotate_left
        · intro w hSw; (try dsimp only at hSw); go_simp; (try with_reducible rfl)
        try simp only [Act.put, List.setIfInBounds_toArray, List.set_cons_zero, List.set_cons_succ]
        refine wpAnyH_take (i := 3) (v := ?_) rfl (by kernel_rfl) (by kernel_rfl) (by kernel_rfl) (fun _ _ _ h => h) (Or.inl ⟨by rfl, ?_⟩) (by assumption) ?_
        rotate_left
        · intro w hSw; (try dsimp only at hSw); go_simp; (try with_reducible rfl)
        try simp only [Act.put, List.setIfInBounds_toArray, List.set_cons_zero, List.set_cons_succ]
        refine wpAnyH_take (i := 4) (v := ?_) rfl (by kernel_rfl) (by kernel_rfl) (by kernel_rfl) (fun _ _ _ h => h) (Or.inl ⟨by rfl, ?_⟩) (by assumption) ?_
        rotate_left
        · intro w hSw; (try dsimp only at hSw); go_simp; (try with_reducible rfl)
        try simp only [Act.put, List.setIfInBounds_toArray, List.set_cons_zero, List.set_cons_succ]
        refine wpAnyH_take (i := 5) (v := ?_) rfl (by kernel_rfl) (by kernel_rfl) (by kernel_rfl) (fun _ _ _ h => h) (Or.inl ⟨by rfl, ?_⟩) (by assumption) ?_
        rotate_left
        · intro w hSw; (try dsimp only at hSw); go_simp; (try with_reducible rfl)
        try simp only [Act.put, List.setIfInBounds_toArray, List.set_cons_zero, List.set_cons_succ]
        refine wpAnyH_take (i := 6) (v := ?_) rfl (by kernel_rfl) (by kernel_rfl) (by kernel_rfl) (fun _ _ _ h => h) (Or.inl ⟨by rfl, ?_⟩) (by assumption) ?_
        rotate_left
        · intro w hSw; (try dsimp only at hSw); go_simp; (try with_reducible rfl)
        try simp only [Act.put, List.setIfInBounds_toArray, List.set_cons_zero, List.set_cons_succ]
        refine wpAnyH_take (i := 7) (v := ?_) rfl (by kernel_rfl) (by kernel_rfl) (by kernel_rfl) (fun _ _ _ h => h) (Or.inl ⟨by rfl, ?_⟩) (by assumption) ?_
        rotate_left
        · intro w hSw; (try dsimp only at hSw); go_simp; (try with_reducible rfl)
        try simp only [Act.put, List.setIfInBounds_toArray, List.set_cons_zero, List.set_cons_succ]
        refine wpAnyH_take (i := 8) (v := ?_) rfl (by kernel_rfl) (by kernel_rfl) (by kernel_rfl) (fun _ _ _ h => h) (Or.inl ⟨by rfl, ?_⟩) (by assumption) ?_
        rotate_left
        · intro w hSw; (try dsimp only at hSw); go_simp; (try with_reducible rfl)
        try simp only [Act.put, List.setIfInBounds_toArray, List.set_cons_zero, List.set_cons_succ]
        refine wpAnyH_take (i := 9) (v := ?_) rfl (by kernel_rfl) (by kernel_rfl) (by kernel_rfl) (fun _ _ _ h => h) (Or.inl ⟨by rfl, ?_⟩) (by assumption) ?_
        rotate_left
        · intro w hSw; (try dsimp only at hSw); go_simp; (try with_reducible rfl)
        try simp only [Act.put, List.setIfInBounds_toArray, List.set_cons_zero, List.set_cons_succ]
        refine wpAnyH_take (i := 11) (v := ?_) rfl (by kernel_rfl) (by kernel_rfl) (by kernel_rfl) (fun _ _ _ h => h) (Or.inl ⟨by rfl, ?_⟩) (by assumption) ?_
        rotate_left
        · intro w hSw; (try dsimp only at hSw); go_simp; (try with_reducible rfl)
        try simp only [Act.put, List.setIfInBounds_toArray, List.set_cons_zero, List.set_cons_succ]
        refine wpAnyH_ready (rs := [10, 12]) (by kernel_rfl) (by simp) ?_
        refine AllReadyH.cons rfl (fun K hK => ?_) ?_
        · go_simp
          refine hK.out _ _ ?_ (fun hHeld => ?_)
          · (try dsimp only); (first | (and_intros <;> assumption) | (and_intros <;> first | (exact (World.cell?_setCell_other _ _ _ _ (by intro hh; have h9 := congrArg Addr.block hh; (try simp at h9); (try omega))).trans (by assumption)) | (exact (World.cell?_alloc_past _ _ _ (by first | assumption | omega)).trans (by assumption))) | go_keep)
          clear hK K
          try simp only [Act.put, List.setIfInBounds_toArray, List.set_cons_zero, List.set_cons_succ]
          refine wpAnyH_ready (rs := [12]) (by kernel_rfl) (by simp) ?_
          refine AllReadyH.cons rfl (fun K hK => ?_) ?_
          · go_simp
            refine hK.out _ _ ?_ (fun hHeld => ?_)
            · (try dsimp only); (first | (and_intros <;> assumption) | (and_intros <;> first | (exact (World.cell?_setCell_other _ _ _ _ (by intro hh; have h9 := congrArg Addr.block hh; (try simp at h9); (try omega))).trans (by assumption)) | (exact (World.cell?_alloc_past _ _ _ (by first | assumption | omega)).trans (by assumption))) | go_keep)
            clear hK K
            try simp only [Act.put, List.setIfInBounds_toArray, List.set_cons_zero, List.set_cons_succ]
            refine wpAnyH_ready (rs := [13]) (by kernel_rfl) (by simp) ?_
            refine AllReadyH.cons rfl (fun K hK => ?_) ?_
            · refine step_append_keep rfl (.tmp 58) (.tmp 60) 96 rfl w.heap.size 107 i0 (.agg #[.string ⟨#[]⟩, .string ⟨#[]⟩, .int .i64 0]) 3 40 Tryz.underlying96 hi0 hz0 hz1 hz2 rfl (by decide) (.slice ao t co1) t (((fs.take t).map (crF keep)).flatMap FD.cells) (by simp [Act.eval]) (by exact (World.ownsRow.alloc HRow.out _).drew) ⟨W2.heap.size, 0, none⟩ 1 1 [Value.string (strOf F.n), Value.string (strOf (F.d.take M)), Value.int IntKind.i64 ((M : Nat) : Int)] (by omega) (by simp [Act.eval]) rfl (by intro j u hu; rw [Go.WideShapes.add_plain]; refine (World.cell?_alloc_at _ _ _ _ rfl).trans ?_; simpa using hu) (by intro u hu; simp at hu; rcases hu with rfl | rfl | rfl <;> rfl) (by unfold maxLen; omega) (by omega) (by show _ ≤ (World.alloc _ _).heap.size; simp; omega) ?_
              intro v6 w6 ho6 hg6 hloc6
              obtain ⟨va6, vc6, rfl⟩ := shape_of ho6
              have hblk6 : ∀ k, k < W2.heap.size → Value.ownBlock (.slice ao t co1) ≠ some k → w6.heap[k]? = W2.heap[k]? := fun k hk hne => (hg6.block k (by show _ < (World.alloc _ _).heap.size; simp; omega) (Ne.symm hne)).trans (heap_alloc_old W2 _ hk)
              have hs6 : W2.heap.size ≤ w6.heap.size := Nat.le_trans (by show _ ≤ (World.alloc _ _).heap.size; simp) hg6.size
              have hO6 := hblk6 w.heap.size (by omega) HOff.out
              have hH6 := hblk6 (w.heap.size + 2) (by omega) HOffH.out
              have hD6 := hblk6 (w.heap.size + 1) (by omega) HOffD.out
              have ks6 : w6.cell? ⟨w.heap.size, 0, none⟩ = some (.slice ao t co1) := (World.cell?_of_block (w := W2) (a := ⟨w.heap.size, 0, none⟩) hO6).trans co2
              have kf6 : w6.frozen? ⟨w.heap.size, 0, none⟩ = false := (World.frozen?_of_block (w := W2) (a := ⟨w.heap.size, 0, none⟩) hO6).trans fo2
              have kh6 : w6.cell? ⟨w.heap.size + 2, 0, none⟩ = some (Value.pointer (some ⟨w.heap.size, 0, none⟩)) := (World.cell?_of_block (w := W2) (a := ⟨w.heap.size + 2, 0, none⟩) hH6).trans ch2
              have hF6 := hblk6 wr.heap.size (by omega) HOffF.out
              have y0 : w6.cell? ⟨wr.heap.size, 0, none⟩ = some (Value.string (strOf F.n)) := (World.cell?_of_block (w := W2) (a := ⟨wr.heap.size, 0, none⟩) hF6).trans p0
              have y1 : w6.cell? ⟨wr.heap.size, 1, none⟩ = some (Value.string (strOf (F.d.take M))) := (World.cell?_of_block (w := W2) (a := ⟨wr.heap.size, 1, none⟩) hF6).trans p1
              have y2 : w6.cell? ⟨wr.heap.size, 2, none⟩ = some (Value.int IntKind.i64 ((M : Nat) : Int)) := (World.cell?_of_block (w := W2) (a := ⟨wr.heap.size, 2, none⟩) hF6).trans p2
              refine hK.out _ _ ?_ (fun hHeld => ?_)
              · (try dsimp only); (first | (and_intros <;> assumption) | (and_intros <;> first | (exact (World.cell?_setCell_other _ _ _ _ (by intro hh; have h9 := congrArg Addr.block hh; (try simp at h9); (try omega))).trans (by assumption)) | (exact (World.cell?_alloc_past _ _ _ (by first | assumption | omega)).trans (by assumption))) | go_keep)
              clear hK K
              try simp only [Act.put, List.setIfInBounds_toArray, List.set_cons_zero, List.set_cons_succ]
              refine wpAnyH_ready (rs := [14]) (by kernel_rfl) (by simp) ?_
              refine AllReadyH.cons rfl (fun K hK => ?_) ?_
              · go_simp
                refine hK.out _ _ ?_ (fun hHeld => ?_)
                · (try dsimp only); (first | (and_intros <;> assumption) | (and_intros <;> first | (exact (World.cell?_setCell_other _ _ _ _ (by intro hh; have h9 := congrArg Addr.block hh; (try simp at h9); (try omega))).trans (by assumption)) | (exact (World.cell?_alloc_past _ _ _ (by first | assumption | omega)).trans (by assumption))) | go_keep)
                clear hK K
                try simp only [Act.put, List.setIfInBounds_toArray, List.set_cons_zero, List.set_cons_succ]
                refine wpAnyH_ready (rs := [15]) (by kernel_rfl) (by simp) ?_
                refine AllReadyH.cons rfl (fun K hK => ?_) ?_
                · go_simp
                  refine hK.out _ _ ?_ (fun hHeld => ?_)
                  · (try dsimp only); (first | (and_intros <;> assumption) | (and_intros <;> first | (exact (World.cell?_setCell_other _ _ _ _ (by intro hh; have h9 := congrArg Addr.block hh; (try simp at h9); (try omega))).trans (by assumption)) | (exact (World.cell?_alloc_past _ _ _ (by first | assumption | omega)).trans (by assumption))) | go_keep)
                  clear hK K
                  try simp only [Act.put, List.setIfInBounds_toArray, List.set_cons_zero, List.set_cons_succ]
                  refine wpAnyH_ready (rs := [16]) (by kernel_rfl) (by simp) ?_
                  refine AllReadyH.cons rfl (fun K hK => ?_) ?_
                  · go_simp
                    refine hK.out _ _ ?_ (fun hHeld => ?_)
                    · (try dsimp only); (first | (and_intros <;> assumption) | (and_intros <;> first | (exact (World.cell?_setCell_other _ _ _ _ (by intro hh; have h9 := congrArg Addr.block hh; (try simp at h9); (try omega))).trans (by assumption)) | (exact (World.cell?_alloc_past _ _ _ (by first | assumption | omega)).trans (by assumption))) | go_keep)
                    clear hK K
                    try simp only [Act.put, List.setIfInBounds_toArray, List.set_cons_zero, List.set_cons_succ]
                    refine wpAnyH_done (by kernel_rfl) ?_ _
                    have hne6 : Value.ownBlock (.slice va6 (t + 1) vc6) ≠ some w.heap.size := by
                      intro hh
                      obtain ⟨g', d1, d2⟩ := hloc6
                      rw [d1] at hh
                      have hgO : g' = w.heap.size := by simpa using hh
                      subst hgO
                      rcases d2 with d2 | ⟨d2, _⟩
                      · exact HOff.out d2
                      · have d3 : W2.heap.size + 1 ≤ w.heap.size := Nat.le_trans (by show _ ≤ (World.alloc _ _).heap.size; simp) d2
                        omega
                    have HN : Hid (DS 98 107 w.heap.size (w6.setCell ⟨w.heap.size, 0, none⟩ (.slice va6 (t + 1) vc6)) w.heap.size (.slice va6 (t + 1) vc6) ((fs.take (t + 1)).map (crF keep)) (-1)) := by
                      refine DS.store (low' := w.heap.size) (hO6.trans H2.out.st) ?_ (Nat.le_refl _) hne6
                      rw [HT.out, List.length_append, List.flatMap_append, hlen, HCF.out]
                      simp only [List.length_cons, List.length_nil, List.flatMap_cons, List.flatMap_nil, List.append_nil]
                      exact ho6
                    have HHN : Hid (Hands (w6.setCell ⟨w.heap.size, 0, none⟩ (.slice va6 (t + 1) vc6)) (w.heap.size + 1) (w.heap.size + 2) w.heap.size) := HH2.out.later (((But.setCell w6 ⟨w.heap.size, 0, none⟩ _).block (w.heap.size + 1) (by show w.heap.size + 1 ≠ w.heap.size; omega)).trans hD6) (((But.setCell w6 ⟨w.heap.size, 0, none⟩ _).block (w.heap.size + 2) (by show w.heap.size + 2 ≠ w.heap.size; omega)).trans hH6)
                    have HBN : Hid (Below w.heap.size w (w6.setCell ⟨w.heap.size, 0, none⟩ (.slice va6 (t + 1) vc6))) := by
                      have hb := HB2.out
                      refine Below.setCell ⟨hg6.os.trans hb.os, hg6.tape.trans hb.tape, hg6.output.trans hb.output, by have := hb.size; omega, fun k hk => (hblk6 k (by have := hb.size; omega) (fun hh => by have := (World.ownsRow.lt HRow.out k hh).1; omega)).trans (hb.block k hk)⟩ (Nat.le_refl _) _
                    clear ho6 hg6 hloc6 hblk6 hO6 hF6 hne6 hD6 hH6
                    go_wp2
                    go_roundw
                    case rel => exact ⟨t + 1, _, by omega, by go_num, HN.out, HHN.out, HBN.out⟩
                    case measure => simp [intOf]; omega
                  exact AllReadyH.nil
                exact AllReadyH.nil
              exact AllReadyH.nil
            exact AllReadyH.nil
          exact AllReadyH.nil
        refine AllReadyH.cons rfl (fun K hK => ?_) ?_
        · go_simp
          refine hK.out _ _ ?_ (fun hHeld => ?_)
          · (try dsimp only); (first | (and_intros <;> assumption) | (and_intros <;> first | (exact (World.cell?_setCell_other _ _ _ _ (by intro hh; have h9 := congrArg Addr.block hh; (try simp at h9); (try omega))).trans (by assumption)) | (exact (World.cell?_alloc_past _ _ _ (by first | assumption | omega)).trans (by assumption))) | go_keep)
          clear hK K
          try simp only [Act.put, List.setIfInBounds_toArray, List.set_cons_zero, List.set_cons_succ]
          refine wpAnyH_ready (rs := [10]) (by kernel_rfl) (by simp) ?_
          refine AllReadyH.cons rfl (fun K hK => ?_) ?_
          · go_simp
            refine hK.out _ _ ?_ (fun hHeld => ?_)
            · (try dsimp only); (first | (and_intros <;> assumption) | (and_intros <;> first | (exact (World.cell?_setCell_other _ _ _ _ (by intro hh; have h9 := congrArg Addr.block hh; (try simp at h9); (try omega))).trans (by assumption)) | (exact (World.cell?_alloc_past _ _ _ (by first | assumption | omega)).trans (by assumption))) | go_keep)
            clear hK K
            try simp only [Act.put, List.setIfInBounds_toArray, List.set_cons_zero, List.set_cons_succ]
            refine wpAnyH_ready (rs := [13]) (by kernel_rfl) (by simp) ?_
            refine AllReadyH.cons rfl (fun K hK => ?_) ?_
            · refine step_append_keep rfl (.tmp 58) (.tmp 60) 96 rfl w.heap.size 107 i0 (.agg #[.string ⟨#[]⟩, .string ⟨#[]⟩, .int .i64 0]) 3 40 Tryz.underlying96 hi0 hz0 hz1 hz2 rfl (by decide) (.slice ao t co1) t (((fs.take t).map (crF keep)).flatMap FD.cells) (by simp [Act.eval]) (by exact (World.ownsRow.alloc HRow.out _).drew) ⟨W2.heap.size, 0, none⟩ 1 1 [Value.string (strOf F.n), Value.string (strOf (F.d.take M)), Value.int IntKind.i64 ((M : Nat) : Int)] (by omega) (by simp [Act.eval]) rfl (by intro j u hu; rw [Go.WideShapes.add_plain]; refine (World.cell?_alloc_at _ _ _ _ rfl).trans ?_; simpa using hu) (by intro u hu; simp at hu; rcases hu with rfl | rfl | rfl <;> rfl) (by unfold maxLen; omega) (by omega) (by show _ ≤ (World.alloc _ _).heap.size; simp; omega) ?_
              intro v6 w6 ho6 hg6 hloc6
              obtain ⟨va6, vc6, rfl⟩ := shape_of ho6
              have hblk6 : ∀ k, k < W2.heap.size → Value.ownBlock (.slice ao t co1) ≠ some k → w6.heap[k]? = W2.heap[k]? := fun k hk hne => (hg6.block k (by show _ < (World.alloc _ _).heap.size; simp; omega) (Ne.symm hne)).trans (heap_alloc_old W2 _ hk)
              have hs6 : W2.heap.size ≤ w6.heap.size := Nat.le_trans (by show _ ≤ (World.alloc _ _).heap.size; simp) hg6.size
              have hO6 := hblk6 w.heap.size (by omega) HOff.out
              have hH6 := hblk6 (w.heap.size + 2) (by omega) HOffH.out
              have hD6 := hblk6 (w.heap.size + 1) (by omega) HOffD.out
              have ks6 : w6.cell? ⟨w.heap.size, 0, none⟩ = some (.slice ao t co1) := (World.cell?_of_block (w := W2) (a := ⟨w.heap.size, 0, none⟩) hO6).trans co2
              have kf6 : w6.frozen? ⟨w.heap.size, 0, none⟩ = false := (World.frozen?_of_block (w := W2) (a := ⟨w.heap.size, 0, none⟩) hO6).trans fo2
              have kh6 : w6.cell? ⟨w.heap.size + 2, 0, none⟩ = some (Value.pointer (some ⟨w.heap.size, 0, none⟩)) := (World.cell?_of_block (w := W2) (a := ⟨w.heap.size + 2, 0, none⟩) hH6).trans ch2
              have hF6 := hblk6 wr.heap.size (by omega) HOffF.out
              have y0 : w6.cell? ⟨wr.heap.size, 0, none⟩ = some (Value.string (strOf F.n)) := (World.cell?_of_block (w := W2) (a := ⟨wr.heap.size, 0, none⟩) hF6).trans p0
              have y1 : w6.cell? ⟨wr.heap.size, 1, none⟩ = some (Value.string (strOf (F.d.take M))) := (World.cell?_of_block (w := W2) (a := ⟨wr.heap.size, 1, none⟩) hF6).trans p1
              have y2 : w6.cell? ⟨wr.heap.size, 2, none⟩ = some (Value.int IntKind.i64 ((M : Nat) : Int)) := (World.cell?_of_block (w := W2) (a := ⟨wr.heap.size, 2, none⟩) hF6).trans p2
              refine hK.out _ _ ?_ (fun hHeld => ?_)
              · (try dsimp only); (first | (and_intros <;> assumption) | (and_intros <;> first | (exact (World.cell?_setCell_other _ _ _ _ (by intro hh; have h9 := congrArg Addr.block hh; (try simp at h9); (try omega))).trans (by assumption)) | (exact (World.cell?_alloc_past _ _ _ (by first | assumption | omega)).trans (by assumption))) | go_keep)
              clear hK K
              try simp only [Act.put, List.setIfInBounds_toArray, List.set_cons_zero, List.set_cons_succ]
              refine wpAnyH_ready (rs := [14]) (by kernel_rfl) (by simp) ?_
              refine AllReadyH.cons rfl (fun K hK => ?_) ?_
              · go_simp
                refine hK.out _ _ ?_ (fun hHeld => ?_)
                · (try dsimp only); (first | (and_intros <;> assumption) | (and_intros <;> first | (exact (World.cell?_setCell_other _ _ _ _ (by intro hh; have h9 := congrArg Addr.block hh; (try simp at h9); (try omega))).trans (by assumption)) | (exact (World.cell?_alloc_past _ _ _ (by first | assumption | omega)).trans (by assumption))) | go_keep)
                clear hK K
                try simp only [Act.put, List.setIfInBounds_toArray, List.set_cons_zero, List.set_cons_succ]
                refine wpAnyH_ready (rs := [15]) (by kernel_rfl) (by simp) ?_
                refine AllReadyH.cons rfl (fun K hK => ?_) ?_
                · go_simp
                  refine hK.out _ _ ?_ (fun hHeld => ?_)
                  · (try dsimp only); (first | (and_intros <;> assumption) | (and_intros <;> first | (exact (World.cell?_setCell_other _ _ _ _ (by intro hh; have h9 := congrArg Addr.block hh; (try simp at h9); (try omega))).trans (by assumption)) | (exact (World.cell?_alloc_past _ _ _ (by first | assumption | omega)).trans (by assumption))) | go_keep)
                  clear hK K
                  try simp only [Act.put, List.setIfInBounds_toArray, List.set_cons_zero, List.set_cons_succ]
                  refine wpAnyH_ready (rs := [16]) (by kernel_rfl) (by simp) ?_
                  refine AllReadyH.cons rfl (fun K hK => ?_) ?_
                  · go_simp
                    refine hK.out _ _ ?_ (fun hHeld => ?_)
                    · (try dsimp only); (first | (and_intros <;> assumption) | (and_intros <;> first | (exact (World.cell?_setCell_other _ _ _ _ (by intro hh; have h9 := congrArg Addr.block hh; (try simp at h9); (try omega))).trans (by assumption)) | (exact (World.cell?_alloc_past _ _ _ (by first | assumption | omega)).trans (by assumption))) | go_keep)
                    clear hK K
                    try simp only [Act.put, List.setIfInBounds_toArray, List.set_cons_zero, List.set_cons_succ]
                    refine wpAnyH_done (by kernel_rfl) ?_ _
                    have hne6 : Value.ownBlock (.slice va6 (t + 1) vc6) ≠ some w.heap.size := by
                      intro hh
                      obtain ⟨g', d1, d2⟩ := hloc6
                      rw [d1] at hh
                      have hgO : g' = w.heap.size := by simpa using hh
                      subst hgO
                      rcases d2 with d2 | ⟨d2, _⟩
                      · exact HOff.out d2
                      · have d3 : W2.heap.size + 1 ≤ w.heap.size := Nat.le_trans (by show _ ≤ (World.alloc _ _).heap.size; simp) d2
                        omega
                    have HN : Hid (DS 98 107 w.heap.size (w6.setCell ⟨w.heap.size, 0, none⟩ (.slice va6 (t + 1) vc6)) w.heap.size (.slice va6 (t + 1) vc6) ((fs.take (t + 1)).map (crF keep)) (-1)) := by
                      refine DS.store (low' := w.heap.size) (hO6.trans H2.out.st) ?_ (Nat.le_refl _) hne6
                      rw [HT.out, List.length_append, List.flatMap_append, hlen, HCF.out]
                      simp only [List.length_cons, List.length_nil, List.flatMap_cons, List.flatMap_nil, List.append_nil]
                      exact ho6
                    have HHN : Hid (Hands (w6.setCell ⟨w.heap.size, 0, none⟩ (.slice va6 (t + 1) vc6)) (w.heap.size + 1) (w.heap.size + 2) w.heap.size) := HH2.out.later (((But.setCell w6 ⟨w.heap.size, 0, none⟩ _).block (w.heap.size + 1) (by show w.heap.size + 1 ≠ w.heap.size; omega)).trans hD6) (((But.setCell w6 ⟨w.heap.size, 0, none⟩ _).block (w.heap.size + 2) (by show w.heap.size + 2 ≠ w.heap.size; omega)).trans hH6)
                    have HBN : Hid (Below w.heap.size w (w6.setCell ⟨w.heap.size, 0, none⟩ (.slice va6 (t + 1) vc6))) := by
                      have hb := HB2.out
                      refine Below.setCell ⟨hg6.os.trans hb.os, hg6.tape.trans hb.tape, hg6.output.trans hb.output, by have := hb.size; omega, fun k hk => (hblk6 k (by have := hb.size; omega) (fun hh => by have := (World.ownsRow.lt HRow.out k hh).1; omega)).trans (hb.block k hk)⟩ (Nat.le_refl _) _
                    clear ho6 hg6 hloc6 hblk6 hO6 hF6 hne6 hD6 hH6
                    go_wp2
                    go_roundw
                    case rel => exact ⟨t + 1, _, by omega, by go_num, HN.out, HHN.out, HBN.out⟩
                    case measure => simp [intOf]; omega
                  exact AllReadyH.nil
                exact AllReadyH.nil
              exact AllReadyH.nil
            exact AllReadyH.nil
          exact AllReadyH.nil
        exact AllReadyH.nil
    · obtain rfl : t = fs.length := by omega
      have HFin : Hid (∃ v', DS 98 107 w.heap.size wr w.heap.size v' (fs.map (crF keep)) (-1)) := by refine ⟨vo, ?_⟩; rw [List.take_length] at hd; exact hd
      have HBr : Hid _ := hbr
      have HHr : Hid _ := hhr
      clear hd hhr
      go_wp2
      exact bodyPost_ret (v := .tuple #[.pointer (some ⟨w.heap.size + 1, 0, none⟩), .pointer (some ⟨w.heap.size + 2, 0, none⟩)]) (by simp [results, Tryz.results15, go_sem]) rfl ⟨rfl, HFin.out, HHr.out, HBr.out⟩
end Go.Proofs.YtdcainmlcpafbaaGreatDoor
