import Derived.Test.YtamdkmjdpdkoeaaGreatDoorFC2
set_option linter.unusedSimpArgs false
set_option linter.unusedVariables false
namespace Go.Proofs.YtamdkmjdpdkoeaaGreatDoor
open Go.RowKit

def cN (keep : Int) (f : FD) : Nat := if keep < 0 then f.s else if keep < (f.d.length : Int) - (f.s : Int) then f.s + keep.toNat else f.d.length
def crF (keep : Int) (f : FD) : FD := ⟨f.n, f.d.take (cN keep f), cN keep f⟩
theorem cN_le (keep : Int) (f : FD) (h : f.s ≤ f.d.length) : cN keep f ≤ f.d.length := by
  unfold cN
  split
  · exact h
  · split
    · omega
    · exact Nat.le_refl _
theorem str_take (d : List UInt8) (n : Nat) (h : n ≤ d.length) : (strOf d).extract 0 n = strOf (d.take n) := by
  unfold strOf
  apply ByteArray.ext
  simp [ByteArray.data_extract]
set_option maxHeartbeats 8000000 in
set_option maxRecDepth 20000 in
theorem rcrash_any (low R : Nat) (v : Value) (fs : List FD) (left keep : Int) (w : World) (h : DS 105 109 low w R v fs left) (hl : fs.length ≤ 3000000000) (hb : -9223372036854775808 ≤ keep ∧ keep ≤ 9223372036854775807) (hsafe : ∀ f ∈ fs, f.s ≤ f.d.length ∧ f.d.length ≤ 3000000000) :
    Calls Tryz.prog 16 #[.pointer (some ⟨R, 0, none⟩), .int .i64 keep] w fun r w' => r = .returned (.pointer (some ⟨w.heap.size, 0, none⟩)) ∧ (∃ v', DS 105 109 w.heap.size w' w.heap.size v' (fs.map (crF keep)) (-1)) ∧ Below w.heap.size w w' := by
  obtain ⟨i0, hi0, hz0, hz1, hz2⟩ := info_parts info78
  have hR := h.lt
  have c0 := h.cell 0
  simp at c0
  obtain ⟨a, c, hv, hrow⟩ := row3 h.row
  subst hv
  have HR : Hid _ := hrow
  have HSf : Hid _ := hsafe
  clear h hrow hsafe
  go_enter Tryz.func16, Tryz.ntmps16
  go_wp2_with fail
  refine (rnew_any w.heap.size w).mono ?_
  rintro r w1 ⟨rfl, hd1, hb1, hs1⟩
  have HD1 : Hid (DS 105 109 w.heap.size w1 w.heap.size (.slice none 0 0) [] (-1)) := hd1
  have HB1 : Hid (Below w.heap.size w w1) := hb1
  clear hd1 hb1
  go_wp2_with fail
  go_loopw [6, 7, 8] (fun ix _ _ wr => ∃ (t : Nat) (vo : Value), t ≤ fs.length ∧ ix = .int .i64 t ∧ DS 105 109 w.heap.size wr w.heap.size vo ((fs.take t).map (crF keep)) (-1) ∧ Below w.heap.size w wr) (fun ix _ _ _ => fs.length - (intOf ix).toNat)
  case atStart => exact ⟨0, _, by omega, rfl, HD1.out, HB1.out⟩
  case round =>
    clear HD1 HB1
    obtain ⟨t, vo, ht, rfl, hd, hbr⟩ := hrel
    have hcR := (hbr.cell (p := ⟨R, 0, none⟩) hR).trans c0
    have hbs := hbr.size
    by_cases htl : t < fs.length
    · obtain ⟨g, ha, _, hgl, hcc⟩ := HR.out.resolve_left (by omega)
      subst ha
      have j0 := (hbr.cell (p := ⟨g, t * 3 + 0, none⟩) hgl).trans (hcc _ _ (file_at fs t htl 0 (by omega)))
      have j1 := (hbr.cell (p := ⟨g, t * 3 + 1, none⟩) hgl).trans (hcc _ _ (file_at fs t htl 1 (by omega)))
      have j2 := (hbr.cell (p := ⟨g, t * 3 + 2, none⟩) hgl).trans (hcc _ _ (file_at fs t htl 2 (by omega)))
      simp [FD.cells] at j0 j1 j2
      have htl2 : (t : Int) < (fs.length : Int) := by omega
      have HT : Hid ((fs.take (t + 1)).map (crF keep) = (fs.take t).map (crF keep) ++ [crF keep fs[t]]) := by unfold Hid; rw [List.take_succ_eq_append_getElem htl, List.map_append]; rfl
      obtain ⟨hsf, hdl⟩ := HSf.out fs[t] (List.getElem_mem htl)
      have hcn := cN_le keep fs[t] hsf
      have HCF : Hid (crF keep fs[t] = ⟨fs[t].n, fs[t].d.take (cN keep fs[t]), cN keep fs[t]⟩) := rfl
      have HCN : Hid (cN keep fs[t] = if keep < 0 then fs[t].s else if keep < (fs[t].d.length : Int) - (fs[t].s : Int) then fs[t].s + keep.toNat else fs[t].d.length) := rfl
      clear hcc
      generalize fs[t] = F at *
      have hsz : (strOf F.d).size = F.d.length := strOf_size _
      have HDS : Hid (DS 105 109 w.heap.size wr w.heap.size vo ((fs.take t).map (crF keep)) (-1)) := hd
      have HBr : Hid (Below w.heap.size w wr) := hbr
      have co := hd.cell 0
      have fo := hd.free 0
      simp at co
      have hO := hd.lt
      clear hd hbr
      have hb2 := (Below.refl wr.heap.size wr).alloc (Nat.le_refl _) (Obj.cells #[Value.string (strOf F.n), Value.string (strOf F.d), Value.int IntKind.i64 (F.s : Int)] 109)
      have fc2 : ∀ i, (wr.alloc (Obj.cells #[Value.string (strOf F.n), Value.string (strOf F.d), Value.int IntKind.i64 (F.s : Int)] 109)).cell? ⟨wr.heap.size, i, none⟩ = #[Value.string (strOf F.n), Value.string (strOf F.d), Value.int IntKind.i64 (F.s : Int)][i]? := fun i => World.cell?_alloc_at _ _ _ _ rfl
      have H2 : Hid (DS 105 109 w.heap.size (wr.alloc (Obj.cells #[Value.string (strOf F.n), Value.string (strOf F.d), Value.int IntKind.i64 (F.s : Int)] 109)) w.heap.size vo ((fs.take t).map (crF keep)) (-1)) := HDS.out.later hb2
      have HB2 : Hid (Below w.heap.size w (wr.alloc (Obj.cells #[Value.string (strOf F.n), Value.string (strOf F.d), Value.int IntKind.i64 (F.s : Int)] 109))) := HBr.out.trans (hb2.mono hbs)
      have hs2 : (wr.alloc (Obj.cells #[Value.string (strOf F.n), Value.string (strOf F.d), Value.int IntKind.i64 (F.s : Int)] 109)).heap.size = wr.heap.size + 1 := by simp
      have hdi : (F.d.length : Int) - (F.s : Int) ≤ 3000000000 := by omega
      have hX : cN keep F = F.s ∧ keep < 0 ∨ ¬ keep < 0 ∧ keep < (F.d.length : Int) - (F.s : Int) ∧ (cN keep F : Int) = (F.s : Int) + keep ∨ ¬ keep < 0 ∧ ¬ keep < (F.d.length : Int) - (F.s : Int) ∧ cN keep F = F.d.length := by
        rw [HCN.out]
        by_cases h1 : keep < 0
        · exact .inl ⟨by rw [if_pos h1], h1⟩
        · by_cases h2 : keep < (F.d.length : Int) - (F.s : Int)
          · exact .inr (.inl ⟨h1, h2, by rw [if_neg h1, if_pos h2]; omega⟩)
          · exact .inr (.inr ⟨h1, h2, by rw [if_neg h1, if_neg h2]⟩)
      have HX : Hid _ := hX
      clear hb2 hX
      obtain ⟨ao, co1, hvo, _⟩ := row3 H2.out.row
      have hlen : ((fs.take t).map (crF keep)).length = t := by rw [List.length_map, List.length_take]; omega
      rw [hlen] at hvo
      subst hvo
      have HRow : Hid ((wr.alloc (Obj.cells #[Value.string (strOf F.n), Value.string (strOf F.d), Value.int IntKind.i64 (F.s : Int)] 109)).ownsRow w.heap.size 109 3 (.slice ao t co1) t (((fs.take t).map (crF keep)).flatMap FD.cells)) := by have h9 := H2.out.row; rw [hlen] at h9; exact h9
      have HOff : Hid (Value.ownBlock (.slice ao t co1) ≠ some w.heap.size) := HDS.out.off (by decide)
      have HOffF : Hid (Value.ownBlock (.slice ao t co1) ≠ some wr.heap.size) := fun hh => by have := (HDS.out.row.lt wr.heap.size hh).2; omega
      have co2 : (wr.alloc (Obj.cells #[Value.string (strOf F.n), Value.string (strOf F.d), Value.int IntKind.i64 (F.s : Int)] 109)).cell? ⟨w.heap.size, 0, none⟩ = some (.slice ao t co1) := (World.cell?_alloc_past _ _ _ hO).trans co
      have fo2 := H2.out.free 0
      have hO2 := H2.out.lt
      have p0 : (wr.alloc (Obj.cells #[Value.string (strOf F.n), Value.string (strOf F.d), Value.int IntKind.i64 (F.s : Int)] 109)).cell? ⟨wr.heap.size, 0, none⟩ = some (Value.string (strOf F.n)) := fc2 0
      have p1 : (wr.alloc (Obj.cells #[Value.string (strOf F.n), Value.string (strOf F.d), Value.int IntKind.i64 (F.s : Int)] 109)).cell? ⟨wr.heap.size, 1, none⟩ = some (Value.string (strOf F.d)) := fc2 1
      have p2 : (wr.alloc (Obj.cells #[Value.string (strOf F.n), Value.string (strOf F.d), Value.int IntKind.i64 (F.s : Int)] 109)).cell? ⟨wr.heap.size, 2, none⟩ = some (Value.int IntKind.i64 (F.s : Int)) := fc2 2
      clear fc2
      rcases HX.out with ⟨e, hk0⟩ | ⟨hk0, hk1, e⟩ | ⟨hk0, hk1, e⟩
      · go_wp2_with fail
        have HE : Hid (crF keep F = ⟨F.n, F.d.take (F.s), F.s⟩) := by unfold Hid; rw [HCF.out, e]
        have HSt : Hid ((strOf F.d).extract 0 (F.s) = strOf (F.d.take (F.s))) := str_take F.d (F.s) (by omega)
        generalize (wr.alloc (Obj.cells #[Value.string (strOf F.n), Value.string (strOf F.d), Value.int IntKind.i64 (F.s : Int)] 109)) = W2 at *
        have q1 : (W2.alloc (Obj.cells #[Value.string (strOf F.n), Value.string ((strOf F.d).extract 0 F.s), Value.int IntKind.i64 ((F.s : Nat) : Int)] 109)).drew.cell? ⟨w.heap.size, 0, none⟩ = some (.slice ao t co1) := (World.cell?_alloc_past _ _ _ hO2).trans co2
        refine wp_region_held_drew (S := (fun w' => w'.cell? ⟨wr.heap.size, 0, none⟩ = some (Value.string (strOf F.n)) ∧ w'.cell? ⟨wr.heap.size, 1, none⟩ = some (Value.string (strOf F.d)) ∧ w'.cell? ⟨wr.heap.size, 2, none⟩ = some (Value.int IntKind.i64 (F.s : Int)))) (by kernel_rfl) (by (try dsimp only); (first | (and_intros <;> assumption) | (and_intros <;> first | (exact (World.cell?_setCell_other _ _ _ _ (by intro hh; have h9 := congrArg Addr.block hh; simp at h9; omega)).trans (by assumption)) | (exact (World.cell?_alloc_past _ _ _ (by first | assumption | omega)).trans (by assumption))) | go_keep)) (fun hHeld => ?_)
        refine wpAnyH_take (i := 0) (v := ?_) rfl (by kernel_rfl) (by kernel_rfl) (by kernel_rfl) (fun _ _ _ h => h) (Or.inl ⟨by rfl, ?_⟩) (by assumption) ?_
        rotate_left
        · intro w hSw; (try dsimp only at hSw); go_simp; (try with_reducible rfl)
        try simp only [Act.put, List.setIfInBounds_toArray, List.set_cons_zero, List.set_cons_succ]
        refine wpAnyH_take (i := 1) (v := ?_) rfl (by kernel_rfl) (by kernel_rfl) (by kernel_rfl) (fun _ _ _ h => h) (Or.inl ⟨by rfl, ?_⟩) (by assumption) ?_
        rotate_left
        · intro w hSw; (try dsimp only at hSw); go_simp; (try with_reducible rfl)
        try simp only [Act.put, List.setIfInBounds_toArray, List.set_cons_zero, List.set_cons_succ]
        refine wpAnyH_take (i := 2) (v := ?_) rfl (by kernel_rfl) (by kernel_rfl) (by kernel_rfl) (fun _ _ _ h => h) (Or.inl ⟨by rfl, ?_⟩) (by assumption) ?_
        rotate_left
        · intro w hSw; (try dsimp only at hSw); go_simp; (try with_reducible rfl)
        try simp only [Act.put, List.setIfInBounds_toArray, List.set_cons_zero, List.set_cons_succ]
        refine wpAnyH_take (i := 3) (v := ?_) rfl (by kernel_rfl) (by kernel_rfl) (by kernel_rfl) (fun _ _ _ h => h) (Or.inl ⟨by rfl, ?_⟩) (by assumption) ?_
        rotate_left
        · intro w hSw; (try dsimp only at hSw); go_simp; (try with_reducible rfl)
        try simp only [Act.put, List.setIfInBounds_toArray, List.set_cons_zero, List.set_cons_succ]
        refine wpAnyH_take (i := 5) (v := ?_) rfl (by kernel_rfl) (by kernel_rfl) (by kernel_rfl) (fun _ _ _ h => h) (Or.inl ⟨by rfl, ?_⟩) (by assumption) ?_
        rotate_left
        · intro w hSw; (try dsimp only at hSw); go_simp; (try with_reducible rfl)
        try simp only [Act.put, List.setIfInBounds_toArray, List.set_cons_zero, List.set_cons_succ]
        refine wpAnyH_take (i := 6) (v := ?_) rfl (by kernel_rfl) (by kernel_rfl) (by kernel_rfl) (fun _ _ _ h => h) (Or.inl ⟨by rfl, ?_⟩) (by assumption) ?_
        rotate_left
        · intro w hSw; (try dsimp only at hSw); go_simp; (try with_reducible rfl)
        try simp only [Act.put, List.setIfInBounds_toArray, List.set_cons_zero, List.set_cons_succ]
        refine wpAnyH_take (i := 7) (v := ?_) rfl (by kernel_rfl) (by kernel_rfl) (by kernel_rfl) (fun _ _ _ h => h) (Or.inl ⟨by rfl, ?_⟩) (by assumption) ?_
        rotate_left
        · intro w hSw; (try dsimp only at hSw); go_simp; (try with_reducible rfl)
        try simp only [Act.put, List.setIfInBounds_toArray, List.set_cons_zero, List.set_cons_succ]
        refine wpAnyH_take (i := 8) (v := ?_) rfl (by kernel_rfl) (by kernel_rfl) (by kernel_rfl) (fun _ _ _ h => h) (Or.inl ⟨by rfl, ?_⟩) (by assumption) ?_
        rotate_left
        · intro w hSw; (try dsimp only at hSw); go_simp; (try with_reducible rfl)
        try simp only [Act.put, List.setIfInBounds_toArray, List.set_cons_zero, List.set_cons_succ]
        refine wpAnyH_take (i := 9) (v := ?_) rfl (by kernel_rfl) (by kernel_rfl) (by kernel_rfl) (fun _ _ _ h => h) (Or.inl ⟨by rfl, ?_⟩) (by assumption) ?_
        rotate_left
        · intro w hSw; (try dsimp only at hSw); go_simp; (try with_reducible rfl)
        try simp only [Act.put, List.setIfInBounds_toArray, List.set_cons_zero, List.set_cons_succ]
        refine wpAnyH_take (i := 10) (v := ?_) rfl (by kernel_rfl) (by kernel_rfl) (by kernel_rfl) (fun _ _ _ h => h) (Or.inl ⟨by rfl, ?_⟩) (by assumption) ?_
        rotate_left
        · intro w hSw; (try dsimp only at hSw); go_simp; (try with_reducible rfl)
        try simp only [Act.put, List.setIfInBounds_toArray, List.set_cons_zero, List.set_cons_succ]
        refine wpAnyH_take (i := 11) (v := ?_) rfl (by kernel_rfl) (by kernel_rfl) (by kernel_rfl) (fun _ _ _ h => h) (Or.inl ⟨by rfl, ?_⟩) (by assumption) ?_
        rotate_left
        · intro w hSw; (try dsimp only at hSw); go_simp; (try with_reducible rfl)
        try simp only [Act.put, List.setIfInBounds_toArray, List.set_cons_zero, List.set_cons_succ]
        refine wpAnyH_take (i := 12) (v := ?_) rfl (by kernel_rfl) (by kernel_rfl) (by kernel_rfl) (fun _ _ _ h => h) (Or.inl ⟨by rfl, ?_⟩) (by assumption) ?_
        rotate_left
        · intro w hSw; (try dsimp only at hSw); go_simp; (try with_reducible rfl)
        try simp only [Act.put, List.setIfInBounds_toArray, List.set_cons_zero, List.set_cons_succ]
        refine wpAnyH_ready (rs := [4, 13]) (by kernel_rfl) (by simp) ?_
        refine AllReadyH.cons rfl (fun K hK => ?_) ?_
        · go_simp
          refine hK.out _ _ ?_ (fun hHeld => ?_)
          · (try dsimp only); (first | (and_intros <;> assumption) | (and_intros <;> first | (exact (World.cell?_setCell_other _ _ _ _ (by intro hh; have h9 := congrArg Addr.block hh; simp at h9; omega)).trans (by assumption)) | (exact (World.cell?_alloc_past _ _ _ (by first | assumption | omega)).trans (by assumption))) | go_keep)
          clear hK K
          try simp only [Act.put, List.setIfInBounds_toArray, List.set_cons_zero, List.set_cons_succ]
          refine wpAnyH_ready (rs := [13]) (by kernel_rfl) (by simp) ?_
          refine AllReadyH.cons rfl (fun K hK => ?_) ?_
          · go_simp
            refine hK.out _ _ ?_ (fun hHeld => ?_)
            · (try dsimp only); (first | (and_intros <;> assumption) | (and_intros <;> first | (exact (World.cell?_setCell_other _ _ _ _ (by intro hh; have h9 := congrArg Addr.block hh; simp at h9; omega)).trans (by assumption)) | (exact (World.cell?_alloc_past _ _ _ (by first | assumption | omega)).trans (by assumption))) | go_keep)
            clear hK K
            try simp only [Act.put, List.setIfInBounds_toArray, List.set_cons_zero, List.set_cons_succ]
            refine wpAnyH_ready (rs := [14]) (by kernel_rfl) (by simp) ?_
            refine AllReadyH.cons rfl (fun K hK => ?_) ?_
            · refine step_append_keep rfl (.tmp 47) (.tmp 56) 103 rfl w.heap.size 109 i0 (.agg #[.string ⟨#[]⟩, .string ⟨#[]⟩, .int .i64 0]) 3 40 Tryz.underlying103 hi0 hz0 hz1 hz2 rfl (by decide) (.slice ao t co1) t (((fs.take t).map (crF keep)).flatMap FD.cells) (by simp [Act.eval]) (by exact (World.ownsRow.alloc HRow.out _).drew) ⟨W2.heap.size, 0, none⟩ 1 1 [Value.string (strOf F.n), Value.string ((strOf F.d).extract 0 F.s), Value.int IntKind.i64 ((F.s : Nat) : Int)] (by omega) (by simp [Act.eval]) rfl (by intro j u hu; rw [Go.WideShapes.add_plain]; refine (World.cell?_alloc_at _ _ _ _ rfl).trans ?_; simpa using hu) (by intro u hu; simp at hu; rcases hu with rfl | rfl | rfl <;> rfl) (by unfold maxLen; omega) (by omega) (by show _ ≤ (World.alloc _ _).heap.size; simp; omega) ?_
              intro v6 w6 ho6 hg6 hloc6
              obtain ⟨va6, vc6, rfl⟩ := shape_of ho6
              have hblk6 : ∀ k, k < W2.heap.size → Value.ownBlock (.slice ao t co1) ≠ some k → w6.heap[k]? = W2.heap[k]? := fun k hk hne => (hg6.block k (by show _ < (World.alloc _ _).heap.size; simp; omega) (Ne.symm hne)).trans (heap_alloc_old W2 _ hk)
              have hs6 : W2.heap.size ≤ w6.heap.size := Nat.le_trans (by show _ ≤ (World.alloc _ _).heap.size; simp) hg6.size
              have hO6 := hblk6 w.heap.size (by omega) HOff.out
              have ks6 : w6.cell? ⟨w.heap.size, 0, none⟩ = some (.slice ao t co1) := (World.cell?_of_block (w := W2) (a := ⟨w.heap.size, 0, none⟩) hO6).trans co2
              have kf6 : w6.frozen? ⟨w.heap.size, 0, none⟩ = false := (World.frozen?_of_block (w := W2) (a := ⟨w.heap.size, 0, none⟩) hO6).trans fo2
              have hF6 := hblk6 wr.heap.size (by omega) HOffF.out
              have y0 : w6.cell? ⟨wr.heap.size, 0, none⟩ = some (Value.string (strOf F.n)) := (World.cell?_of_block (w := W2) (a := ⟨wr.heap.size, 0, none⟩) hF6).trans p0
              have y1 : w6.cell? ⟨wr.heap.size, 1, none⟩ = some (Value.string (strOf F.d)) := (World.cell?_of_block (w := W2) (a := ⟨wr.heap.size, 1, none⟩) hF6).trans p1
              have y2 : w6.cell? ⟨wr.heap.size, 2, none⟩ = some (Value.int IntKind.i64 (F.s : Int)) := (World.cell?_of_block (w := W2) (a := ⟨wr.heap.size, 2, none⟩) hF6).trans p2
              refine hK.out _ _ ?_ (fun hHeld => ?_)
              · (try dsimp only); (first | (and_intros <;> assumption) | (and_intros <;> first | (exact (World.cell?_setCell_other _ _ _ _ (by intro hh; have h9 := congrArg Addr.block hh; simp at h9; omega)).trans (by assumption)) | (exact (World.cell?_alloc_past _ _ _ (by first | assumption | omega)).trans (by assumption))) | go_keep)
              clear hK K
              try simp only [Act.put, List.setIfInBounds_toArray, List.set_cons_zero, List.set_cons_succ]
              refine wpAnyH_ready (rs := [15]) (by kernel_rfl) (by simp) ?_
              refine AllReadyH.cons rfl (fun K hK => ?_) ?_
              · go_simp
                refine hK.out _ _ ?_ (fun hHeld => ?_)
                · (try dsimp only); (first | (and_intros <;> assumption) | (and_intros <;> first | (exact (World.cell?_setCell_other _ _ _ _ (by intro hh; have h9 := congrArg Addr.block hh; simp at h9; omega)).trans (by assumption)) | (exact (World.cell?_alloc_past _ _ _ (by first | assumption | omega)).trans (by assumption))) | go_keep)
                clear hK K
                try simp only [Act.put, List.setIfInBounds_toArray, List.set_cons_zero, List.set_cons_succ]
                refine wpAnyH_ready (rs := [16]) (by kernel_rfl) (by simp) ?_
                refine AllReadyH.cons rfl (fun K hK => ?_) ?_
                · go_simp
                  refine hK.out _ _ ?_ (fun hHeld => ?_)
                  · (try dsimp only); (first | (and_intros <;> assumption) | (and_intros <;> first | (exact (World.cell?_setCell_other _ _ _ _ (by intro hh; have h9 := congrArg Addr.block hh; simp at h9; omega)).trans (by assumption)) | (exact (World.cell?_alloc_past _ _ _ (by first | assumption | omega)).trans (by assumption))) | go_keep)
                  clear hK K
                  try simp only [Act.put, List.setIfInBounds_toArray, List.set_cons_zero, List.set_cons_succ]
                  refine wpAnyH_ready (rs := [17]) (by kernel_rfl) (by simp) ?_
                  refine AllReadyH.cons rfl (fun K hK => ?_) ?_
                  · go_simp
                    refine hK.out _ _ ?_ (fun hHeld => ?_)
                    · (try dsimp only); (first | (and_intros <;> assumption) | (and_intros <;> first | (exact (World.cell?_setCell_other _ _ _ _ (by intro hh; have h9 := congrArg Addr.block hh; simp at h9; omega)).trans (by assumption)) | (exact (World.cell?_alloc_past _ _ _ (by first | assumption | omega)).trans (by assumption))) | go_keep)
                    clear hK K
                    try simp only [Act.put, List.setIfInBounds_toArray, List.set_cons_zero, List.set_cons_succ]
                    refine wpAnyH_done (by kernel_rfl) ?_ _
                    have hlt6 : ∀ g, Value.ownBlock (.slice va6 (t + 1) vc6) = some g → w.heap.size ≤ g := fun g hg => (World.ownsRow.lt ho6 g hg).1
                    have hne6 : Value.ownBlock (.slice va6 (t + 1) vc6) ≠ some w.heap.size := by
                      intro hh
                      obtain ⟨g', d1, d2⟩ := hloc6
                      rw [d1] at hh
                      have hgO : g' = w.heap.size := by simpa using hh
                      subst hgO
                      rcases d2 with d2 | ⟨d2, _⟩
                      · exact HOff.out d2
                      · have d3 : W2.heap.size + 1 ≤ w.heap.size := Nat.le_trans (by show _ ≤ (World.alloc _ _).heap.size; simp) d2
                        omega
                    have HN : Hid (DS 105 109 w.heap.size (w6.setCell ⟨w.heap.size, 0, none⟩ (.slice va6 (t + 1) vc6)) w.heap.size (.slice va6 (t + 1) vc6) ((fs.take (t + 1)).map (crF keep)) (-1)) := by
                      refine DS.store (low' := w.heap.size) (hO6.trans H2.out.st) ?_ (Nat.le_refl _) hne6
                      rw [HT.out, List.length_append, List.flatMap_append, hlen, HE.out]
                      simp only [List.length_cons, List.length_nil, List.flatMap_cons, List.flatMap_nil, List.append_nil]
                      rw [HSt.out] at ho6
                      exact ho6
                    have HBN : Hid (Below w.heap.size w (w6.setCell ⟨w.heap.size, 0, none⟩ (.slice va6 (t + 1) vc6))) := by
                      have hb := HB2.out
                      refine Below.setCell ⟨hg6.os.trans hb.os, hg6.tape.trans hb.tape, hg6.output.trans hb.output, by have := hb.size; omega, fun k hk => (hblk6 k (by have := hb.size; omega) (fun hh => by have := (World.ownsRow.lt HRow.out k hh).1; omega)).trans (hb.block k hk)⟩ (Nat.le_refl _) _
                    clear ho6 hg6 hloc6 hblk6 hO6 hF6 hlt6 hne6
                    go_wp2
                    go_roundw
                    case rel => exact ⟨t + 1, _, by omega, by go_num, HN.out, HBN.out⟩
                    case measure => simp [intOf]; omega
                  exact AllReadyH.nil
                exact AllReadyH.nil
              exact AllReadyH.nil
            exact AllReadyH.nil
          exact AllReadyH.nil
        refine AllReadyH.cons rfl (fun K hK => ?_) ?_
        · go_simp
          refine hK.out _ _ ?_ (fun hHeld => ?_)
          · (try dsimp only); (first | (and_intros <;> assumption) | (and_intros <;> first | (exact (World.cell?_setCell_other _ _ _ _ (by intro hh; have h9 := congrArg Addr.block hh; simp at h9; omega)).trans (by assumption)) | (exact (World.cell?_alloc_past _ _ _ (by first | assumption | omega)).trans (by assumption))) | go_keep)
          clear hK K
          try simp only [Act.put, List.setIfInBounds_toArray, List.set_cons_zero, List.set_cons_succ]
          refine wpAnyH_ready (rs := [4]) (by kernel_rfl) (by simp) ?_
          refine AllReadyH.cons rfl (fun K hK => ?_) ?_
          · go_simp
            refine hK.out _ _ ?_ (fun hHeld => ?_)
            · (try dsimp only); (first | (and_intros <;> assumption) | (and_intros <;> first | (exact (World.cell?_setCell_other _ _ _ _ (by intro hh; have h9 := congrArg Addr.block hh; simp at h9; omega)).trans (by assumption)) | (exact (World.cell?_alloc_past _ _ _ (by first | assumption | omega)).trans (by assumption))) | go_keep)
            clear hK K
            try simp only [Act.put, List.setIfInBounds_toArray, List.set_cons_zero, List.set_cons_succ]
            refine wpAnyH_ready (rs := [14]) (by kernel_rfl) (by simp) ?_
            refine AllReadyH.cons rfl (fun K hK => ?_) ?_
            · refine step_append_keep rfl (.tmp 47) (.tmp 56) 103 rfl w.heap.size 109 i0 (.agg #[.string ⟨#[]⟩, .string ⟨#[]⟩, .int .i64 0]) 3 40 Tryz.underlying103 hi0 hz0 hz1 hz2 rfl (by decide) (.slice ao t co1) t (((fs.take t).map (crF keep)).flatMap FD.cells) (by simp [Act.eval]) (by exact (World.ownsRow.alloc HRow.out _).drew) ⟨W2.heap.size, 0, none⟩ 1 1 [Value.string (strOf F.n), Value.string ((strOf F.d).extract 0 F.s), Value.int IntKind.i64 ((F.s : Nat) : Int)] (by omega) (by simp [Act.eval]) rfl (by intro j u hu; rw [Go.WideShapes.add_plain]; refine (World.cell?_alloc_at _ _ _ _ rfl).trans ?_; simpa using hu) (by intro u hu; simp at hu; rcases hu with rfl | rfl | rfl <;> rfl) (by unfold maxLen; omega) (by omega) (by show _ ≤ (World.alloc _ _).heap.size; simp; omega) ?_
              intro v6 w6 ho6 hg6 hloc6
              obtain ⟨va6, vc6, rfl⟩ := shape_of ho6
              have hblk6 : ∀ k, k < W2.heap.size → Value.ownBlock (.slice ao t co1) ≠ some k → w6.heap[k]? = W2.heap[k]? := fun k hk hne => (hg6.block k (by show _ < (World.alloc _ _).heap.size; simp; omega) (Ne.symm hne)).trans (heap_alloc_old W2 _ hk)
              have hs6 : W2.heap.size ≤ w6.heap.size := Nat.le_trans (by show _ ≤ (World.alloc _ _).heap.size; simp) hg6.size
              have hO6 := hblk6 w.heap.size (by omega) HOff.out
              have ks6 : w6.cell? ⟨w.heap.size, 0, none⟩ = some (.slice ao t co1) := (World.cell?_of_block (w := W2) (a := ⟨w.heap.size, 0, none⟩) hO6).trans co2
              have kf6 : w6.frozen? ⟨w.heap.size, 0, none⟩ = false := (World.frozen?_of_block (w := W2) (a := ⟨w.heap.size, 0, none⟩) hO6).trans fo2
              have hF6 := hblk6 wr.heap.size (by omega) HOffF.out
              have y0 : w6.cell? ⟨wr.heap.size, 0, none⟩ = some (Value.string (strOf F.n)) := (World.cell?_of_block (w := W2) (a := ⟨wr.heap.size, 0, none⟩) hF6).trans p0
              have y1 : w6.cell? ⟨wr.heap.size, 1, none⟩ = some (Value.string (strOf F.d)) := (World.cell?_of_block (w := W2) (a := ⟨wr.heap.size, 1, none⟩) hF6).trans p1
              have y2 : w6.cell? ⟨wr.heap.size, 2, none⟩ = some (Value.int IntKind.i64 (F.s : Int)) := (World.cell?_of_block (w := W2) (a := ⟨wr.heap.size, 2, none⟩) hF6).trans p2
              refine hK.out _ _ ?_ (fun hHeld => ?_)
              · (try dsimp only); (first | (and_intros <;> assumption) | (and_intros <;> first | (exact (World.cell?_setCell_other _ _ _ _ (by intro hh; have h9 := congrArg Addr.block hh; simp at h9; omega)).trans (by assumption)) | (exact (World.cell?_alloc_past _ _ _ (by first | assumption | omega)).trans (by assumption))) | go_keep)
              clear hK K
              try simp only [Act.put, List.setIfInBounds_toArray, List.set_cons_zero, List.set_cons_succ]
              refine wpAnyH_ready (rs := [15]) (by kernel_rfl) (by simp) ?_
              refine AllReadyH.cons rfl (fun K hK => ?_) ?_
              · go_simp
                refine hK.out _ _ ?_ (fun hHeld => ?_)
                · (try dsimp only); (first | (and_intros <;> assumption) | (and_intros <;> first | (exact (World.cell?_setCell_other _ _ _ _ (by intro hh; have h9 := congrArg Addr.block hh; simp at h9; omega)).trans (by assumption)) | (exact (World.cell?_alloc_past _ _ _ (by first | assumption | omega)).trans (by assumption))) | go_keep)
                clear hK K
                try simp only [Act.put, List.setIfInBounds_toArray, List.set_cons_zero, List.set_cons_succ]
                refine wpAnyH_ready (rs := [16]) (by kernel_rfl) (by simp) ?_
                refine AllReadyH.cons rfl (fun K hK => ?_) ?_
                · go_simp
                  refine hK.out _ _ ?_ (fun hHeld => ?_)
                  · (try dsimp only); (first | (and_intros <;> assumption) | (and_intros <;> first | (exact (World.cell?_setCell_other _ _ _ _ (by intro hh; have h9 := congrArg Addr.block hh; simp at h9; omega)).trans (by assumption)) | (exact (World.cell?_alloc_past _ _ _ (by first | assumption | omega)).trans (by assumption))) | go_keep)
                  clear hK K
                  try simp only [Act.put, List.setIfInBounds_toArray, List.set_cons_zero, List.set_cons_succ]
                  refine wpAnyH_ready (rs := [17]) (by kernel_rfl) (by simp) ?_
                  refine AllReadyH.cons rfl (fun K hK => ?_) ?_
                  · go_simp
                    refine hK.out _ _ ?_ (fun hHeld => ?_)
                    · (try dsimp only); (first | (and_intros <;> assumption) | (and_intros <;> first | (exact (World.cell?_setCell_other _ _ _ _ (by intro hh; have h9 := congrArg Addr.block hh; simp at h9; omega)).trans (by assumption)) | (exact (World.cell?_alloc_past _ _ _ (by first | assumption | omega)).trans (by assumption))) | go_keep)
                    clear hK K
                    try simp only [Act.put, List.setIfInBounds_toArray, List.set_cons_zero, List.set_cons_succ]
                    refine wpAnyH_done (by kernel_rfl) ?_ _
                    have hlt6 : ∀ g, Value.ownBlock (.slice va6 (t + 1) vc6) = some g → w.heap.size ≤ g := fun g hg => (World.ownsRow.lt ho6 g hg).1
                    have hne6 : Value.ownBlock (.slice va6 (t + 1) vc6) ≠ some w.heap.size := by
                      intro hh
                      obtain ⟨g', d1, d2⟩ := hloc6
                      rw [d1] at hh
                      have hgO : g' = w.heap.size := by simpa using hh
                      subst hgO
                      rcases d2 with d2 | ⟨d2, _⟩
                      · exact HOff.out d2
                      · have d3 : W2.heap.size + 1 ≤ w.heap.size := Nat.le_trans (by show _ ≤ (World.alloc _ _).heap.size; simp) d2
                        omega
                    have HN : Hid (DS 105 109 w.heap.size (w6.setCell ⟨w.heap.size, 0, none⟩ (.slice va6 (t + 1) vc6)) w.heap.size (.slice va6 (t + 1) vc6) ((fs.take (t + 1)).map (crF keep)) (-1)) := by
                      refine DS.store (low' := w.heap.size) (hO6.trans H2.out.st) ?_ (Nat.le_refl _) hne6
                      rw [HT.out, List.length_append, List.flatMap_append, hlen, HE.out]
                      simp only [List.length_cons, List.length_nil, List.flatMap_cons, List.flatMap_nil, List.append_nil]
                      rw [HSt.out] at ho6
                      exact ho6
                    have HBN : Hid (Below w.heap.size w (w6.setCell ⟨w.heap.size, 0, none⟩ (.slice va6 (t + 1) vc6))) := by
                      have hb := HB2.out
                      refine Below.setCell ⟨hg6.os.trans hb.os, hg6.tape.trans hb.tape, hg6.output.trans hb.output, by have := hb.size; omega, fun k hk => (hblk6 k (by have := hb.size; omega) (fun hh => by have := (World.ownsRow.lt HRow.out k hh).1; omega)).trans (hb.block k hk)⟩ (Nat.le_refl _) _
                    clear ho6 hg6 hloc6 hblk6 hO6 hF6 hlt6 hne6
                    go_wp2
                    go_roundw
                    case rel => exact ⟨t + 1, _, by omega, by go_num, HN.out, HBN.out⟩
                    case measure => simp [intOf]; omega
                  exact AllReadyH.nil
                exact AllReadyH.nil
              exact AllReadyH.nil
            exact AllReadyH.nil
          exact AllReadyH.nil
        exact AllReadyH.nil
      · go_wp2_with fail
        rw [show (F.s : Int) + keep = ((cN keep F : Nat) : Int) from e.symm]
        generalize cN keep F = M at *
        clear e HX HCN
        have HE : Hid (crF keep F = ⟨F.n, F.d.take (M), M⟩) := by unfold Hid; rw [HCF.out]
        have HSt : Hid ((strOf F.d).extract 0 (M) = strOf (F.d.take (M))) := str_take F.d (M) (by omega)
        generalize (wr.alloc (Obj.cells #[Value.string (strOf F.n), Value.string (strOf F.d), Value.int IntKind.i64 (F.s : Int)] 109)) = W2 at *
        have q1 : (W2.alloc (Obj.cells #[Value.string (strOf F.n), Value.string ((strOf F.d).extract 0 M), Value.int IntKind.i64 ((M : Nat) : Int)] 109)).drew.cell? ⟨w.heap.size, 0, none⟩ = some (.slice ao t co1) := (World.cell?_alloc_past _ _ _ hO2).trans co2
        refine wp_region_held_drew (S := (fun w' => w'.cell? ⟨wr.heap.size, 0, none⟩ = some (Value.string (strOf F.n)) ∧ w'.cell? ⟨wr.heap.size, 1, none⟩ = some (Value.string (strOf F.d)) ∧ w'.cell? ⟨wr.heap.size, 2, none⟩ = some (Value.int IntKind.i64 (F.s : Int)))) (by kernel_rfl) (by (try dsimp only); (first | (and_intros <;> assumption) | (and_intros <;> first | (exact (World.cell?_setCell_other _ _ _ _ (by intro hh; have h9 := congrArg Addr.block hh; simp at h9; omega)).trans (by assumption)) | (exact (World.cell?_alloc_past _ _ _ (by first | assumption | omega)).trans (by assumption))) | go_keep)) (fun hHeld => ?_)
        refine wpAnyH_take (i := 0) (v := ?_) rfl (by kernel_rfl) (by kernel_rfl) (by kernel_rfl) (fun _ _ _ h => h) (Or.inl ⟨by rfl, ?_⟩) (by assumption) ?_
        rotate_left
        · intro w hSw; (try dsimp only at hSw); go_simp; (try with_reducible rfl)
        try simp only [Act.put, List.setIfInBounds_toArray, List.set_cons_zero, List.set_cons_succ]
        refine wpAnyH_take (i := 1) (v := ?_) rfl (by kernel_rfl) (by kernel_rfl) (by kernel_rfl) (fun _ _ _ h => h) (Or.inl ⟨by rfl, ?_⟩) (by assumption) ?_
        rotate_left
        · intro w hSw; (try dsimp only at hSw); go_simp; (try with_reducible rfl)
        try simp only [Act.put, List.setIfInBounds_toArray, List.set_cons_zero, List.set_cons_succ]
        refine wpAnyH_take (i := 2) (v := ?_) rfl (by kernel_rfl) (by kernel_rfl) (by kernel_rfl) (fun _ _ _ h => h) (Or.inl ⟨by rfl, ?_⟩) (by assumption) ?_
        rotate_left
        · intro w hSw; (try dsimp only at hSw); go_simp; (try with_reducible rfl)
        try simp only [Act.put, List.setIfInBounds_toArray, List.set_cons_zero, List.set_cons_succ]
        refine wpAnyH_take (i := 3) (v := ?_) rfl (by kernel_rfl) (by kernel_rfl) (by kernel_rfl) (fun _ _ _ h => h) (Or.inl ⟨by rfl, ?_⟩) (by assumption) ?_
        rotate_left
        · intro w hSw; (try dsimp only at hSw); go_simp; (try with_reducible rfl)
        try simp only [Act.put, List.setIfInBounds_toArray, List.set_cons_zero, List.set_cons_succ]
        refine wpAnyH_take (i := 5) (v := ?_) rfl (by kernel_rfl) (by kernel_rfl) (by kernel_rfl) (fun _ _ _ h => h) (Or.inl ⟨by rfl, ?_⟩) (by assumption) ?_
        rotate_left
        · intro w hSw; (try dsimp only at hSw); go_simp; (try with_reducible rfl)
        try simp only [Act.put, List.setIfInBounds_toArray, List.set_cons_zero, List.set_cons_succ]
        refine wpAnyH_take (i := 6) (v := ?_) rfl (by kernel_rfl) (by kernel_rfl) (by kernel_rfl) (fun _ _ _ h => h) (Or.inl ⟨by rfl, ?_⟩) (by assumption) ?_
        rotate_left
        · intro w hSw; (try dsimp only at hSw); go_simp; (try with_reducible rfl)
        try simp only [Act.put, List.setIfInBounds_toArray, List.set_cons_zero, List.set_cons_succ]
        refine wpAnyH_take (i := 7) (v := ?_) rfl (by kernel_rfl) (by kernel_rfl) (by kernel_rfl) (fun _ _ _ h => h) (Or.inl ⟨by rfl, ?_⟩) (by assumption) ?_
        rotate_left
        · intro w hSw; (try dsimp only at hSw); go_simp; (try with_reducible rfl)
        try simp only [Act.put, List.setIfInBounds_toArray, List.set_cons_zero, List.set_cons_succ]
        refine wpAnyH_take (i := 8) (v := ?_) rfl (by kernel_rfl) (by kernel_rfl) (by kernel_rfl) (fun _ _ _ h => h) (Or.inl ⟨by rfl, ?_⟩) (by assumption) ?_
        rotate_left
        · intro w hSw; (try dsimp only at hSw); go_simp; (try with_reducible rfl)
        try simp only [Act.put, List.setIfInBounds_toArray, List.set_cons_zero, List.set_cons_succ]
        refine wpAnyH_take (i := 9) (v := ?_) rfl (by kernel_rfl) (by kernel_rfl) (by kernel_rfl) (fun _ _ _ h => h) (Or.inl ⟨by rfl, ?_⟩) (by assumption) ?_
        rotate_left
        · intro w hSw; (try dsimp only at hSw); go_simp; (try with_reducible rfl)
        try simp only [Act.put, List.setIfInBounds_toArray, List.set_cons_zero, List.set_cons_succ]
        refine wpAnyH_take (i := 10) (v := ?_) rfl (by kernel_rfl) (by kernel_rfl) (by kernel_rfl) (fun _ _ _ h => h) (Or.inl ⟨by rfl, ?_⟩) (by assumption) ?_
        rotate_left
        · intro w hSw; (try dsimp only at hSw); go_simp; (try with_reducible rfl)
        try simp only [Act.put, List.setIfInBounds_toArray, List.set_cons_zero, List.set_cons_succ]
        refine wpAnyH_take (i := 11) (v := ?_) rfl (by kernel_rfl) (by kernel_rfl) (by kernel_rfl) (fun _ _ _ h => h) (Or.inl ⟨by rfl, ?_⟩) (by assumption) ?_
        rotate_left
        · intro w hSw; (try dsimp only at hSw); go_simp; (try with_reducible rfl)
        try simp only [Act.put, List.setIfInBounds_toArray, List.set_cons_zero, List.set_cons_succ]
        refine wpAnyH_take (i := 12) (v := ?_) rfl (by kernel_rfl) (by kernel_rfl) (by kernel_rfl) (fun _ _ _ h => h) (Or.inl ⟨by rfl, ?_⟩) (by assumption) ?_
        rotate_left
        · intro w hSw; (try dsimp only at hSw); go_simp; (try with_reducible rfl)
        try simp only [Act.put, List.setIfInBounds_toArray, List.set_cons_zero, List.set_cons_succ]
        refine wpAnyH_ready (rs := [4, 13]) (by kernel_rfl) (by simp) ?_
        refine AllReadyH.cons rfl (fun K hK => ?_) ?_
        · go_simp
          refine hK.out _ _ ?_ (fun hHeld => ?_)
          · (try dsimp only); (first | (and_intros <;> assumption) | (and_intros <;> first | (exact (World.cell?_setCell_other _ _ _ _ (by intro hh; have h9 := congrArg Addr.block hh; simp at h9; omega)).trans (by assumption)) | (exact (World.cell?_alloc_past _ _ _ (by first | assumption | omega)).trans (by assumption))) | go_keep)
          clear hK K
          try simp only [Act.put, List.setIfInBounds_toArray, List.set_cons_zero, List.set_cons_succ]
          refine wpAnyH_ready (rs := [13]) (by kernel_rfl) (by simp) ?_
          refine AllReadyH.cons rfl (fun K hK => ?_) ?_
          · go_simp
            refine hK.out _ _ ?_ (fun hHeld => ?_)
            · (try dsimp only); (first | (and_intros <;> assumption) | (and_intros <;> first | (exact (World.cell?_setCell_other _ _ _ _ (by intro hh; have h9 := congrArg Addr.block hh; simp at h9; omega)).trans (by assumption)) | (exact (World.cell?_alloc_past _ _ _ (by first | assumption | omega)).trans (by assumption))) | go_keep)
            clear hK K
            try simp only [Act.put, List.setIfInBounds_toArray, List.set_cons_zero, List.set_cons_succ]
            refine wpAnyH_ready (rs := [14]) (by kernel_rfl) (by simp) ?_
            refine AllReadyH.cons rfl (fun K hK => ?_) ?_
            · refine step_append_keep rfl (.tmp 47) (.tmp 56) 103 rfl w.heap.size 109 i0 (.agg #[.string ⟨#[]⟩, .string ⟨#[]⟩, .int .i64 0]) 3 40 Tryz.underlying103 hi0 hz0 hz1 hz2 rfl (by decide) (.slice ao t co1) t (((fs.take t).map (crF keep)).flatMap FD.cells) (by simp [Act.eval]) (by exact (World.ownsRow.alloc HRow.out _).drew) ⟨W2.heap.size, 0, none⟩ 1 1 [Value.string (strOf F.n), Value.string ((strOf F.d).extract 0 M), Value.int IntKind.i64 ((M : Nat) : Int)] (by omega) (by simp [Act.eval]) rfl (by intro j u hu; rw [Go.WideShapes.add_plain]; refine (World.cell?_alloc_at _ _ _ _ rfl).trans ?_; simpa using hu) (by intro u hu; simp at hu; rcases hu with rfl | rfl | rfl <;> rfl) (by unfold maxLen; omega) (by omega) (by show _ ≤ (World.alloc _ _).heap.size; simp; omega) ?_
              intro v6 w6 ho6 hg6 hloc6
              obtain ⟨va6, vc6, rfl⟩ := shape_of ho6
              have hblk6 : ∀ k, k < W2.heap.size → Value.ownBlock (.slice ao t co1) ≠ some k → w6.heap[k]? = W2.heap[k]? := fun k hk hne => (hg6.block k (by show _ < (World.alloc _ _).heap.size; simp; omega) (Ne.symm hne)).trans (heap_alloc_old W2 _ hk)
              have hs6 : W2.heap.size ≤ w6.heap.size := Nat.le_trans (by show _ ≤ (World.alloc _ _).heap.size; simp) hg6.size
              have hO6 := hblk6 w.heap.size (by omega) HOff.out
              have ks6 : w6.cell? ⟨w.heap.size, 0, none⟩ = some (.slice ao t co1) := (World.cell?_of_block (w := W2) (a := ⟨w.heap.size, 0, none⟩) hO6).trans co2
              have kf6 : w6.frozen? ⟨w.heap.size, 0, none⟩ = false := (World.frozen?_of_block (w := W2) (a := ⟨w.heap.size, 0, none⟩) hO6).trans fo2
              have hF6 := hblk6 wr.heap.size (by omega) HOffF.out
              have y0 : w6.cell? ⟨wr.heap.size, 0, none⟩ = some (Value.string (strOf F.n)) := (World.cell?_of_block (w := W2) (a := ⟨wr.heap.size, 0, none⟩) hF6).trans p0
              have y1 : w6.cell? ⟨wr.heap.size, 1, none⟩ = some (Value.string (strOf F.d)) := (World.cell?_of_block (w := W2) (a := ⟨wr.heap.size, 1, none⟩) hF6).trans p1
              have y2 : w6.cell? ⟨wr.heap.size, 2, none⟩ = some (Value.int IntKind.i64 (F.s : Int)) := (World.cell?_of_block (w := W2) (a := ⟨wr.heap.size, 2, none⟩) hF6).trans p2
              refine hK.out _ _ ?_ (fun hHeld => ?_)
              · (try dsimp only); (first | (and_intros <;> assumption) | (and_intros <;> first | (exact (World.cell?_setCell_other _ _ _ _ (by intro hh; have h9 := congrArg Addr.block hh; simp at h9; omega)).trans (by assumption)) | (exact (World.cell?_alloc_past _ _ _ (by first | assumption | omega)).trans (by assumption))) | go_keep)
              clear hK K
              try simp only [Act.put, List.setIfInBounds_toArray, List.set_cons_zero, List.set_cons_succ]
              refine wpAnyH_ready (rs := [15]) (by kernel_rfl) (by simp) ?_
              refine AllReadyH.cons rfl (fun K hK => ?_) ?_
              · go_simp
                refine hK.out _ _ ?_ (fun hHeld => ?_)
                · (try dsimp only); (first | (and_intros <;> assumption) | (and_intros <;> first | (exact (World.cell?_setCell_other _ _ _ _ (by intro hh; have h9 := congrArg Addr.block hh; simp at h9; omega)).trans (by assumption)) | (exact (World.cell?_alloc_past _ _ _ (by first | assumption | omega)).trans (by assumption))) | go_keep)
                clear hK K
                try simp only [Act.put, List.setIfInBounds_toArray, List.set_cons_zero, List.set_cons_succ]
                refine wpAnyH_ready (rs := [16]) (by kernel_rfl) (by simp) ?_
                refine AllReadyH.cons rfl (fun K hK => ?_) ?_
                · go_simp
                  refine hK.out _ _ ?_ (fun hHeld => ?_)
                  · (try dsimp only); (first | (and_intros <;> assumption) | (and_intros <;> first | (exact (World.cell?_setCell_other _ _ _ _ (by intro hh; have h9 := congrArg Addr.block hh; simp at h9; omega)).trans (by assumption)) | (exact (World.cell?_alloc_past _ _ _ (by first | assumption | omega)).trans (by assumption))) | go_keep)
                  clear hK K
                  try simp only [Act.put, List.setIfInBounds_toArray, List.set_cons_zero, List.set_cons_succ]
                  refine wpAnyH_ready (rs := [17]) (by kernel_rfl) (by simp) ?_
                  refine AllReadyH.cons rfl (fun K hK => ?_) ?_
                  · go_simp
                    refine hK.out _ _ ?_ (fun hHeld => ?_)
                    · (try dsimp only); (first | (and_intros <;> assumption) | (and_intros <;> first | (exact (World.cell?_setCell_other _ _ _ _ (by intro hh; have h9 := congrArg Addr.block hh; simp at h9; omega)).trans (by assumption)) | (exact (World.cell?_alloc_past _ _ _ (by first | assumption | omega)).trans (by assumption))) | go_keep)
                    clear hK K
                    try simp only [Act.put, List.setIfInBounds_toArray, List.set_cons_zero, List.set_cons_succ]
                    refine wpAnyH_done (by kernel_rfl) ?_ _
                    have hlt6 : ∀ g, Value.ownBlock (.slice va6 (t + 1) vc6) = some g → w.heap.size ≤ g := fun g hg => (World.ownsRow.lt ho6 g hg).1
                    have hne6 : Value.ownBlock (.slice va6 (t + 1) vc6) ≠ some w.heap.size := by
                      intro hh
                      obtain ⟨g', d1, d2⟩ := hloc6
                      rw [d1] at hh
                      have hgO : g' = w.heap.size := by simpa using hh
                      subst hgO
                      rcases d2 with d2 | ⟨d2, _⟩
                      · exact HOff.out d2
                      · have d3 : W2.heap.size + 1 ≤ w.heap.size := Nat.le_trans (by show _ ≤ (World.alloc _ _).heap.size; simp) d2
                        omega
                    have HN : Hid (DS 105 109 w.heap.size (w6.setCell ⟨w.heap.size, 0, none⟩ (.slice va6 (t + 1) vc6)) w.heap.size (.slice va6 (t + 1) vc6) ((fs.take (t + 1)).map (crF keep)) (-1)) := by
                      refine DS.store (low' := w.heap.size) (hO6.trans H2.out.st) ?_ (Nat.le_refl _) hne6
                      rw [HT.out, List.length_append, List.flatMap_append, hlen, HE.out]
                      simp only [List.length_cons, List.length_nil, List.flatMap_cons, List.flatMap_nil, List.append_nil]
                      rw [HSt.out] at ho6
                      exact ho6
                    have HBN : Hid (Below w.heap.size w (w6.setCell ⟨w.heap.size, 0, none⟩ (.slice va6 (t + 1) vc6))) := by
                      have hb := HB2.out
                      refine Below.setCell ⟨hg6.os.trans hb.os, hg6.tape.trans hb.tape, hg6.output.trans hb.output, by have := hb.size; omega, fun k hk => (hblk6 k (by have := hb.size; omega) (fun hh => by have := (World.ownsRow.lt HRow.out k hh).1; omega)).trans (hb.block k hk)⟩ (Nat.le_refl _) _
                    clear ho6 hg6 hloc6 hblk6 hO6 hF6 hlt6 hne6
                    go_wp2
                    go_roundw
                    case rel => exact ⟨t + 1, _, by omega, by go_num, HN.out, HBN.out⟩
                    case measure => simp [intOf]; omega
                  exact AllReadyH.nil
                exact AllReadyH.nil
              exact AllReadyH.nil
            exact AllReadyH.nil
          exact AllReadyH.nil
        refine AllReadyH.cons rfl (fun K hK => ?_) ?_
        · go_simp
          refine hK.out _ _ ?_ (fun hHeld => ?_)
          · (try dsimp only); (first | (and_intros <;> assumption) | (and_intros <;> first | (exact (World.cell?_setCell_other _ _ _ _ (by intro hh; have h9 := congrArg Addr.block hh; simp at h9; omega)).trans (by assumption)) | (exact (World.cell?_alloc_past _ _ _ (by first | assumption | omega)).trans (by assumption))) | go_keep)
          clear hK K
          try simp only [Act.put, List.setIfInBounds_toArray, List.set_cons_zero, List.set_cons_succ]
          refine wpAnyH_ready (rs := [4]) (by kernel_rfl) (by simp) ?_
          refine AllReadyH.cons rfl (fun K hK => ?_) ?_
          · go_simp
            refine hK.out _ _ ?_ (fun hHeld => ?_)
            · (try dsimp only); (first | (and_intros <;> assumption) | (and_intros <;> first | (exact (World.cell?_setCell_other _ _ _ _ (by intro hh; have h9 := congrArg Addr.block hh; simp at h9; omega)).trans (by assumption)) | (exact (World.cell?_alloc_past _ _ _ (by first | assumption | omega)).trans (by assumption))) | go_keep)
            clear hK K
            try simp only [Act.put, List.setIfInBounds_toArray, List.set_cons_zero, List.set_cons_succ]
            refine wpAnyH_ready (rs := [14]) (by kernel_rfl) (by simp) ?_
            refine AllReadyH.cons rfl (fun K hK => ?_) ?_
            · refine step_append_keep rfl (.tmp 47) (.tmp 56) 103 rfl w.heap.size 109 i0 (.agg #[.string ⟨#[]⟩, .string ⟨#[]⟩, .int .i64 0]) 3 40 Tryz.underlying103 hi0 hz0 hz1 hz2 rfl (by decide) (.slice ao t co1) t (((fs.take t).map (crF keep)).flatMap FD.cells) (by simp [Act.eval]) (by exact (World.ownsRow.alloc HRow.out _).drew) ⟨W2.heap.size, 0, none⟩ 1 1 [Value.string (strOf F.n), Value.string ((strOf F.d).extract 0 M), Value.int IntKind.i64 ((M : Nat) : Int)] (by omega) (by simp [Act.eval]) rfl (by intro j u hu; rw [Go.WideShapes.add_plain]; refine (World.cell?_alloc_at _ _ _ _ rfl).trans ?_; simpa using hu) (by intro u hu; simp at hu; rcases hu with rfl | rfl | rfl <;> rfl) (by unfold maxLen; omega) (by omega) (by show _ ≤ (World.alloc _ _).heap.size; simp; omega) ?_
              intro v6 w6 ho6 hg6 hloc6
              obtain ⟨va6, vc6, rfl⟩ := shape_of ho6
              have hblk6 : ∀ k, k < W2.heap.size → Value.ownBlock (.slice ao t co1) ≠ some k → w6.heap[k]? = W2.heap[k]? := fun k hk hne => (hg6.block k (by show _ < (World.alloc _ _).heap.size; simp; omega) (Ne.symm hne)).trans (heap_alloc_old W2 _ hk)
              have hs6 : W2.heap.size ≤ w6.heap.size := Nat.le_trans (by show _ ≤ (World.alloc _ _).heap.size; simp) hg6.size
              have hO6 := hblk6 w.heap.size (by omega) HOff.out
              have ks6 : w6.cell? ⟨w.heap.size, 0, none⟩ = some (.slice ao t co1) := (World.cell?_of_block (w := W2) (a := ⟨w.heap.size, 0, none⟩) hO6).trans co2
              have kf6 : w6.frozen? ⟨w.heap.size, 0, none⟩ = false := (World.frozen?_of_block (w := W2) (a := ⟨w.heap.size, 0, none⟩) hO6).trans fo2
              have hF6 := hblk6 wr.heap.size (by omega) HOffF.out
              have y0 : w6.cell? ⟨wr.heap.size, 0, none⟩ = some (Value.string (strOf F.n)) := (World.cell?_of_block (w := W2) (a := ⟨wr.heap.size, 0, none⟩) hF6).trans p0
              have y1 : w6.cell? ⟨wr.heap.size, 1, none⟩ = some (Value.string (strOf F.d)) := (World.cell?_of_block (w := W2) (a := ⟨wr.heap.size, 1, none⟩) hF6).trans p1
              have y2 : w6.cell? ⟨wr.heap.size, 2, none⟩ = some (Value.int IntKind.i64 (F.s : Int)) := (World.cell?_of_block (w := W2) (a := ⟨wr.heap.size, 2, none⟩) hF6).trans p2
              refine hK.out _ _ ?_ (fun hHeld => ?_)
              · (try dsimp only); (first | (and_intros <;> assumption) | (and_intros <;> first | (exact (World.cell?_setCell_other _ _ _ _ (by intro hh; have h9 := congrArg Addr.block hh; simp at h9; omega)).trans (by assumption)) | (exact (World.cell?_alloc_past _ _ _ (by first | assumption | omega)).trans (by assumption))) | go_keep)
              clear hK K
              try simp only [Act.put, List.setIfInBounds_toArray, List.set_cons_zero, List.set_cons_succ]
              refine wpAnyH_ready (rs := [15]) (by kernel_rfl) (by simp) ?_
              refine AllReadyH.cons rfl (fun K hK => ?_) ?_
              · go_simp
                refine hK.out _ _ ?_ (fun hHeld => ?_)
                · (try dsimp only); (first | (and_intros <;> assumption) | (and_intros <;> first | (exact (World.cell?_setCell_other _ _ _ _ (by intro hh; have h9 := congrArg Addr.block hh; simp at h9; omega)).trans (by assumption)) | (exact (World.cell?_alloc_past _ _ _ (by first | assumption | omega)).trans (by assumption))) | go_keep)
                clear hK K
                try simp only [Act.put, List.setIfInBounds_toArray, List.set_cons_zero, List.set_cons_succ]
                refine wpAnyH_ready (rs := [16]) (by kernel_rfl) (by simp) ?_
                refine AllReadyH.cons rfl (fun K hK => ?_) ?_
                · go_simp
                  refine hK.out _ _ ?_ (fun hHeld => ?_)
                  · (try dsimp only); (first | (and_intros <;> assumption) | (and_intros <;> first | (exact (World.cell?_setCell_other _ _ _ _ (by intro hh; have h9 := congrArg Addr.block hh; simp at h9; omega)).trans (by assumption)) | (exact (World.cell?_alloc_past _ _ _ (by first | assumption | omega)).trans (by assumption))) | go_keep)
                  clear hK K
                  try simp only [Act.put, List.setIfInBounds_toArray, List.set_cons_zero, List.set_cons_succ]
                  refine wpAnyH_ready (rs := [17]) (by kernel_rfl) (by simp) ?_
                  refine AllReadyH.cons rfl (fun K hK => ?_) ?_
                  · go_simp
                    refine hK.out _ _ ?_ (fun hHeld => ?_)
                    · (try dsimp only); (first | (and_intros <;> assumption) | (and_intros <;> first | (exact (World.cell?_setCell_other _ _ _ _ (by intro hh; have h9 := congrArg Addr.block hh; simp at h9; omega)).trans (by assumption)) | (exact (World.cell?_alloc_past _ _ _ (by first | assumption | omega)).trans (by assumption))) | go_keep)
                    clear hK K
                    try simp only [Act.put, List.setIfInBounds_toArray, List.set_cons_zero, List.set_cons_succ]
                    refine wpAnyH_done (by kernel_rfl) ?_ _
                    have hlt6 : ∀ g, Value.ownBlock (.slice va6 (t + 1) vc6) = some g → w.heap.size ≤ g := fun g hg => (World.ownsRow.lt ho6 g hg).1
                    have hne6 : Value.ownBlock (.slice va6 (t + 1) vc6) ≠ some w.heap.size := by
                      intro hh
                      obtain ⟨g', d1, d2⟩ := hloc6
                      rw [d1] at hh
                      have hgO : g' = w.heap.size := by simpa using hh
                      subst hgO
                      rcases d2 with d2 | ⟨d2, _⟩
                      · exact HOff.out d2
                      · have d3 : W2.heap.size + 1 ≤ w.heap.size := Nat.le_trans (by show _ ≤ (World.alloc _ _).heap.size; simp) d2
                        omega
                    have HN : Hid (DS 105 109 w.heap.size (w6.setCell ⟨w.heap.size, 0, none⟩ (.slice va6 (t + 1) vc6)) w.heap.size (.slice va6 (t + 1) vc6) ((fs.take (t + 1)).map (crF keep)) (-1)) := by
                      refine DS.store (low' := w.heap.size) (hO6.trans H2.out.st) ?_ (Nat.le_refl _) hne6
                      rw [HT.out, List.length_append, List.flatMap_append, hlen, HE.out]
                      simp only [List.length_cons, List.length_nil, List.flatMap_cons, List.flatMap_nil, List.append_nil]
                      rw [HSt.out] at ho6
                      exact ho6
                    have HBN : Hid (Below w.heap.size w (w6.setCell ⟨w.heap.size, 0, none⟩ (.slice va6 (t + 1) vc6))) := by
                      have hb := HB2.out
                      refine Below.setCell ⟨hg6.os.trans hb.os, hg6.tape.trans hb.tape, hg6.output.trans hb.output, by have := hb.size; omega, fun k hk => (hblk6 k (by have := hb.size; omega) (fun hh => by have := (World.ownsRow.lt HRow.out k hh).1; omega)).trans (hb.block k hk)⟩ (Nat.le_refl _) _
                    clear ho6 hg6 hloc6 hblk6 hO6 hF6 hlt6 hne6
                    go_wp2
                    go_roundw
                    case rel => exact ⟨t + 1, _, by omega, by go_num, HN.out, HBN.out⟩
                    case measure => simp [intOf]; omega
                  exact AllReadyH.nil
                exact AllReadyH.nil
              exact AllReadyH.nil
            exact AllReadyH.nil
          exact AllReadyH.nil
        exact AllReadyH.nil
      · go_wp2_with fail
        have HE : Hid (crF keep F = ⟨F.n, F.d.take (F.d.length), F.d.length⟩) := by unfold Hid; rw [HCF.out, e]
        have HSt : Hid ((strOf F.d).extract 0 (F.d.length) = strOf (F.d.take (F.d.length))) := str_take F.d (F.d.length) (by omega)
        generalize (wr.alloc (Obj.cells #[Value.string (strOf F.n), Value.string (strOf F.d), Value.int IntKind.i64 (F.s : Int)] 109)) = W2 at *
        have q1 : (W2.alloc (Obj.cells #[Value.string (strOf F.n), Value.string ((strOf F.d).extract 0 F.d.length), Value.int IntKind.i64 ((F.d.length : Nat) : Int)] 109)).drew.cell? ⟨w.heap.size, 0, none⟩ = some (.slice ao t co1) := (World.cell?_alloc_past _ _ _ hO2).trans co2
        refine wp_region_held_drew (S := (fun w' => w'.cell? ⟨wr.heap.size, 0, none⟩ = some (Value.string (strOf F.n)) ∧ w'.cell? ⟨wr.heap.size, 1, none⟩ = some (Value.string (strOf F.d)) ∧ w'.cell? ⟨wr.heap.size, 2, none⟩ = some (Value.int IntKind.i64 (F.s : Int)))) (by kernel_rfl) (by (try dsimp only); (first | (and_intros <;> assumption) | (and_intros <;> first | (exact (World.cell?_setCell_other _ _ _ _ (by intro hh; have h9 := congrArg Addr.block hh; simp at h9; omega)).trans (by assumption)) | (exact (World.cell?_alloc_past _ _ _ (by first | assumption | omega)).trans (by assumption))) | go_keep)) (fun hHeld => ?_)
        refine wpAnyH_take (i := 0) (v := ?_) rfl (by kernel_rfl) (by kernel_rfl) (by kernel_rfl) (fun _ _ _ h => h) (Or.inl ⟨by rfl, ?_⟩) (by assumption) ?_
        rotate_left
        · intro w hSw; (try dsimp only at hSw); go_simp; (try with_reducible rfl)
        try simp only [Act.put, List.setIfInBounds_toArray, List.set_cons_zero, List.set_cons_succ]
        refine wpAnyH_take (i := 1) (v := ?_) rfl (by kernel_rfl) (by kernel_rfl) (by kernel_rfl) (fun _ _ _ h => h) (Or.inl ⟨by rfl, ?_⟩) (by assumption) ?_
        rotate_left
        · intro w hSw; (try dsimp only at hSw); go_simp; (try with_reducible rfl)
        try simp only [Act.put, List.setIfInBounds_toArray, List.set_cons_zero, List.set_cons_succ]
        refine wpAnyH_take (i := 2) (v := ?_) rfl (by kernel_rfl) (by kernel_rfl) (by kernel_rfl) (fun _ _ _ h => h) (Or.inl ⟨by rfl, ?_⟩) (by assumption) ?_
        rotate_left
        · intro w hSw; (try dsimp only at hSw); go_simp; (try with_reducible rfl)
        try simp only [Act.put, List.setIfInBounds_toArray, List.set_cons_zero, List.set_cons_succ]
        refine wpAnyH_take (i := 3) (v := ?_) rfl (by kernel_rfl) (by kernel_rfl) (by kernel_rfl) (fun _ _ _ h => h) (Or.inl ⟨by rfl, ?_⟩) (by assumption) ?_
        rotate_left
        · intro w hSw; (try dsimp only at hSw); go_simp; (try with_reducible rfl)
        try simp only [Act.put, List.setIfInBounds_toArray, List.set_cons_zero, List.set_cons_succ]
        refine wpAnyH_take (i := 5) (v := ?_) rfl (by kernel_rfl) (by kernel_rfl) (by kernel_rfl) (fun _ _ _ h => h) (Or.inl ⟨by rfl, ?_⟩) (by assumption) ?_
        rotate_left
        · intro w hSw; (try dsimp only at hSw); go_simp; (try with_reducible rfl)
        try simp only [Act.put, List.setIfInBounds_toArray, List.set_cons_zero, List.set_cons_succ]
        refine wpAnyH_take (i := 6) (v := ?_) rfl (by kernel_rfl) (by kernel_rfl) (by kernel_rfl) (fun _ _ _ h => h) (Or.inl ⟨by rfl, ?_⟩) (by assumption) ?_
        rotate_left
        · intro w hSw; (try dsimp only at hSw); go_simp; (try with_reducible rfl)
        try simp only [Act.put, List.setIfInBounds_toArray, List.set_cons_zero, List.set_cons_succ]
        refine wpAnyH_take (i := 7) (v := ?_) rfl (by kernel_rfl) (by kernel_rfl) (by kernel_rfl) (fun _ _ _ h => h) (Or.inl ⟨by rfl, ?_⟩) (by assumption) ?_
        rotate_left
        · intro w hSw; (try dsimp only at hSw); go_simp; (try with_reducible rfl)
        try simp only [Act.put, List.setIfInBounds_toArray, List.set_cons_zero, List.set_cons_succ]
        refine wpAnyH_take (i := 8) (v := ?_) rfl (by kernel_rfl) (by kernel_rfl) (by kernel_rfl) (fun _ _ _ h => h) (Or.inl ⟨by rfl, ?_⟩) (by assumption) ?_
        rotate_left
        · intro w hSw; (try dsimp only at hSw); go_simp; (try with_reducible rfl)
        try simp only [Act.put, List.setIfInBounds_toArray, List.set_cons_zero, List.set_cons_succ]
        refine wpAnyH_take (i := 9) (v := ?_) rfl (by kernel_rfl) (by kernel_rfl) (by kernel_rfl) (fun _ _ _ h => h) (Or.inl ⟨by rfl, ?_⟩) (by assumption) ?_
        rotate_left
        · intro w hSw; (try dsimp only at hSw); go_simp; (try with_reducible rfl)
        try simp only [Act.put, List.setIfInBounds_toArray, List.set_cons_zero, List.set_cons_succ]
        refine wpAnyH_take (i := 10) (v := ?_) rfl (by kernel_rfl) (by kernel_rfl) (by kernel_rfl) (fun _ _ _ h => h) (Or.inl ⟨by rfl, ?_⟩) (by assumption) ?_
        rotate_left
        · intro w hSw; (try dsimp only at hSw); go_simp; (try with_reducible rfl)
        try simp only [Act.put, List.setIfInBounds_toArray, List.set_cons_zero, List.set_cons_succ]
        refine wpAnyH_take (i := 11) (v := ?_) rfl (by kernel_rfl) (by kernel_rfl) (by kernel_rfl) (fun _ _ _ h => h) (Or.inl ⟨by rfl, ?_⟩) (by assumption) ?_
        rotate_left
        · intro w hSw; (try dsimp only at hSw); go_simp; (try with_reducible rfl)
        try simp only [Act.put, List.setIfInBounds_toArray, List.set_cons_zero, List.set_cons_succ]
        refine wpAnyH_take (i := 12) (v := ?_) rfl (by kernel_rfl) (by kernel_rfl) (by kernel_rfl) (fun _ _ _ h => h) (Or.inl ⟨by rfl, ?_⟩) (by assumption) ?_
        rotate_left
        · intro w hSw; (try dsimp only at hSw); go_simp; (try with_reducible rfl)
        try simp only [Act.put, List.setIfInBounds_toArray, List.set_cons_zero, List.set_cons_succ]
        refine wpAnyH_ready (rs := [4, 13]) (by kernel_rfl) (by simp) ?_
        refine AllReadyH.cons rfl (fun K hK => ?_) ?_
        · go_simp
          refine hK.out _ _ ?_ (fun hHeld => ?_)
          · (try dsimp only); (first | (and_intros <;> assumption) | (and_intros <;> first | (exact (World.cell?_setCell_other _ _ _ _ (by intro hh; have h9 := congrArg Addr.block hh; simp at h9; omega)).trans (by assumption)) | (exact (World.cell?_alloc_past _ _ _ (by first | assumption | omega)).trans (by assumption))) | go_keep)
          clear hK K
          try simp only [Act.put, List.setIfInBounds_toArray, List.set_cons_zero, List.set_cons_succ]
          refine wpAnyH_ready (rs := [13]) (by kernel_rfl) (by simp) ?_
          refine AllReadyH.cons rfl (fun K hK => ?_) ?_
          · go_simp
            refine hK.out _ _ ?_ (fun hHeld => ?_)
            · (try dsimp only); (first | (and_intros <;> assumption) | (and_intros <;> first | (exact (World.cell?_setCell_other _ _ _ _ (by intro hh; have h9 := congrArg Addr.block hh; simp at h9; omega)).trans (by assumption)) | (exact (World.cell?_alloc_past _ _ _ (by first | assumption | omega)).trans (by assumption))) | go_keep)
            clear hK K
            try simp only [Act.put, List.setIfInBounds_toArray, List.set_cons_zero, List.set_cons_succ]
            refine wpAnyH_ready (rs := [14]) (by kernel_rfl) (by simp) ?_
            refine AllReadyH.cons rfl (fun K hK => ?_) ?_
            · refine step_append_keep rfl (.tmp 47) (.tmp 56) 103 rfl w.heap.size 109 i0 (.agg #[.string ⟨#[]⟩, .string ⟨#[]⟩, .int .i64 0]) 3 40 Tryz.underlying103 hi0 hz0 hz1 hz2 rfl (by decide) (.slice ao t co1) t (((fs.take t).map (crF keep)).flatMap FD.cells) (by simp [Act.eval]) (by exact (World.ownsRow.alloc HRow.out _).drew) ⟨W2.heap.size, 0, none⟩ 1 1 [Value.string (strOf F.n), Value.string ((strOf F.d).extract 0 F.d.length), Value.int IntKind.i64 ((F.d.length : Nat) : Int)] (by omega) (by simp [Act.eval]) rfl (by intro j u hu; rw [Go.WideShapes.add_plain]; refine (World.cell?_alloc_at _ _ _ _ rfl).trans ?_; simpa using hu) (by intro u hu; simp at hu; rcases hu with rfl | rfl | rfl <;> rfl) (by unfold maxLen; omega) (by omega) (by show _ ≤ (World.alloc _ _).heap.size; simp; omega) ?_
              intro v6 w6 ho6 hg6 hloc6
              obtain ⟨va6, vc6, rfl⟩ := shape_of ho6
              have hblk6 : ∀ k, k < W2.heap.size → Value.ownBlock (.slice ao t co1) ≠ some k → w6.heap[k]? = W2.heap[k]? := fun k hk hne => (hg6.block k (by show _ < (World.alloc _ _).heap.size; simp; omega) (Ne.symm hne)).trans (heap_alloc_old W2 _ hk)
              have hs6 : W2.heap.size ≤ w6.heap.size := Nat.le_trans (by show _ ≤ (World.alloc _ _).heap.size; simp) hg6.size
              have hO6 := hblk6 w.heap.size (by omega) HOff.out
              have ks6 : w6.cell? ⟨w.heap.size, 0, none⟩ = some (.slice ao t co1) := (World.cell?_of_block (w := W2) (a := ⟨w.heap.size, 0, none⟩) hO6).trans co2
              have kf6 : w6.frozen? ⟨w.heap.size, 0, none⟩ = false := (World.frozen?_of_block (w := W2) (a := ⟨w.heap.size, 0, none⟩) hO6).trans fo2
              have hF6 := hblk6 wr.heap.size (by omega) HOffF.out
              have y0 : w6.cell? ⟨wr.heap.size, 0, none⟩ = some (Value.string (strOf F.n)) := (World.cell?_of_block (w := W2) (a := ⟨wr.heap.size, 0, none⟩) hF6).trans p0
              have y1 : w6.cell? ⟨wr.heap.size, 1, none⟩ = some (Value.string (strOf F.d)) := (World.cell?_of_block (w := W2) (a := ⟨wr.heap.size, 1, none⟩) hF6).trans p1
              have y2 : w6.cell? ⟨wr.heap.size, 2, none⟩ = some (Value.int IntKind.i64 (F.s : Int)) := (World.cell?_of_block (w := W2) (a := ⟨wr.heap.size, 2, none⟩) hF6).trans p2
              refine hK.out _ _ ?_ (fun hHeld => ?_)
              · (try dsimp only); (first | (and_intros <;> assumption) | (and_intros <;> first | (exact (World.cell?_setCell_other _ _ _ _ (by intro hh; have h9 := congrArg Addr.block hh; simp at h9; omega)).trans (by assumption)) | (exact (World.cell?_alloc_past _ _ _ (by first | assumption | omega)).trans (by assumption))) | go_keep)
              clear hK K
              try simp only [Act.put, List.setIfInBounds_toArray, List.set_cons_zero, List.set_cons_succ]
              refine wpAnyH_ready (rs := [15]) (by kernel_rfl) (by simp) ?_
              refine AllReadyH.cons rfl (fun K hK => ?_) ?_
              · go_simp
                refine hK.out _ _ ?_ (fun hHeld => ?_)
                · (try dsimp only); (first | (and_intros <;> assumption) | (and_intros <;> first | (exact (World.cell?_setCell_other _ _ _ _ (by intro hh; have h9 := congrArg Addr.block hh; simp at h9; omega)).trans (by assumption)) | (exact (World.cell?_alloc_past _ _ _ (by first | assumption | omega)).trans (by assumption))) | go_keep)
                clear hK K
                try simp only [Act.put, List.setIfInBounds_toArray, List.set_cons_zero, List.set_cons_succ]
                refine wpAnyH_ready (rs := [16]) (by kernel_rfl) (by simp) ?_
                refine AllReadyH.cons rfl (fun K hK => ?_) ?_
                · go_simp
                  refine hK.out _ _ ?_ (fun hHeld => ?_)
                  · (try dsimp only); (first | (and_intros <;> assumption) | (and_intros <;> first | (exact (World.cell?_setCell_other _ _ _ _ (by intro hh; have h9 := congrArg Addr.block hh; simp at h9; omega)).trans (by assumption)) | (exact (World.cell?_alloc_past _ _ _ (by first | assumption | omega)).trans (by assumption))) | go_keep)
                  clear hK K
                  try simp only [Act.put, List.setIfInBounds_toArray, List.set_cons_zero, List.set_cons_succ]
                  refine wpAnyH_ready (rs := [17]) (by kernel_rfl) (by simp) ?_
                  refine AllReadyH.cons rfl (fun K hK => ?_) ?_
                  · go_simp
                    refine hK.out _ _ ?_ (fun hHeld => ?_)
                    · (try dsimp only); (first | (and_intros <;> assumption) | (and_intros <;> first | (exact (World.cell?_setCell_other _ _ _ _ (by intro hh; have h9 := congrArg Addr.block hh; simp at h9; omega)).trans (by assumption)) | (exact (World.cell?_alloc_past _ _ _ (by first | assumption | omega)).trans (by assumption))) | go_keep)
                    clear hK K
                    try simp only [Act.put, List.setIfInBounds_toArray, List.set_cons_zero, List.set_cons_succ]
                    refine wpAnyH_done (by kernel_rfl) ?_ _
                    have hlt6 : ∀ g, Value.ownBlock (.slice va6 (t + 1) vc6) = some g → w.heap.size ≤ g := fun g hg => (World.ownsRow.lt ho6 g hg).1
                    have hne6 : Value.ownBlock (.slice va6 (t + 1) vc6) ≠ some w.heap.size := by
                      intro hh
                      obtain ⟨g', d1, d2⟩ := hloc6
                      rw [d1] at hh
                      have hgO : g' = w.heap.size := by simpa using hh
                      subst hgO
                      rcases d2 with d2 | ⟨d2, _⟩
                      · exact HOff.out d2
                      · have d3 : W2.heap.size + 1 ≤ w.heap.size := Nat.le_trans (by show _ ≤ (World.alloc _ _).heap.size; simp) d2
                        omega
                    have HN : Hid (DS 105 109 w.heap.size (w6.setCell ⟨w.heap.size, 0, none⟩ (.slice va6 (t + 1) vc6)) w.heap.size (.slice va6 (t + 1) vc6) ((fs.take (t + 1)).map (crF keep)) (-1)) := by
                      refine DS.store (low' := w.heap.size) (hO6.trans H2.out.st) ?_ (Nat.le_refl _) hne6
                      rw [HT.out, List.length_append, List.flatMap_append, hlen, HE.out]
                      simp only [List.length_cons, List.length_nil, List.flatMap_cons, List.flatMap_nil, List.append_nil]
                      rw [HSt.out] at ho6
                      exact ho6
                    have HBN : Hid (Below w.heap.size w (w6.setCell ⟨w.heap.size, 0, none⟩ (.slice va6 (t + 1) vc6))) := by
                      have hb := HB2.out
                      refine Below.setCell ⟨hg6.os.trans hb.os, hg6.tape.trans hb.tape, hg6.output.trans hb.output, by have := hb.size; omega, fun k hk => (hblk6 k (by have := hb.size; omega) (fun hh => by have := (World.ownsRow.lt HRow.out k hh).1; omega)).trans (hb.block k hk)⟩ (Nat.le_refl _) _
                    clear ho6 hg6 hloc6 hblk6 hO6 hF6 hlt6 hne6
                    go_wp2
                    go_roundw
                    case rel => exact ⟨t + 1, _, by omega, by go_num, HN.out, HBN.out⟩
                    case measure => simp [intOf]; omega
                  exact AllReadyH.nil
                exact AllReadyH.nil
              exact AllReadyH.nil
            exact AllReadyH.nil
          exact AllReadyH.nil
        refine AllReadyH.cons rfl (fun K hK => ?_) ?_
        · go_simp
          refine hK.out _ _ ?_ (fun hHeld => ?_)
          · (try dsimp only); (first | (and_intros <;> assumption) | (and_intros <;> first | (exact (World.cell?_setCell_other _ _ _ _ (by intro hh; have h9 := congrArg Addr.block hh; simp at h9; omega)).trans (by assumption)) | (exact (World.cell?_alloc_past _ _ _ (by first | assumption | omega)).trans (by assumption))) | go_keep)
          clear hK K
          try simp only [Act.put, List.setIfInBounds_toArray, List.set_cons_zero, List.set_cons_succ]
          refine wpAnyH_ready (rs := [4]) (by kernel_rfl) (by simp) ?_
          refine AllReadyH.cons rfl (fun K hK => ?_) ?_
          · go_simp
            refine hK.out _ _ ?_ (fun hHeld => ?_)
            · (try dsimp only); (first | (and_intros <;> assumption) | (and_intros <;> first | (exact (World.cell?_setCell_other _ _ _ _ (by intro hh; have h9 := congrArg Addr.block hh; simp at h9; omega)).trans (by assumption)) | (exact (World.cell?_alloc_past _ _ _ (by first | assumption | omega)).trans (by assumption))) | go_keep)
            clear hK K
            try simp only [Act.put, List.setIfInBounds_toArray, List.set_cons_zero, List.set_cons_succ]
            refine wpAnyH_ready (rs := [14]) (by kernel_rfl) (by simp) ?_
            refine AllReadyH.cons rfl (fun K hK => ?_) ?_
            · refine step_append_keep rfl (.tmp 47) (.tmp 56) 103 rfl w.heap.size 109 i0 (.agg #[.string ⟨#[]⟩, .string ⟨#[]⟩, .int .i64 0]) 3 40 Tryz.underlying103 hi0 hz0 hz1 hz2 rfl (by decide) (.slice ao t co1) t (((fs.take t).map (crF keep)).flatMap FD.cells) (by simp [Act.eval]) (by exact (World.ownsRow.alloc HRow.out _).drew) ⟨W2.heap.size, 0, none⟩ 1 1 [Value.string (strOf F.n), Value.string ((strOf F.d).extract 0 F.d.length), Value.int IntKind.i64 ((F.d.length : Nat) : Int)] (by omega) (by simp [Act.eval]) rfl (by intro j u hu; rw [Go.WideShapes.add_plain]; refine (World.cell?_alloc_at _ _ _ _ rfl).trans ?_; simpa using hu) (by intro u hu; simp at hu; rcases hu with rfl | rfl | rfl <;> rfl) (by unfold maxLen; omega) (by omega) (by show _ ≤ (World.alloc _ _).heap.size; simp; omega) ?_
              intro v6 w6 ho6 hg6 hloc6
              obtain ⟨va6, vc6, rfl⟩ := shape_of ho6
              have hblk6 : ∀ k, k < W2.heap.size → Value.ownBlock (.slice ao t co1) ≠ some k → w6.heap[k]? = W2.heap[k]? := fun k hk hne => (hg6.block k (by show _ < (World.alloc _ _).heap.size; simp; omega) (Ne.symm hne)).trans (heap_alloc_old W2 _ hk)
              have hs6 : W2.heap.size ≤ w6.heap.size := Nat.le_trans (by show _ ≤ (World.alloc _ _).heap.size; simp) hg6.size
              have hO6 := hblk6 w.heap.size (by omega) HOff.out
              have ks6 : w6.cell? ⟨w.heap.size, 0, none⟩ = some (.slice ao t co1) := (World.cell?_of_block (w := W2) (a := ⟨w.heap.size, 0, none⟩) hO6).trans co2
              have kf6 : w6.frozen? ⟨w.heap.size, 0, none⟩ = false := (World.frozen?_of_block (w := W2) (a := ⟨w.heap.size, 0, none⟩) hO6).trans fo2
              have hF6 := hblk6 wr.heap.size (by omega) HOffF.out
              have y0 : w6.cell? ⟨wr.heap.size, 0, none⟩ = some (Value.string (strOf F.n)) := (World.cell?_of_block (w := W2) (a := ⟨wr.heap.size, 0, none⟩) hF6).trans p0
              have y1 : w6.cell? ⟨wr.heap.size, 1, none⟩ = some (Value.string (strOf F.d)) := (World.cell?_of_block (w := W2) (a := ⟨wr.heap.size, 1, none⟩) hF6).trans p1
              have y2 : w6.cell? ⟨wr.heap.size, 2, none⟩ = some (Value.int IntKind.i64 (F.s : Int)) := (World.cell?_of_block (w := W2) (a := ⟨wr.heap.size, 2, none⟩) hF6).trans p2
              refine hK.out _ _ ?_ (fun hHeld => ?_)
              · (try dsimp only); (first | (and_intros <;> assumption) | (and_intros <;> first | (exact (World.cell?_setCell_other _ _ _ _ (by intro hh; have h9 := congrArg Addr.block hh; simp at h9; omega)).trans (by assumption)) | (exact (World.cell?_alloc_past _ _ _ (by first | assumption | omega)).trans (by assumption))) | go_keep)
              clear hK K
              try simp only [Act.put, List.setIfInBounds_toArray, List.set_cons_zero, List.set_cons_succ]
              refine wpAnyH_ready (rs := [15]) (by kernel_rfl) (by simp) ?_
              refine AllReadyH.cons rfl (fun K hK => ?_) ?_
              · go_simp
                refine hK.out _ _ ?_ (fun hHeld => ?_)
                · (try dsimp only); (first | (and_intros <;> assumption) | (and_intros <;> first | (exact (World.cell?_setCell_other _ _ _ _ (by intro hh; have h9 := congrArg Addr.block hh; simp at h9; omega)).trans (by assumption)) | (exact (World.cell?_alloc_past _ _ _ (by first | assumption | omega)).trans (by assumption))) | go_keep)
                clear hK K
                try simp only [Act.put, List.setIfInBounds_toArray, List.set_cons_zero, List.set_cons_succ]
                refine wpAnyH_ready (rs := [16]) (by kernel_rfl) (by simp) ?_
                refine AllReadyH.cons rfl (fun K hK => ?_) ?_
                · go_simp
                  refine hK.out _ _ ?_ (fun hHeld => ?_)
                  · (try dsimp only); (first | (and_intros <;> assumption) | (and_intros <;> first | (exact (World.cell?_setCell_other _ _ _ _ (by intro hh; have h9 := congrArg Addr.block hh; simp at h9; omega)).trans (by assumption)) | (exact (World.cell?_alloc_past _ _ _ (by first | assumption | omega)).trans (by assumption))) | go_keep)
                  clear hK K
                  try simp only [Act.put, List.setIfInBounds_toArray, List.set_cons_zero, List.set_cons_succ]
                  refine wpAnyH_ready (rs := [17]) (by kernel_rfl) (by simp) ?_
                  refine AllReadyH.cons rfl (fun K hK => ?_) ?_
                  · go_simp
                    refine hK.out _ _ ?_ (fun hHeld => ?_)
                    · (try dsimp only); (first | (and_intros <;> assumption) | (and_intros <;> first | (exact (World.cell?_setCell_other _ _ _ _ (by intro hh; have h9 := congrArg Addr.block hh; simp at h9; omega)).trans (by assumption)) | (exact (World.cell?_alloc_past _ _ _ (by first | assumption | omega)).trans (by assumption))) | go_keep)
                    clear hK K
                    try simp only [Act.put, List.setIfInBounds_toArray, List.set_cons_zero, List.set_cons_succ]
                    refine wpAnyH_done (by kernel_rfl) ?_ _
                    have hlt6 : ∀ g, Value.ownBlock (.slice va6 (t + 1) vc6) = some g → w.heap.size ≤ g := fun g hg => (World.ownsRow.lt ho6 g hg).1
                    have hne6 : Value.ownBlock (.slice va6 (t + 1) vc6) ≠ some w.heap.size := by
                      intro hh
                      obtain ⟨g', d1, d2⟩ := hloc6
                      rw [d1] at hh
                      have hgO : g' = w.heap.size := by simpa using hh
                      subst hgO
                      rcases d2 with d2 | ⟨d2, _⟩
                      · exact HOff.out d2
                      · have d3 : W2.heap.size + 1 ≤ w.heap.size := Nat.le_trans (by show _ ≤ (World.alloc _ _).heap.size; simp) d2
                        omega
                    have HN : Hid (DS 105 109 w.heap.size (w6.setCell ⟨w.heap.size, 0, none⟩ (.slice va6 (t + 1) vc6)) w.heap.size (.slice va6 (t + 1) vc6) ((fs.take (t + 1)).map (crF keep)) (-1)) := by
                      refine DS.store (low' := w.heap.size) (hO6.trans H2.out.st) ?_ (Nat.le_refl _) hne6
                      rw [HT.out, List.length_append, List.flatMap_append, hlen, HE.out]
                      simp only [List.length_cons, List.length_nil, List.flatMap_cons, List.flatMap_nil, List.append_nil]
                      rw [HSt.out] at ho6
                      exact ho6
                    have HBN : Hid (Below w.heap.size w (w6.setCell ⟨w.heap.size, 0, none⟩ (.slice va6 (t + 1) vc6))) := by
                      have hb := HB2.out
                      refine Below.setCell ⟨hg6.os.trans hb.os, hg6.tape.trans hb.tape, hg6.output.trans hb.output, by have := hb.size; omega, fun k hk => (hblk6 k (by have := hb.size; omega) (fun hh => by have := (World.ownsRow.lt HRow.out k hh).1; omega)).trans (hb.block k hk)⟩ (Nat.le_refl _) _
                    clear ho6 hg6 hloc6 hblk6 hO6 hF6 hlt6 hne6
                    go_wp2
                    go_roundw
                    case rel => exact ⟨t + 1, _, by omega, by go_num, HN.out, HBN.out⟩
                    case measure => simp [intOf]; omega
                  exact AllReadyH.nil
                exact AllReadyH.nil
              exact AllReadyH.nil
            exact AllReadyH.nil
          exact AllReadyH.nil
        exact AllReadyH.nil
    · obtain rfl : t = fs.length := by omega
      have HFin : Hid (∃ v', DS 105 109 w.heap.size wr w.heap.size v' (fs.map (crF keep)) (-1)) := by refine ⟨vo, ?_⟩; rw [List.take_length] at hd; exact hd
      have HBr : Hid _ := hbr
      clear hd
      go_wp2
      go_ret
      exact ⟨rfl, HFin.out, HBr.out⟩
end Go.Proofs.YtamdkmjdpdkoeaaGreatDoor
