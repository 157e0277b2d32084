import Derived.Test.YtdcainmlcpafbaaGreatDoorG13
set_option linter.unusedSimpArgs false
set_option linter.unusedVariables false
namespace Go.Proofs.YtdcainmlcpafbaaGreatDoor
open Go.RowKit

/-- What is read out of bytes. -/
def DecIs (bs : List UInt8) (k f n1 n2 n3 n4 n5 n6 n7 n8 : Int) (zs : List Int) (ec : Int) : Prop :=
  (dOk bs = true ∧ k = gKind bs ∧ f = gFrom bs ∧ gNums bs = [0, n1, n2, n3, n4, n5, n6, n7, n8, (zs.length : Int)] ∧ zs = (gEnd bs).vals ∧ ec = 0) ∨
  (dOk bs = false ∧ k = 0 ∧ f = 0 ∧ n1 = 0 ∧ n2 = 0 ∧ n3 = 0 ∧ n4 = 0 ∧ n5 = 0 ∧ n6 = 0 ∧ n7 = 0 ∧ n8 = 0 ∧ zs = [] ∧ ec = 2)
theorem DecIs.len {bs : List UInt8} {k f n1 n2 n3 n4 n5 n6 n7 n8 : Int} {zs : List Int} {ec : Int} (h : DecIs bs k f n1 n2 n3 n4 n5 n6 n7 n8 zs ec) : zs.length ≤ 4 := by
  rcases h with ⟨h1, h2, h3, h4, h5, _⟩ | ⟨_, _, _, _, _, _, _, _, _, _, _, rfl, _⟩
  · have hg := (gIs_list h1).1
    unfold gIs at hg
    rw [h4] at hg
    exact (isMsg_len hg).2.2.2.2
  · simp
theorem kDecode_one (bs : List UInt8) (v : Value) (w : World) (ht : Tabs w) (hr : restAt w w.heap.size v bs) :
    Calls Tryz.prog 103 #[v] w fun e w' => ∃ k f n1 n2 n3 n4 n5 n6 n7 n8 la lc zs ec, e = .returned (.tuple #[.agg #[Value.int IntKind.i64 k, Value.int IntKind.i64 f, Value.int IntKind.i64 n1, Value.int IntKind.i64 n2, Value.int IntKind.i64 n3, Value.int IntKind.i64 n4, Value.int IntKind.i64 n5, Value.int IntKind.i64 n6, Value.int IntKind.i64 n7, Value.int IntKind.i64 n8, Value.slice la zs.length lc], .int .i64 ec]) ∧ DecIs bs k f n1 n2 n3 n4 n5 n6 n7 n8 zs ec ∧ OwnI w' w.heap.size (.slice la zs.length lc) zs ∧ Below w.heap.size w w' := by
  refine (kDecode_any bs v w ht hr).mono ?_
  rintro e w' ⟨hb, ⟨hd, n1, n2, n3, n4, n5, n6, n7, n8, l, rfl, hn, ho⟩ | ⟨hd, rfl⟩⟩
  · obtain ⟨la, lc, rfl⟩ := shape_of ho
    exact ⟨_, _, n1, n2, n3, n4, n5, n6, n7, n8, la, lc, _, 0, rfl, .inl ⟨hd, rfl, rfl, hn, rfl, rfl⟩, ho, hb⟩
  · exact ⟨0, 0, 0, 0, 0, 0, 0, 0, 0, 0, none, 0, [], 2, rfl, .inr ⟨hd, rfl, rfl, rfl, rfl, rfl, rfl, rfl, rfl, rfl, rfl, rfl, rfl⟩, World.ownsRow_nil _ _ _ _, hb⟩
theorem rDecode_one (S : ByteArray) (w : World) (hlen : S.size ≤ 140737488355328) (k f n1 n2 n3 n4 n5 n6 n7 n8 : Int) (zs : List Int) (ec : Int) (hD : DecIs S.data.toList k f n1 n2 n3 n4 n5 n6 n7 n8 zs ec) :
    Calls Tryz.prog 104 #[.string S] w fun e w' => ∃ ra rc, e = .returned (.tuple #[.agg #[Value.int IntKind.i64 k, Value.int IntKind.i64 f, Value.int IntKind.i64 n1, Value.int IntKind.i64 n2, Value.int IntKind.i64 n3, Value.int IntKind.i64 n4, Value.int IntKind.i64 n5, Value.int IntKind.i64 n6, Value.int IntKind.i64 n7, Value.int IntKind.i64 n8, Value.slice ra zs.length rc], .int .i64 ec]) ∧ OwnI w' w.heap.size (.slice ra zs.length rc) zs ∧ Below w.heap.size w w' := by
  have h := rdecode_any S.data.toList w (by rw [Array.length_toList]; exact hlen)
  rw [strOf_data] at h
  refine h.mono ?_
  rintro e w' ⟨hb, hh⟩
  rcases hD with ⟨h1, rfl, rfl, h4, rfl, rfl⟩ | ⟨h1, rfl, rfl, rfl, rfl, rfl, rfl, rfl, rfl, rfl, rfl, rfl, rfl⟩
  · rcases hh with ⟨_, m1, m2, m3, m4, m5, m6, m7, m8, l, rfl, hn, ho⟩ | ⟨hx, _⟩
    · rw [h4] at hn
      simp only [List.cons.injEq, true_and, and_true] at hn
      obtain ⟨rfl, rfl, rfl, rfl, rfl, rfl, rfl, rfl⟩ := hn
      obtain ⟨la, lc, rfl⟩ := shape_of ho
      exact ⟨la, lc, rfl, ho, hb⟩
    · rw [h1] at hx; exact absurd hx (by decide)
  · rcases hh with ⟨hx, _⟩ | ⟨_, rfl⟩
    · rw [h1] at hx; exact absurd hx (by decide)
    · exact ⟨none, 0, rfl, World.ownsRow_nil _ _ _ _, hb⟩
theorem same_self (zs : List Int) (k f n1 n2 n3 n4 n5 n6 n7 n8 : Int) : sameB zs zs k f n1 n2 n3 n4 n5 n6 n7 n8 k f n1 n2 n3 n4 n5 n6 n7 n8 = true := by
  simp [sameB, fieldsB]
set_option maxHeartbeats 8000000 in
set_option maxRecDepth 20000 in
theorem plain2 (base R n : Nat) (A B C : Int) (S : ByteArray) (w : World) (hI : InvM base R n w) (hn : n < 4194304) (hS : S.size ≤ 2000000) :
    Calls Tryz.prog 64 #[.pointer (some ⟨R, 0, none⟩), .agg #[.int .i64 2, .int .i64 A, .int .i64 B, .int .i64 C, .string S]] w fun e w' => e = .returned (.bool true) ∧ InvM base R (n + 1) w' ∧ Save base R w w' := by
  obtain ⟨ao, c, ms, vb, vi, eb, ei, hcell, hgoods, hok, hml, hbooks, hcount⟩ := hI.here
  have hRb := hbooks.lt
  have hble := hbooks.le
  have hR : R < w.heap.size := by omega
  have hb0 := (Below.refl w.heap.size w).alloc (Nat.le_refl _) (Obj.cells #[Value.int IntKind.i64 2, Value.int IntKind.i64 A, Value.int IntKind.i64 B, Value.int IntKind.i64 C, Value.string S] 93)
  have hc0 : ∀ i, (w.alloc (Obj.cells #[Value.int IntKind.i64 2, Value.int IntKind.i64 A, Value.int IntKind.i64 B, Value.int IntKind.i64 C, Value.string S] 93)).cell? ⟨w.heap.size, i, none⟩ = #[Value.int IntKind.i64 2, Value.int IntKind.i64 A, Value.int IntKind.i64 B, Value.int IntKind.i64 C, Value.string S][i]? := fun i => World.cell?_alloc_at _ _ _ _ rfl
  have hs0 : (w.alloc (Obj.cells #[Value.int IntKind.i64 2, Value.int IntKind.i64 A, Value.int IntKind.i64 B, Value.int IntKind.i64 C, Value.string S] 93)).heap.size = w.heap.size + 1 := by simp
  have HI : Hid _ := hI
  have HG : Hid (GoodsAt base R w ao ms) := hgoods
  have HB : Hid (Books (fun _ => False) w base R vb vi eb ei) := hbooks
  have HOK : Hid _ := hok
  have HCell : Hid _ := hcell
  clear hI hgoods hbooks hok hcell
  go_enter Tryz.func64, Tryz.ntmps64
  go_wp2_with fail
  generalize (w.alloc (Obj.cells #[Value.int IntKind.i64 2, Value.int IntKind.i64 A, Value.int IntKind.i64 B, Value.int IntKind.i64 C, Value.string S] 93)) = W0 at *
  refine (lentBytes_any S W0 hS).mono ?_
  rintro r w1 ⟨rfl, ho1, hb1⟩
  rw [hs0] at ho1 hb1 ⊢
  have hL1 := (ho1.lt (w.heap.size + 1) rfl).2
  have hxl : (Lib.byteCells S.data.toList).length = S.size := by rw [Lib.byteCells_length]; exact Array.length_toList
  have hrest : restAt w1 w1.heap.size (.slice (some ⟨w.heap.size + 1, 0, none⟩) S.size (S.size + 3)) S.data.toList := by
    refine ⟨some ⟨w.heap.size + 1, 0, none⟩, S.size + 3, by rw [Array.length_toList]; rfl, by rw [Array.length_toList]; show S.size ≤ _; omega, by unfold maxLen; omega, .inr ⟨w.heap.size + 1, 0, rfl, hL1, fun j hj => ?_⟩⟩
    have hj' : j < S.size := by simpa using hj
    rw [Nat.zero_add, ho1.cellAt j (by omega), lent_low (by rw [hxl]; exact hj')]
    simp [Lib.byteCells, hj']
  have hbw1 : Below w.heap.size w w1 := hb0.trans (hb1.mono (by omega))
  have bc1 : w1.cell? ⟨w.heap.size, 4, none⟩ = some (.string S) := (hb1.cell (by show w.heap.size < w.heap.size + 1; omega)).trans (hc0 4)
  have ht1 : Tabs w1 := HI.out.tabs.below hbw1 (by have := HI.out.two; omega)
  have HO1 : Hid (w1.ownsRow (w.heap.size + 1) 5 1 (.slice (some ⟨w.heap.size + 1, 0, none⟩) (S.size + 3) (S.size + 3)) (S.size + 3) (lent (Lib.byteCells S.data.toList) (.int .u8 77))) := ho1
  have HR1 : Hid (restAt w1 w1.heap.size (.slice (some ⟨w.heap.size + 1, 0, none⟩) S.size (S.size + 3)) S.data.toList) := hrest
  clear ho1 hb1 hb0 hc0 hs0 hrest hxl
  go_wp2_with fail
  refine (kDecode_one S.data.toList _ w1 ht1 HR1.out).mono ?_
  rintro r w2 ⟨k, f, n1, n2, n3, n4, n5, n6, n7, n8, la, lc, zs, ec, rfl, hD, ho2, hb2⟩
  have hbw2 : Below w.heap.size w w2 := hbw1.trans (hb2.mono hbw1.size)
  have bc2 : w2.cell? ⟨w.heap.size, 4, none⟩ = some (.string S) := (hb2.cell (by show w.heap.size < _; omega)).trans bc1
  have HO2 : Hid (w2.ownsRow (w.heap.size + 1) 5 1 (.slice (some ⟨w.heap.size + 1, 0, none⟩) (S.size + 3) (S.size + 3)) (S.size + 3) (lent (Lib.byteCells S.data.toList) (.int .u8 77))) := own_same HO1.out (hb2.block _ hL1)
  have HV2 : Hid (OwnI w2 w1.heap.size (.slice la zs.length lc) zs) := ho2
  have HD : Hid _ := hD
  have hz4 := hD.len
  have hs2 := hb2.size
  have hlt2 : w.heap.size < w2.heap.size := by omega
  clear bc1 ht1 HO1 HR1 hbw1 hb2 ho2 hD
  go_wp2_with fail
  have hb3 : Below w2.heap.size w2 (w2.alloc (Obj.cells #[Value.int IntKind.i64 k, Value.int IntKind.i64 f, Value.int IntKind.i64 n1, Value.int IntKind.i64 n2, Value.int IntKind.i64 n3, Value.int IntKind.i64 n4, Value.int IntKind.i64 n5, Value.int IntKind.i64 n6, Value.int IntKind.i64 n7, Value.int IntKind.i64 n8, Value.slice la zs.length lc] 136)) := (Below.refl _ _).alloc (Nat.le_refl _) _
  have mc3 : ∀ i, (w2.alloc (Obj.cells #[Value.int IntKind.i64 k, Value.int IntKind.i64 f, Value.int IntKind.i64 n1, Value.int IntKind.i64 n2, Value.int IntKind.i64 n3, Value.int IntKind.i64 n4, Value.int IntKind.i64 n5, Value.int IntKind.i64 n6, Value.int IntKind.i64 n7, Value.int IntKind.i64 n8, Value.slice la zs.length lc] 136)).cell? ⟨w2.heap.size, i, none⟩ = #[Value.int IntKind.i64 k, Value.int IntKind.i64 f, Value.int IntKind.i64 n1, Value.int IntKind.i64 n2, Value.int IntKind.i64 n3, Value.int IntKind.i64 n4, Value.int IntKind.i64 n5, Value.int IntKind.i64 n6, Value.int IntKind.i64 n7, Value.int IntKind.i64 n8, Value.slice la zs.length lc][i]? := fun i => World.cell?_alloc_at _ _ _ _ rfl
  have hs3 : (w2.alloc (Obj.cells #[Value.int IntKind.i64 k, Value.int IntKind.i64 f, Value.int IntKind.i64 n1, Value.int IntKind.i64 n2, Value.int IntKind.i64 n3, Value.int IntKind.i64 n4, Value.int IntKind.i64 n5, Value.int IntKind.i64 n6, Value.int IntKind.i64 n7, Value.int IntKind.i64 n8, Value.slice la zs.length lc] 136)).heap.size = w2.heap.size + 1 := by simp
  generalize (w2.alloc (Obj.cells #[Value.int IntKind.i64 k, Value.int IntKind.i64 f, Value.int IntKind.i64 n1, Value.int IntKind.i64 n2, Value.int IntKind.i64 n3, Value.int IntKind.i64 n4, Value.int IntKind.i64 n5, Value.int IntKind.i64 n6, Value.int IntKind.i64 n7, Value.int IntKind.i64 n8, Value.slice la zs.length lc] 136)) = W3 at *
  have hbw3 : Below w.heap.size w W3 := hbw2.trans (hb3.mono hbw2.size)
  have bc3 : W3.cell? ⟨w.heap.size, 4, none⟩ = some (.string S) := (hb3.cell (by show w.heap.size < _; omega)).trans bc2
  refine (rDecode_one S W3 (by omega) k f n1 n2 n3 n4 n5 n6 n7 n8 zs ec HD.out).mono ?_
  rintro r w4 ⟨ra, rc, rfl, ho4, hb4⟩
  have mc4 : ∀ i, w4.cell? ⟨w2.heap.size, i, none⟩ = #[Value.int IntKind.i64 k, Value.int IntKind.i64 f, Value.int IntKind.i64 n1, Value.int IntKind.i64 n2, Value.int IntKind.i64 n3, Value.int IntKind.i64 n4, Value.int IntKind.i64 n5, Value.int IntKind.i64 n6, Value.int IntKind.i64 n7, Value.int IntKind.i64 n8, Value.slice la zs.length lc][i]? := fun i => (hb4.cell (by show w2.heap.size < _; omega)).trans (mc3 i)
  have hb24 : Below w2.heap.size w2 w4 := hb3.trans (hb4.mono (by omega))
  have bc4 : w4.cell? ⟨w.heap.size, 4, none⟩ = some (.string S) := (hb4.cell (by show w.heap.size < _; omega)).trans bc3
  have hs4 := hb4.size
  have HV4 : Hid (OwnI w4 W3.heap.size (.slice ra zs.length rc) zs) := ho4
  have hlt4 : w.heap.size < w4.heap.size := by omega
  have hlt24 : w2.heap.size < w4.heap.size := by omega
  clear mc3 bc2 bc3 hb3 hb4 ho4 hbw3
  go_wp2_with fail
  have hb5 : Below w4.heap.size w4 (w4.alloc (Obj.cells #[Value.int IntKind.i64 k, Value.int IntKind.i64 f, Value.int IntKind.i64 n1, Value.int IntKind.i64 n2, Value.int IntKind.i64 n3, Value.int IntKind.i64 n4, Value.int IntKind.i64 n5, Value.int IntKind.i64 n6, Value.int IntKind.i64 n7, Value.int IntKind.i64 n8, Value.slice ra zs.length rc] 136)) := (Below.refl _ _).alloc (Nat.le_refl _) _
  have nc5 : ∀ i, (w4.alloc (Obj.cells #[Value.int IntKind.i64 k, Value.int IntKind.i64 f, Value.int IntKind.i64 n1, Value.int IntKind.i64 n2, Value.int IntKind.i64 n3, Value.int IntKind.i64 n4, Value.int IntKind.i64 n5, Value.int IntKind.i64 n6, Value.int IntKind.i64 n7, Value.int IntKind.i64 n8, Value.slice ra zs.length rc] 136)).cell? ⟨w4.heap.size, i, none⟩ = #[Value.int IntKind.i64 k, Value.int IntKind.i64 f, Value.int IntKind.i64 n1, Value.int IntKind.i64 n2, Value.int IntKind.i64 n3, Value.int IntKind.i64 n4, Value.int IntKind.i64 n5, Value.int IntKind.i64 n6, Value.int IntKind.i64 n7, Value.int IntKind.i64 n8, Value.slice ra zs.length rc][i]? := fun i => World.cell?_alloc_at _ _ _ _ rfl
  have hs5 : (w4.alloc (Obj.cells #[Value.int IntKind.i64 k, Value.int IntKind.i64 f, Value.int IntKind.i64 n1, Value.int IntKind.i64 n2, Value.int IntKind.i64 n3, Value.int IntKind.i64 n4, Value.int IntKind.i64 n5, Value.int IntKind.i64 n6, Value.int IntKind.i64 n7, Value.int IntKind.i64 n8, Value.slice ra zs.length rc] 136)).heap.size = w4.heap.size + 1 := by simp
  generalize (w4.alloc (Obj.cells #[Value.int IntKind.i64 k, Value.int IntKind.i64 f, Value.int IntKind.i64 n1, Value.int IntKind.i64 n2, Value.int IntKind.i64 n3, Value.int IntKind.i64 n4, Value.int IntKind.i64 n5, Value.int IntKind.i64 n6, Value.int IntKind.i64 n7, Value.int IntKind.i64 n8, Value.slice ra zs.length rc] 136)) = W5 at *
  have mc5 : ∀ i, W5.cell? ⟨w2.heap.size, i, none⟩ = #[Value.int IntKind.i64 k, Value.int IntKind.i64 f, Value.int IntKind.i64 n1, Value.int IntKind.i64 n2, Value.int IntKind.i64 n3, Value.int IntKind.i64 n4, Value.int IntKind.i64 n5, Value.int IntKind.i64 n6, Value.int IntKind.i64 n7, Value.int IntKind.i64 n8, Value.slice la zs.length lc][i]? := fun i => (hb5.cell (by show w2.heap.size < _; omega)).trans (mc4 i)
  have bc5 : W5.cell? ⟨w.heap.size, 4, none⟩ = some (.string S) := (hb5.cell (by show w.heap.size < _; omega)).trans bc4
  have hb25 : Below w2.heap.size w2 W5 := hb24.trans (hb5.mono (by omega))
  have hi1 : intsAt W5 la zs := (HV2.out.ints.2).later hb25
  have hi2 : intsAt W5 ra zs := (HV4.out.ints.2).later hb5
  clear mc4 bc4 hb5 hb24
  refine (rsame_any k f n1 n2 n3 n4 n5 n6 n7 n8 k f n1 n2 n3 n4 n5 n6 n7 n8 la ra lc rc zs zs W5 (by omega) hi1 hi2).mono ?_
  rintro r w6 ⟨rfl, hb6⟩
  rw [same_self]
  have mc6 : ∀ i, w6.cell? ⟨w2.heap.size, i, none⟩ = #[Value.int IntKind.i64 k, Value.int IntKind.i64 f, Value.int IntKind.i64 n1, Value.int IntKind.i64 n2, Value.int IntKind.i64 n3, Value.int IntKind.i64 n4, Value.int IntKind.i64 n5, Value.int IntKind.i64 n6, Value.int IntKind.i64 n7, Value.int IntKind.i64 n8, Value.slice la zs.length lc][i]? := fun i => (hb6.cell (by show w2.heap.size < _; omega)).trans (mc5 i)
  have bc6 : w6.cell? ⟨w.heap.size, 4, none⟩ = some (.string S) := (hb6.cell (by show w.heap.size < _; omega)).trans bc5
  have hb26 : Below w2.heap.size w2 w6 := hb25.trans (hb6.mono (by omega))
  have hs6 := hb6.size
  have hbw6 : Below w.heap.size w w6 := hbw2.trans (hb26.mono hbw2.size)
  have m10 := mc6 10
  simp at m10
  have HV6 : Hid (OwnI w6 w1.heap.size (.slice la zs.length lc) zs) := World.ownsRow.kept HV2.out ⟨hb26.os, hb26.tape, hb26.output, hb26.size, fun k hk _ => hb26.block k hk⟩ (row := none) (by cases la <;> simp [Value.ownBlock])
  have HO6 : Hid (w6.ownsRow (w.heap.size + 1) 5 1 (.slice (some ⟨w.heap.size + 1, 0, none⟩) (S.size + 3) (S.size + 3)) (S.size + 3) (lent (Lib.byteCells S.data.toList) (.int .u8 77))) := own_same HO2.out (hb26.block _ (by omega))
  have HB6 : Hid (Below w.heap.size w w6) := hbw6
  have HVl : Hid (OwnI w6 w.heap.size (.slice la zs.length lc) zs) := HV6.out.low (by omega)
  have HX1 : Hid (∀ g, Value.ownBlock (.slice la zs.length lc) = some g → ¬ g = w.heap.size + 1) := fun g hg => by have := (World.ownsRow.lt HV6.out g hg).1; omega
  have HX2 : Hid (∀ g, w6.heap.size ≤ g → ¬ g = w.heap.size + 1) := fun g hg => by omega
  have hsm : eb.length + ei.length < 4194304 := by omega
  have key : ∀ w7 v' en w8, Books (fun g => g = w.heap.size + 1) w7 base R vb v' eb (ei ++ [en]) → Kept (fun b => b = R ∨ some b = vi.ownBlock ∨ some b = Value.ownBlock (.slice la zs.length lc)) w6 w7 → (∀ i, i ≠ 5 → w7.cell? ⟨R, i, none⟩ = w6.cell? ⟨R, i, none⟩) → w7.grownBy w8 (some (w.heap.size + 1)) → InvM base R (n + 1) w8 ∧ Save base R w w8 := by
    intro w7 v' en w8 hB7 hK7 hR7 hg8
    have hb6 := HB6.out
    have h6s := hb6.size
    have hS7 : Save base R w w7 := ⟨hK7.os.trans hb6.os, hK7.tape.trans hb6.tape, hK7.output.trans hb6.output, Nat.le_trans hb6.size hK7.size, fun j hj hjR => (hK7.block j (by omega) (by
      rintro (h | h | h)
      · exact hjR h
      · have := (HB.out.oi.lt j h.symm).1; omega
      · have := (World.ownsRow.lt HV6.out j h.symm).1; omega)).trans (hb6.block j (by omega))⟩
    have hS8 : Save base R w w8 := hS7.trans ⟨hg8.os, hg8.tape, hg8.output, hg8.size, fun j hj hjR => hg8.block j (by have := hS7.size; omega) (by simp; omega)⟩
    refine ⟨⟨HI.out.two, HI.out.tabs.saved hS8 HI.out.two hRb, ao, c, ms, vb, v', eb, ei ++ [en], ?_, HG.out.saved hS8, HOK.out, hml, hB7.poke hg8, by simp; omega⟩, hS8⟩
    have h7 : w7.cell? ⟨R, 0, none⟩ = w.cell? ⟨R, 0, none⟩ := (hR7 0 (by omega)).trans (hb6.cell (by exact hR))
    have h8 : w8.cell? ⟨R, 0, none⟩ = w7.cell? ⟨R, 0, none⟩ := World.cell?_of_block (w := w7) (a := ⟨R, 0, none⟩) (hg8.block R (by have := hS7.size; omega) (by simp; omega))
    exact h8.trans (h7.trans HCell.out)
  have HKey : Hid _ := key
  clear key
  have hin : ∀ w7, Kept (fun b => b = R ∨ some b = vi.ownBlock ∨ some b = Value.ownBlock (.slice la zs.length lc)) w6 w7 → w7.ownsRow (w.heap.size + 1) 5 1 (.slice (some ⟨w.heap.size + 1, 0, none⟩) (S.size + 3) (S.size + 3)) (S.size + 3) (lent (Lib.byteCells S.data.toList) (.int .u8 77)) ∧ w7.cell? ⟨w.heap.size, 4, none⟩ = some (.string S) ∧ w7.cell? ⟨w2.heap.size, 10, none⟩ = some (.slice la zs.length lc) := by
    intro w7 hK7
    have hb6 := HB6.out
    have h6s := hb6.size
    have hnot : ∀ j, w.heap.size ≤ j → (j < w1.heap.size ∨ w2.heap.size ≤ j) → ¬ (j = R ∨ some j = vi.ownBlock ∨ some j = Value.ownBlock (.slice la zs.length lc)) := by
      rintro j h1 h2 (h | h | h)
      · omega
      · have := (HB.out.oi.lt j h.symm).2; omega
      · have h3 := (World.ownsRow.lt HV6.out j h.symm).1
        have h4 := (World.ownsRow.lt HV2.out j h.symm).2
        omega
    refine ⟨own_same HO6.out (hK7.block _ (by omega) (hnot _ (by omega) (by omega))), ?_, ?_⟩
    · exact (World.cell?_of_block (w := w6) (a := ⟨w.heap.size, 4, none⟩) (hK7.block w.heap.size (by omega) (hnot _ (by omega) (by omega)))).trans bc6
    · exact (World.cell?_of_block (w := w6) (a := ⟨w2.heap.size, 10, none⟩) (hK7.block w2.heap.size (by omega) (hnot _ (by omega) (by omega)))).trans m10
  have HIn : Hid _ := hin
  clear hin
  have HTen : Hid _ := m10
  clear mc5 mc6 bc5 hb25 hb6 hb26 hbw2 hbw6 hi1 hi2 nc5
  go_wp2_with fail
  go_region_held3 (fun w' => w'.cell? ⟨w2.heap.size, 10, none⟩ = some (.slice la zs.length lc)) (first | assumption | go_keep) (first | (go_at_call 106; refine (keepInts_any (fun g => g = w.heap.size + 1) w w6.drew base R vb vi eb ei (HB.out.widen _ (Nat.le_succ _)) HB6.out.drew _ zs.length (zs.map (Value.int .i64)) HVl.out (by omega) HX1.out HX2.out hsm).mono ?_; rintro r w7 ⟨rfl, v', en, hB7, hK7, hR7⟩; obtain ⟨o7, b7, t7⟩ := HIn.out w7 ⟨hK7.os, hK7.tape, hK7.output, hK7.size, hK7.block⟩))
  all_goals
    have HB7 : Hid _ := hB7
    have HK7 : Hid (Kept (fun b => b = R ∨ some b = vi.ownBlock ∨ some b = Value.ownBlock (.slice la zs.length lc)) w6 w7) := ⟨hK7.os, hK7.tape, hK7.output, hK7.size, hK7.block⟩
    have HR7 : Hid (∀ i, i ≠ 5 → w7.cell? ⟨R, i, none⟩ = w6.cell? ⟨R, i, none⟩) := hR7
    have HO7 : Hid _ := o7
    clear hB7 hK7 hR7 o7 t7 m10 bc6
  all_goals go_wp2_with fail
  all_goals refine (wholeBytes_any S (w.heap.size + 1) (w.heap.size + 1) w7 hS HO7.out).mono ?_
  all_goals rintro r w8 ⟨rfl, hg8⟩
  all_goals
    have hfin := HKey.out w7 v' en w8 HB7.out HK7.out HR7.out hg8
    have HFin : Hid _ := hfin
    clear hfin hg8 b7
  all_goals go_wp2_with (first | (go_at_call 99; refine (num_any _ _).mono ?_; rintro r w' ⟨rfl, hh⟩; replace hh := hh.symm; subst hh))
  all_goals go_ret
  all_goals exact ⟨rfl, HFin.out⟩
end Go.Proofs.YtdcainmlcpafbaaGreatDoor
