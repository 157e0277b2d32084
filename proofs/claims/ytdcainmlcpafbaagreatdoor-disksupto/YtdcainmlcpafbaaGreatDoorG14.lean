import Derived.Test.YtdcainmlcpafbaaGreatDoorG13
set_option linter.unusedSimpArgs false
set_option linter.unusedVariables false
namespace Go.Proofs.YtdcainmlcpafbaaGreatDoor
open Go.RowKit

set_option maxHeartbeats 8000000 in
set_option maxRecDepth 20000 in
theorem plain1 (base R n : Nat) (A B C : Int) (S : ByteArray) (w : World) (hI : InvM base R n w) (hn : n < 4194304) (bA : -9223372036854775808 ≤ A ∧ A ≤ 9223372036854775807) :
    Calls Tryz.prog 64 #[.pointer (some ⟨R, 0, none⟩), .agg #[.int .i64 1, .int .i64 A, .int .i64 B, .int .i64 C, .string S]] w fun e w' => e = .returned (.bool true) ∧ InvM base R (n + 1) w' ∧ Save base R w w' := by
  obtain ⟨ao, c, ms, vb, vi, eb, ei, hcell, hgoods, hok, hml, hbooks, hcount⟩ := hI.here
  have hRb := hbooks.lt
  have hble := hbooks.le
  have hR : R < w.heap.size := by omega
  by_cases hne : ms = []
  · subst hne
    refine (plain1_none R ao c A B C S w hR hcell).mono ?_
    rintro e w' ⟨rfl, hb⟩
    obtain ⟨h1, h2⟩ := hI.later hb (Nat.le_succ n)
    exact ⟨rfl, h1, h2⟩
  have hpos : 0 < ms.length := List.length_pos_iff.mpr hne
  have hposI : (0 : Int) < (ms.length : Int) := by omega
  obtain ⟨J, hJ⟩ := Int.eq_ofNat_of_zero_le (Int.emod_nonneg (raw A) (show (ms.length : Int) ≠ 0 by omega))
  have hJl : J < ms.length := by have := Int.emod_lt_of_pos (raw A) hposI; omega
  have hJi : (J : Int) < (ms.length : Int) := by omega
  obtain ⟨g, o, rfl, hgb, hgR, hcc⟩ := hgoods.arr.resolve_left hne
  have hg : g < w.heap.size := by omega
  have hmem : ms[J] ∈ ms := List.getElem_mem hJl
  have okm := hok _ hmem
  have hints := hgoods.ints hble hmem
  have hvals := hgoods.vals _ hmem
  have hb0 := (Below.refl w.heap.size w).alloc (Nat.le_refl _) (Obj.cells #[Value.int IntKind.i64 1, Value.int IntKind.i64 A, Value.int IntKind.i64 B, Value.int IntKind.i64 C, Value.string S] 93)
  have hc0 : ∀ i, (w.alloc (Obj.cells #[Value.int IntKind.i64 1, Value.int IntKind.i64 A, Value.int IntKind.i64 B, Value.int IntKind.i64 C, Value.string S] 93)).cell? ⟨w.heap.size, i, none⟩ = #[Value.int IntKind.i64 1, Value.int IntKind.i64 A, Value.int IntKind.i64 B, Value.int IntKind.i64 C, Value.string S][i]? := fun i => World.cell?_alloc_at _ _ _ _ rfl
  have hs0 : w.heap.size < (w.alloc (Obj.cells #[Value.int IntKind.i64 1, Value.int IntKind.i64 A, Value.int IntKind.i64 B, Value.int IntKind.i64 C, Value.string S] 93)).heap.size := by simp
  have hcR1 : (w.alloc (Obj.cells #[Value.int IntKind.i64 1, Value.int IntKind.i64 A, Value.int IntKind.i64 B, Value.int IntKind.i64 C, Value.string S] 93)).cell? ⟨R, 0, none⟩ = some (.slice (some ⟨g, o, none⟩) ms.length c) := (World.cell?_alloc_past _ _ _ hR).trans hcell
  have j0 := (World.cell?_alloc_past (o := (Obj.cells #[Value.int IntKind.i64 1, Value.int IntKind.i64 A, Value.int IntKind.i64 B, Value.int IntKind.i64 C, Value.string S] 93)) _ _ hg).trans (hcc J hJl 0 (by omega))
  have j1 := (World.cell?_alloc_past (o := (Obj.cells #[Value.int IntKind.i64 1, Value.int IntKind.i64 A, Value.int IntKind.i64 B, Value.int IntKind.i64 C, Value.string S] 93)) _ _ hg).trans (hcc J hJl 1 (by omega))
  have j2 := (World.cell?_alloc_past (o := (Obj.cells #[Value.int IntKind.i64 1, Value.int IntKind.i64 A, Value.int IntKind.i64 B, Value.int IntKind.i64 C, Value.string S] 93)) _ _ hg).trans (hcc J hJl 2 (by omega))
  have j3 := (World.cell?_alloc_past (o := (Obj.cells #[Value.int IntKind.i64 1, Value.int IntKind.i64 A, Value.int IntKind.i64 B, Value.int IntKind.i64 C, Value.string S] 93)) _ _ hg).trans (hcc J hJl 3 (by omega))
  have j4 := (World.cell?_alloc_past (o := (Obj.cells #[Value.int IntKind.i64 1, Value.int IntKind.i64 A, Value.int IntKind.i64 B, Value.int IntKind.i64 C, Value.string S] 93)) _ _ hg).trans (hcc J hJl 4 (by omega))
  have j5 := (World.cell?_alloc_past (o := (Obj.cells #[Value.int IntKind.i64 1, Value.int IntKind.i64 A, Value.int IntKind.i64 B, Value.int IntKind.i64 C, Value.string S] 93)) _ _ hg).trans (hcc J hJl 5 (by omega))
  have j6 := (World.cell?_alloc_past (o := (Obj.cells #[Value.int IntKind.i64 1, Value.int IntKind.i64 A, Value.int IntKind.i64 B, Value.int IntKind.i64 C, Value.string S] 93)) _ _ hg).trans (hcc J hJl 6 (by omega))
  have j7 := (World.cell?_alloc_past (o := (Obj.cells #[Value.int IntKind.i64 1, Value.int IntKind.i64 A, Value.int IntKind.i64 B, Value.int IntKind.i64 C, Value.string S] 93)) _ _ hg).trans (hcc J hJl 7 (by omega))
  have j8 := (World.cell?_alloc_past (o := (Obj.cells #[Value.int IntKind.i64 1, Value.int IntKind.i64 A, Value.int IntKind.i64 B, Value.int IntKind.i64 C, Value.string S] 93)) _ _ hg).trans (hcc J hJl 8 (by omega))
  have j9 := (World.cell?_alloc_past (o := (Obj.cells #[Value.int IntKind.i64 1, Value.int IntKind.i64 A, Value.int IntKind.i64 B, Value.int IntKind.i64 C, Value.string S] 93)) _ _ hg).trans (hcc J hJl 9 (by omega))
  have j10 := (World.cell?_alloc_past (o := (Obj.cells #[Value.int IntKind.i64 1, Value.int IntKind.i64 A, Value.int IntKind.i64 B, Value.int IntKind.i64 C, Value.string S] 93)) _ _ hg).trans (hcc J hJl 10 (by omega))
  have HM : Hid (ms[J] ∈ ms) := hmem
  clear hmem
  have HI : Hid _ := hI
  have HG : Hid (GoodsAt base R w (some ⟨g, o, none⟩) ms) := hgoods
  have HB : Hid (Books (fun _ => False) w base R vb vi eb ei) := hbooks
  have HOK : Hid _ := hok
  have HCell : Hid _ := hcell
  clear hI hgoods hbooks hok hcell hcc
  generalize ms[J] = m at *
  obtain ⟨k, f, e, b, wa, p, s, q, bl, v, va, vc, zs⟩ := m
  simp [MsgD.cells] at j0 j1 j2 j3 j4 j5 j6 j7 j8 j9 j10
  simp only at hints hvals
  obtain ⟨okk, okv, okz⟩ := okm
  simp only at okk okv okz
  have HV : Hid _ := hvals
  have HIN : Hid (intsAt w va zs) := hints
  clear hvals hints
  go_enter Tryz.func64, Tryz.ntmps64
  go_wp2
  generalize (w.alloc (Obj.cells #[Value.int IntKind.i64 1, Value.int IntKind.i64 A, Value.int IntKind.i64 B, Value.int IntKind.i64 C, Value.string S] 93)) = W0 at *
  have a1 := hc0 1
  simp at a1
  clear hc0
  go_cut [5] from 38 to 53 (fun x wc => x = .pointer (some ⟨W0.heap.size, 0, none⟩) ∧ wc = (W0.alloc (Obj.cells #[Value.int IntKind.i64 k, Value.int IntKind.i64 f, Value.int IntKind.i64 e, Value.int IntKind.i64 b, Value.int IntKind.i64 wa, Value.int IntKind.i64 p, Value.int IntKind.i64 s, Value.int IntKind.i64 q, Value.int IntKind.i64 bl, Value.int IntKind.i64 v, Value.slice va zs.length vc] 136)).drew)
  case first =>
    go_region_held3 (fun w' => w'.cell? ⟨R, 0, none⟩ = some (.slice (some ⟨g, o, none⟩) ms.length c) ∧ w'.cell? ⟨w.heap.size, 1, none⟩ = some (.int .i64 A) ∧ w'.cell? ⟨g, o + J * 11, none⟩ = some (.int .i64 k) ∧ w'.cell? ⟨g, o + J * 11 + 1, none⟩ = some (.int .i64 f) ∧ w'.cell? ⟨g, o + J * 11 + 2, none⟩ = some (.int .i64 e) ∧ w'.cell? ⟨g, o + J * 11 + 3, none⟩ = some (.int .i64 b) ∧ w'.cell? ⟨g, o + J * 11 + 4, none⟩ = some (.int .i64 wa) ∧ w'.cell? ⟨g, o + J * 11 + 5, none⟩ = some (.int .i64 p) ∧ w'.cell? ⟨g, o + J * 11 + 6, none⟩ = some (.int .i64 s) ∧ w'.cell? ⟨g, o + J * 11 + 7, none⟩ = some (.int .i64 q) ∧ w'.cell? ⟨g, o + J * 11 + 8, none⟩ = some (.int .i64 bl) ∧ w'.cell? ⟨g, o + J * 11 + 9, none⟩ = some (.int .i64 v) ∧ w'.cell? ⟨g, o + J * 11 + 10, none⟩ = some (.slice va zs.length vc)) (go_keep)
      (first | (go_at_call 14; refine (pick_any _ _ _ (by omega) (by omega) (by omega)).mono ?_; rintro e w' ⟨rfl, rfl⟩))
    all_goals go_wp2_with fail
    all_goals go_meet
    all_goals exact ⟨rfl, rfl⟩
  case rest =>
  obtain ⟨rfl, rfl⟩ := hcut
  have hb1 := (hb0.alloc (by omega) (Obj.cells #[Value.int IntKind.i64 k, Value.int IntKind.i64 f, Value.int IntKind.i64 e, Value.int IntKind.i64 b, Value.int IntKind.i64 wa, Value.int IntKind.i64 p, Value.int IntKind.i64 s, Value.int IntKind.i64 q, Value.int IntKind.i64 bl, Value.int IntKind.i64 v, Value.slice va zs.length vc] 136)).drew
  have mc1 : ∀ i, (W0.alloc (Obj.cells #[Value.int IntKind.i64 k, Value.int IntKind.i64 f, Value.int IntKind.i64 e, Value.int IntKind.i64 b, Value.int IntKind.i64 wa, Value.int IntKind.i64 p, Value.int IntKind.i64 s, Value.int IntKind.i64 q, Value.int IntKind.i64 bl, Value.int IntKind.i64 v, Value.slice va zs.length vc] 136)).drew.cell? ⟨W0.heap.size, i, none⟩ = #[Value.int IntKind.i64 k, Value.int IntKind.i64 f, Value.int IntKind.i64 e, Value.int IntKind.i64 b, Value.int IntKind.i64 wa, Value.int IntKind.i64 p, Value.int IntKind.i64 s, Value.int IntKind.i64 q, Value.int IntKind.i64 bl, Value.int IntKind.i64 v, Value.slice va zs.length vc][i]? := fun i => World.cell?_alloc_at _ _ _ _ rfl
  have hz1 : W0.heap.size < (W0.alloc (Obj.cells #[Value.int IntKind.i64 k, Value.int IntKind.i64 f, Value.int IntKind.i64 e, Value.int IntKind.i64 b, Value.int IntKind.i64 wa, Value.int IntKind.i64 p, Value.int IntKind.i64 s, Value.int IntKind.i64 q, Value.int IntKind.i64 bl, Value.int IntKind.i64 v, Value.slice va zs.length vc] 136)).drew.heap.size := by show _ < (World.alloc _ _).heap.size; simp
  clear hb0 j0 j1 j2 j3 j4 j5 j6 j7 j8 j9 j10 a1 hcR1
  generalize (W0.alloc (Obj.cells #[Value.int IntKind.i64 k, Value.int IntKind.i64 f, Value.int IntKind.i64 e, Value.int IntKind.i64 b, Value.int IntKind.i64 wa, Value.int IntKind.i64 p, Value.int IntKind.i64 s, Value.int IntKind.i64 q, Value.int IntKind.i64 bl, Value.int IntKind.i64 v, Value.slice va zs.length vc] 136)).drew = W1 at *
  generalize W0.heap.size = MB at *
  have hin1 : intsAt W1 va zs := HIN.out.later hb1
  have m10 := mc1 10
  simp at m10
  have HW : Hid (w.heap.size < MB) := hs0
  have HZ1 : Hid (MB < W1.heap.size) := hz1
  go_wp2_with fail
  clear m10
  refine (lentInts_any va zs vc MB W1 okz hin1 hz1).mono ?_
  rintro r w2 ⟨a2, c2, L, rfl, hb2, hi2, hL2, hL, hLent⟩
  have mc2 : ∀ i, w2.cell? ⟨MB, i, none⟩ = #[Value.int IntKind.i64 k, Value.int IntKind.i64 f, Value.int IntKind.i64 e, Value.int IntKind.i64 b, Value.int IntKind.i64 wa, Value.int IntKind.i64 p, Value.int IntKind.i64 s, Value.int IntKind.i64 q, Value.int IntKind.i64 bl, Value.int IntKind.i64 v, Value.slice va zs.length vc][i]? := fun i => (hb2.cell (by exact hz1)).trans (mc1 i)
  have hbw2 : Below w.heap.size w w2 := hb1.trans (hb2.mono (by have := hb1.size; omega))
  have hz2 : MB < w2.heap.size := Nat.lt_of_lt_of_le hz1 hb2.size
  have HL : Hid (L = MB ∨ W1.heap.size ≤ L) := hL
  have HLent : Hid (LentI w2 a2 c2 va zs L) := hLent
  have HI2 : Hid (intsAt w2 a2 zs) := hi2
  clear mc1 hin1 hb1 hb2 hL hLent hi2
  go_wp2_with fail
  have hb3 : Below w2.heap.size w2 (w2.alloc (Obj.cells #[Value.int IntKind.i64 k, Value.int IntKind.i64 f, Value.int IntKind.i64 e, Value.int IntKind.i64 b, Value.int IntKind.i64 wa, Value.int IntKind.i64 p, Value.int IntKind.i64 s, Value.int IntKind.i64 q, Value.int IntKind.i64 bl, Value.int IntKind.i64 v, Value.slice a2 zs.length c2] 136)) := (Below.refl _ _).alloc (Nat.le_refl _) _
  have hz3 : (w2.alloc (Obj.cells #[Value.int IntKind.i64 k, Value.int IntKind.i64 f, Value.int IntKind.i64 e, Value.int IntKind.i64 b, Value.int IntKind.i64 wa, Value.int IntKind.i64 p, Value.int IntKind.i64 s, Value.int IntKind.i64 q, Value.int IntKind.i64 bl, Value.int IntKind.i64 v, Value.slice a2 zs.length c2] 136)).heap.size = w2.heap.size + 1 := by simp
  generalize (w2.alloc (Obj.cells #[Value.int IntKind.i64 k, Value.int IntKind.i64 f, Value.int IntKind.i64 e, Value.int IntKind.i64 b, Value.int IntKind.i64 wa, Value.int IntKind.i64 p, Value.int IntKind.i64 s, Value.int IntKind.i64 q, Value.int IntKind.i64 bl, Value.int IntKind.i64 v, Value.slice a2 zs.length c2] 136)) = W3 at *
  have mc3 : ∀ i, W3.cell? ⟨MB, i, none⟩ = #[Value.int IntKind.i64 k, Value.int IntKind.i64 f, Value.int IntKind.i64 e, Value.int IntKind.i64 b, Value.int IntKind.i64 wa, Value.int IntKind.i64 p, Value.int IntKind.i64 s, Value.int IntKind.i64 q, Value.int IntKind.i64 bl, Value.int IntKind.i64 v, Value.slice va zs.length vc][i]? := fun i => (hb3.cell (by exact hz2)).trans (mc2 i)
  have hbw3 : Below w.heap.size w W3 := hbw2.trans (hb3.mono (by have := hbw2.size; omega))
  have hL3 : L < W3.heap.size := by omega
  have hMB3 : MB < W3.heap.size := by omega
  have ht3 : Tabs W3 := HI.out.tabs.below hbw3 (by have := HI.out.two; omega)
  have hi3 : intsAt W3 a2 zs := HI2.out.later hb3
  have HLent3 : Hid (LentI W3 a2 c2 va zs L) := HLent.out.kept (hb3.block L hL2)
  clear mc2 hb3 HLent HI2 hbw2 hz2 hL2
  refine (kEncode_both k f e b wa p s q bl v a2 zs c2 W3 ht3 hi3).mono ?_
  rintro r w4 ⟨la, lc, bx, ec, rfl, ho4, hb4, hbx, hm⟩
  have mc4 : ∀ i, w4.cell? ⟨MB, i, none⟩ = #[Value.int IntKind.i64 k, Value.int IntKind.i64 f, Value.int IntKind.i64 e, Value.int IntKind.i64 b, Value.int IntKind.i64 wa, Value.int IntKind.i64 p, Value.int IntKind.i64 s, Value.int IntKind.i64 q, Value.int IntKind.i64 bl, Value.int IntKind.i64 v, Value.slice va zs.length vc][i]? := fun i => (hb4.cell (by exact hMB3)).trans (mc3 i)
  have hbw4 : Below w.heap.size w w4 := hbw3.trans (hb4.mono hbw3.size)
  have HLent4 : Hid (LentI w4 a2 c2 va zs L) := HLent3.out.kept (hb4.block L hL3)
  have hs4 := hb4.size
  have HO4 : Hid (OwnB w4 W3.heap.size (.slice la bx.length lc) bx) := ho4
  have HE : Hid _ := hm
  have hlast : la = none ∨ ec = 0 := by
    rcases hm with ⟨_, _, h⟩ | ⟨_, _, _, h⟩
    · exact .inr h
    · exact .inl h
  clear mc3 ht3 hi3 HLent3 ho4 hb4 hm hz3
  go_wp2_with fail
  refine (rencode_both k f e b wa p s q bl v va vc zs w4 okz okk okv (HIN.out.later hbw4) bx ec (by rcases HE.out with ⟨h1, h2, h3⟩ | ⟨h1, h2, h3, _⟩; exact .inl ⟨h1, h2, h3⟩; exact .inr ⟨h1, h2, h3⟩)).mono ?_
  rintro r w5 ⟨rfl, hb5⟩
  have mc5 : ∀ i, w5.cell? ⟨MB, i, none⟩ = #[Value.int IntKind.i64 k, Value.int IntKind.i64 f, Value.int IntKind.i64 e, Value.int IntKind.i64 b, Value.int IntKind.i64 wa, Value.int IntKind.i64 p, Value.int IntKind.i64 s, Value.int IntKind.i64 q, Value.int IntKind.i64 bl, Value.int IntKind.i64 v, Value.slice va zs.length vc][i]? := fun i => (hb5.cell (by show MB < _; omega)).trans (mc4 i)
  have hbw5 : Below w.heap.size w w5 := hbw4.trans (hb5.mono hbw4.size)
  have HLent5 : Hid (LentI w5 a2 c2 va zs L) := HLent4.out.kept (hb5.block L (by omega))
  have hown5 : OwnB w5 W3.heap.size (.slice la bx.length lc) bx := World.ownsRow.kept HO4.out ⟨hb5.os, hb5.tape, hb5.output, hb5.size, fun k hk _ => hb5.block k hk⟩ (row := none) (by cases la <;> simp [Value.ownBlock])
  have hconv := conv_bytes hown5.bytesAt
  have hnil := run_eql_slice_nil (P := Tryz.prog) w5 148 5 la bx.length lc Tryz.underlying148
  have hs5 := hb5.size
  have HO5 : Hid (OwnB w5 W3.heap.size (.slice la bx.length lc) bx) := hown5
  have hLw : w.heap.size ≤ L := by rcases HL.out with h | h <;> omega
  have hls := hbw3.size
  have hown5' : OwnB w5 w.heap.size (.slice la bx.length lc) bx := hown5.low hls
  have hxl : ∀ g, Value.ownBlock (.slice la bx.length lc) = some g → ¬ g = L := fun g hg => by have := (World.ownsRow.lt HO5.out g hg).1; omega
  have hxn : ∀ g, w5.heap.size ≤ g → ¬ g = L := fun g hg => by omega
  have HX1 : Hid _ := hxl
  have HX2 : Hid _ := hxn
  have HO5' : Hid (OwnB w5 w.heap.size (.slice la bx.length lc) bx) := hown5'
  have HB5 : Hid (Below w.heap.size w w5) := hbw5
  clear mc4 HLent4 HO4 hb5 hown5 hown5' hxl hxn hbw4 hbw5 hbw3 HE
  have key : ∀ w6 v' en w7, Books (fun g => g = L) w6 base R v' vi (eb ++ [en]) ei → Kept (fun b => b = R ∨ some b = vb.ownBlock ∨ some b = Value.ownBlock (.slice la bx.length lc)) w5 w6 → (∀ i, i ≠ 4 → w6.cell? ⟨R, i, none⟩ = w5.cell? ⟨R, i, none⟩) → w6.grownBy w7 (some L) → InvM base R (n + 1) w7 ∧ Save base R w w7 := by
    intro w6 v' en w7 hB6 hK6 hR6 hg7
    have hb5 := HB5.out
    have h5s := hb5.size
    have hS6 : Save base R w w6 := ⟨hK6.os.trans hb5.os, hK6.tape.trans hb5.tape, hK6.output.trans hb5.output, Nat.le_trans hb5.size hK6.size, fun j hj hjR => (hK6.block j (by omega) (by
      rintro (h | h | h)
      · exact hjR h
      · have := (HB.out.ob.lt j h.symm).1; omega
      · have := (World.ownsRow.lt HO5.out j h.symm).1; omega)).trans (hb5.block j (by omega))⟩
    have hS7 : Save base R w w7 := hS6.trans ⟨hg7.os, hg7.tape, hg7.output, hg7.size, fun j hj hjR => hg7.block j (by have := hS6.size; omega) (by simp; omega)⟩
    refine ⟨⟨HI.out.two, HI.out.tabs.saved hS7 HI.out.two hRb, some ⟨g, o, none⟩, c, ms, v', vi, eb ++ [en], ei, ?_, HG.out.saved hS7, HOK.out, hml, hB6.poke hg7, by simp; omega⟩, hS7⟩
    have h6 : w6.cell? ⟨R, 0, none⟩ = w.cell? ⟨R, 0, none⟩ := (hR6 0 (by omega)).trans (hb5.cell (by exact hR))
    have h7 : w7.cell? ⟨R, 0, none⟩ = w6.cell? ⟨R, 0, none⟩ := World.cell?_of_block (w := w6) (a := ⟨R, 0, none⟩) (hg7.block R (by have := hS6.size; omega) (by simp; omega))
    exact h7.trans (h6.trans HCell.out)
  have HKey : Hid _ := key
  clear key
  have hin : ∀ w6, Kept (fun b => b = R ∨ some b = vb.ownBlock ∨ some b = Value.ownBlock (.slice la bx.length lc)) w5 w6 → intsAt w6 va zs ∧ LentI w6 a2 c2 va zs L ∧ w6.cell? ⟨MB, 10, none⟩ = some (.slice va zs.length vc) := by
    intro w6 hK6
    have hb5 := HB5.out
    have h5s := hb5.size
    have hnot : ∀ j, w.heap.size ≤ j → j < W3.heap.size → ¬ (j = R ∨ some j = vb.ownBlock ∨ some j = Value.ownBlock (.slice la bx.length lc)) := by
      rintro j h1 h2 (h | h | h)
      · omega
      · have := (HB.out.ob.lt j h.symm).2; omega
      · have := (World.ownsRow.lt HO5.out j h.symm).1; omega
    refine ⟨?_, HLent5.out.kept (hK6.block L (by omega) (hnot L hLw hL3)), ?_⟩
    · rcases HV.out with h | ⟨gv, off, h1, h2, h3, h4⟩
      · exact .inl h
      · have hk := hK6.size
        refine .inr ⟨gv, off, h1, by omega, fun j hj => ?_⟩
        have hblk : w6.heap[gv]? = w.heap[gv]? := (hK6.block gv (by omega) (by
          rintro (h | h | h)
          · exact h3 h
          · have := (HB.out.ob.lt gv h.symm).1; omega
          · have := (World.ownsRow.lt HO5.out gv h.symm).1; omega)).trans (hb5.block gv (by omega))
        exact (World.cell?_of_block (w := w) (a := ⟨gv, off + j, none⟩) hblk).trans (h4 j hj)
    · have h1 := World.cell?_of_block (w := w5) (a := ⟨MB, 10, none⟩) (hK6.block MB (by omega) (hnot MB (by omega) (by omega)))
      exact h1.trans ((mc5 10).trans (by simp))
  have HIn : Hid _ := hin
  clear hin
  have hneL : ∀ ad, va = some ad → zs ≠ [] → ad.block ≠ L := by
    intro ad h1 h2
    rcases HV.out with h | ⟨gv, off, h3, h4, _⟩
    · exact absurd h h2
    · rw [h3] at h1
      cases h1
      show gv ≠ L
      omega
  have HNE : Hid _ := hneL
  clear hneL
  have hsm : eb.length + ei.length < 4194304 := by omega
  by_cases hln : la = none
  · subst hln
    clear hlast
    go_wp2_with (first | (go_at_call 99; refine (num_any _ _).mono ?_; rintro r w' ⟨rfl, hh⟩; replace hh := hh.symm; subst hh) | (go_at_call 100; refine (keepBytes_any (fun g => g = L) w w5 base R vb vi eb ei (HB.out.widen L hLw) HB5.out _ bx.length (bvs bx) HO5'.out (by omega) HX1.out HX2.out hsm).mono ?_))
    rintro r w6 ⟨rfl, v', en, hB6, hK6, hR6⟩
    obtain ⟨hin6, hl6, m6⟩ := HIn.out w6 hK6
    have HB6 : Hid _ := hB6
    have HK6 : Hid _ := hK6
    have HR6 : Hid _ := hR6
    clear hB6 hK6 hR6 hconv hnil mc5
    go_wp2_with fail
    refine (wholeInts_any a2 va c2 vc zs L w6 okz hin6 hl6 HNE.out).mono ?_
    rintro r w7 ⟨rfl, hg7⟩
    have hfin := HKey.out w6 v' en w7 HB6.out HK6.out HR6.out hg7
    have HFin : Hid _ := hfin
    clear hfin hg7 m6
    go_wp2
    go_ret
    exact ⟨rfl, HFin.out⟩
  · obtain ⟨la', rfl⟩ : ∃ x, la = some x := by cases la with
      | none => exact absurd rfl hln
      | some x => exact ⟨x, rfl⟩
    have hec : ec = 0 := hlast.resolve_left hln
    subst hec
    clear hlast hln
    go_wp2_with (first | (go_at_call 99; refine (num_any _ _).mono ?_; rintro r w' ⟨rfl, hh⟩; replace hh := hh.symm; subst hh) | (go_at_call 100; refine (keepBytes_any (fun g => g = L) w w5 base R vb vi eb ei (HB.out.widen L hLw) HB5.out _ bx.length (bvs bx) HO5'.out (by omega) HX1.out HX2.out hsm).mono ?_))
    rintro r w6 ⟨rfl, v', en, hB6, hK6, hR6⟩
    obtain ⟨hin6, hl6, m6⟩ := HIn.out w6 hK6
    have HB6 : Hid _ := hB6
    have HK6 : Hid _ := hK6
    have HR6 : Hid _ := hR6
    clear hB6 hK6 hR6 hconv hnil mc5
    go_wp2_with fail
    refine (wholeInts_any a2 va c2 vc zs L w6 okz hin6 hl6 HNE.out).mono ?_
    rintro r w7 ⟨rfl, hg7⟩
    have hfin := HKey.out w6 v' en w7 HB6.out HK6.out HR6.out hg7
    have HFin : Hid _ := hfin
    clear hfin hg7 m6
    go_wp2
    go_ret
    exact ⟨rfl, HFin.out⟩

end Go.Proofs.YtdcainmlcpafbaaGreatDoor
