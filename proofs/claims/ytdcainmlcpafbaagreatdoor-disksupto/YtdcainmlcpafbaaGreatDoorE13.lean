import Derived.Test.YtdcainmlcpafbaaGreatDoorE12
import Derived.Test.YtdcainmlcpafbaaGreatDoorE4
set_option linter.unusedSimpArgs false
set_option linter.unusedVariables false
namespace Go.Proofs.YtdcainmlcpafbaaGreatDoor
open Go.RowKit

structure RecD where
  E : Int
  P : Int
  S : Int
def RecD.cells (r : RecD) : List Value := [.int .i64 r.E, .int .i64 r.P, .int .i64 r.S]
def RecD.ok (r : RecD) : Prop := (-9223372036854775808 ≤ r.E ∧ r.E ≤ 9223372036854775807) ∧ (-9223372036854775808 ≤ r.P ∧ r.P ≤ 9223372036854775807) ∧ (-9223372036854775808 ≤ r.S ∧ r.S ≤ 9223372036854775807)
def recsAt (w : World) (ao : Option Addr) (rs : List RecD) : Prop :=
  rs = [] ∨ ∃ g off, ao = some ⟨g, off, none⟩ ∧ g < w.heap.size ∧ ∀ j (h : j < rs.length) i, i < 3 → w.cell? ⟨g, off + j * 3 + i, none⟩ = some (rs[j].cells.getD i undef)
theorem recsAt.later {w w' : World} {a : Option Addr} {rs : List RecD} (h : recsAt w a rs) (hb : Below w.heap.size w w') : recsAt w' a rs := by
  rcases h with h | ⟨g, o, h1, h2, h3⟩
  · exact .inl h
  · exact .inr ⟨g, o, h1, Nat.lt_of_lt_of_le h2 hb.size, fun j hj i hi => (hb.cell (by exact h2)).trans (h3 j hj i hi)⟩

set_option maxHeartbeats 4000000 in
set_option maxRecDepth 20000 in
theorem plain3 (R : Nat) (gm : Value) (ao : Option Addr) (c : Nat) (rs : List RecD) (A B C : Int) (S : ByteArray) (w : World) (hR : R < w.heap.size) (hcR : ∀ i, w.cell? ⟨R, i, none⟩ = (freshV gm (.slice ao rs.length c))[i]?)
    (hrs : recsAt w ao rs) (hok : ∀ r ∈ rs, r.ok) (hl : rs.length ≤ 9223372036854775807) (bA : -9223372036854775808 ≤ A ∧ A ≤ 9223372036854775807) (bB : -9223372036854775808 ≤ B ∧ B ≤ 9223372036854775807) :
    Calls Tryz.prog 64 #[.pointer (some ⟨R, 0, none⟩), .agg #[.int .i64 3, .int .i64 A, .int .i64 B, .int .i64 C, .string S]] w fun e w' => e = .returned (.bool true) ∧ Below w.heap.size w w' := by
  have hb0 := (Below.refl w.heap.size w).alloc (Nat.le_refl _) (Obj.cells #[Value.int IntKind.i64 3, Value.int IntKind.i64 A, Value.int IntKind.i64 B, Value.int IntKind.i64 C, Value.string S] 93)
  have hc0 : ∀ i, (w.alloc (Obj.cells #[Value.int IntKind.i64 3, Value.int IntKind.i64 A, Value.int IntKind.i64 B, Value.int IntKind.i64 C, Value.string S] 93)).cell? ⟨w.heap.size, i, none⟩ = #[Value.int IntKind.i64 3, Value.int IntKind.i64 A, Value.int IntKind.i64 B, Value.int IntKind.i64 C, Value.string S][i]? := fun i => World.cell?_alloc_at _ _ _ _ rfl
  have hs0 : w.heap.size < (w.alloc (Obj.cells #[Value.int IntKind.i64 3, Value.int IntKind.i64 A, Value.int IntKind.i64 B, Value.int IntKind.i64 C, Value.string S] 93)).heap.size := by simp
  have hcR1 : (w.alloc (Obj.cells #[Value.int IntKind.i64 3, Value.int IntKind.i64 A, Value.int IntKind.i64 B, Value.int IntKind.i64 C, Value.string S] 93)).cell? ⟨R, 1, none⟩ = some (.slice ao rs.length c) := by rw [World.cell?_alloc_past _ _ _ hR, hcR]; rfl
  have hr0 := hrs.later hb0
  by_cases hne : rs = []
  · subst hne
    clear hcR hrs hr0
    go_enter Tryz.func64, Tryz.ntmps64
    go_wp2
    go_ret
    exact ⟨rfl, hb0⟩
  · have hpos : 0 < rs.length := List.length_pos_iff.mpr hne
    have hposI : (0 : Int) < (rs.length : Int) := by omega
    obtain ⟨J, hJ⟩ := Int.eq_ofNat_of_zero_le (Int.emod_nonneg (raw A) (show (rs.length : Int) ≠ 0 by omega))
    obtain ⟨L, hL⟩ := Int.eq_ofNat_of_zero_le (Int.emod_nonneg (raw B) (show (rs.length : Int) ≠ 0 by omega))
    have hJl : J < rs.length := by have := Int.emod_lt_of_pos (raw A) hposI; omega
    have hLl : L < rs.length := by have := Int.emod_lt_of_pos (raw B) hposI; omega
    have hJi : (J : Int) < (rs.length : Int) := by omega
    have hLi : (L : Int) < (rs.length : Int) := by omega
    obtain ⟨g, o, rfl, hg, hcc⟩ := hr0.resolve_left hne
    have j0 := hcc J hJl 0 (by omega)
    have j1 := hcc J hJl 1 (by omega)
    have j2 := hcc J hJl 2 (by omega)
    have l0 := hcc L hLl 0 (by omega)
    have l1 := hcc L hLl 1 (by omega)
    have l2 := hcc L hLl 2 (by omega)
    have okJ := hok rs[J] (List.getElem_mem hJl)
    have okL := hok rs[L] (List.getElem_mem hLl)
    simp [RecD.cells] at j0 j1 j2 l0 l1 l2
    generalize rs[J] = X at *
    generalize rs[L] = Y at *
    obtain ⟨xE, xP, xS⟩ := X
    obtain ⟨yE, yP, yS⟩ := Y
    simp only at j0 j1 j2 l0 l1 l2
    clear hcc hrs hok hcR hne
    go_enter Tryz.func64, Tryz.ntmps64
    go_wp2
    generalize (w.alloc (Obj.cells #[Value.int IntKind.i64 3, Value.int IntKind.i64 A, Value.int IntKind.i64 B, Value.int IntKind.i64 C, Value.string S] 93)) = W0 at *
    have a1 := hc0 1
    have b1 := hc0 2
    simp at a1 b1
    clear hc0
    have hRW : R < W0.heap.size := Nat.lt_trans hR hs0
    go_cut [21] from 155 to 170 (fun x wc => x = .pointer (some ⟨W0.heap.size, 0, none⟩) ∧ wc = (W0.alloc (Obj.cells #[Value.int IntKind.i64 xE, Value.int IntKind.i64 xP, Value.int IntKind.i64 xS] 66)).drew)
    case first =>
      go_region_held3 (fun w' => w'.cell? ⟨R, 1, none⟩ = some (.slice (some ⟨g, o, none⟩) rs.length c) ∧ w'.cell? ⟨w.heap.size, 1, none⟩ = some (.int .i64 A) ∧ w'.cell? ⟨g, o + J * 3, none⟩ = some (.int .i64 xE) ∧ w'.cell? ⟨g, o + J * 3 + 1, none⟩ = some (.int .i64 xP) ∧ w'.cell? ⟨g, o + J * 3 + 2, none⟩ = some (.int .i64 xS)) (go_keep)
        (first | (go_at_call 14; refine (pick_any _ _ _ (by omega) (by omega) (by omega)).mono ?_; rintro e w' ⟨rfl, rfl⟩))
      all_goals go_wp2_with fail
      all_goals go_meet
      all_goals exact ⟨rfl, rfl⟩
    case rest =>
    obtain ⟨rfl, rfl⟩ := hcut
    have hb1 := (hb0.alloc (by omega) (Obj.cells #[Value.int IntKind.i64 xE, Value.int IntKind.i64 xP, Value.int IntKind.i64 xS] 66)).drew
    have hp1 : ∀ b i, b < W0.heap.size → (W0.alloc (Obj.cells #[Value.int IntKind.i64 xE, Value.int IntKind.i64 xP, Value.int IntKind.i64 xS] 66)).drew.cell? ⟨b, i, none⟩ = W0.cell? ⟨b, i, none⟩ := fun b i hb => World.cell?_alloc_past _ _ _ hb
    have hq1 : ∀ i, (W0.alloc (Obj.cells #[Value.int IntKind.i64 xE, Value.int IntKind.i64 xP, Value.int IntKind.i64 xS] 66)).drew.cell? ⟨W0.heap.size, i, none⟩ = #[Value.int IntKind.i64 xE, Value.int IntKind.i64 xP, Value.int IntKind.i64 xS][i]? := fun i => World.cell?_alloc_at _ _ _ _ rfl
    have hz1 : W0.heap.size < (W0.alloc (Obj.cells #[Value.int IntKind.i64 xE, Value.int IntKind.i64 xP, Value.int IntKind.i64 xS] 66)).drew.heap.size := by show _ < (World.alloc _ _).heap.size; simp
    rw [← hp1 g _ hg] at l0 l1 l2
    rw [← hp1 _ _ hRW] at hcR1
    rw [← hp1 _ _ hs0] at b1
    clear hp1 j0 j1 j2 a1 hr0 hb0
    generalize (W0.alloc (Obj.cells #[Value.int IntKind.i64 xE, Value.int IntKind.i64 xP, Value.int IntKind.i64 xS] 66)).drew = W1 at *
    have hg1 := Nat.lt_trans hg hz1
    have hRW1 := Nat.lt_trans hRW hz1
    have hs1 := Nat.lt_trans hs0 hz1
    clear hg hRW hs0
    generalize W0.heap.size = X1 at *
    go_wp2_with fail
    go_cut [22] from 171 to 186 (fun x wc => x = .pointer (some ⟨W1.heap.size, 0, none⟩) ∧ wc = (W1.alloc (Obj.cells #[Value.int IntKind.i64 yE, Value.int IntKind.i64 yP, Value.int IntKind.i64 yS] 66)).drew)
    case first =>
      go_region_held3 (fun w' => w'.cell? ⟨R, 1, none⟩ = some (.slice (some ⟨g, o, none⟩) rs.length c) ∧ w'.cell? ⟨w.heap.size, 2, none⟩ = some (.int .i64 B) ∧ w'.cell? ⟨g, o + L * 3, none⟩ = some (.int .i64 yE) ∧ w'.cell? ⟨g, o + L * 3 + 1, none⟩ = some (.int .i64 yP) ∧ w'.cell? ⟨g, o + L * 3 + 2, none⟩ = some (.int .i64 yS)) (go_keep)
        (first | (go_at_call 14; refine (pick_any _ _ _ (by omega) (by omega) (by omega)).mono ?_; rintro e w' ⟨rfl, rfl⟩))
      all_goals go_wp2_with fail
      all_goals go_meet
      all_goals exact ⟨rfl, rfl⟩
    case rest =>
    obtain ⟨rfl, rfl⟩ := hcut
    have hb2 := (hb1.alloc (by omega) (Obj.cells #[Value.int IntKind.i64 yE, Value.int IntKind.i64 yP, Value.int IntKind.i64 yS] 66)).drew
    have hq2 : ∀ i, (W1.alloc (Obj.cells #[Value.int IntKind.i64 yE, Value.int IntKind.i64 yP, Value.int IntKind.i64 yS] 66)).drew.cell? ⟨X1, i, none⟩ = #[Value.int IntKind.i64 xE, Value.int IntKind.i64 xP, Value.int IntKind.i64 xS][i]? := fun i => (World.cell?_alloc_past _ _ _ hz1).trans (hq1 i)
    have hr2 : ∀ i, (W1.alloc (Obj.cells #[Value.int IntKind.i64 yE, Value.int IntKind.i64 yP, Value.int IntKind.i64 yS] 66)).drew.cell? ⟨W1.heap.size, i, none⟩ = #[Value.int IntKind.i64 yE, Value.int IntKind.i64 yP, Value.int IntKind.i64 yS][i]? := fun i => World.cell?_alloc_at _ _ _ _ rfl
    have hz2 : W1.heap.size < (W1.alloc (Obj.cells #[Value.int IntKind.i64 yE, Value.int IntKind.i64 yP, Value.int IntKind.i64 yS] 66)).drew.heap.size := by show _ < (World.alloc _ _).heap.size; simp
    clear l0 l1 l2 hcR1 b1 hq1 hb1
    generalize (W1.alloc (Obj.cells #[Value.int IntKind.i64 yE, Value.int IntKind.i64 yP, Value.int IntKind.i64 yS] 66)).drew = W2 at *
    have hz12 := Nat.lt_trans hz1 hz2
    have hs2 := Nat.lt_trans hs1 hz2
    clear hg1 hRW1 hs1 hz1
    generalize W1.heap.size = X2 at *
    have HE := fol_eq xE xP xS yE yP yS okJ.2.2.1 okJ.2.2.2
    obtain ⟨⟨oe1, oe2⟩, ⟨op1, op2⟩, ⟨os1, os2⟩⟩ := okJ
    obtain ⟨⟨pe1, pe2⟩, ⟨pp1, pp2⟩, ⟨ps1, ps2⟩⟩ := okL
    have HE' : Hid _ := HE
    clear HE
    go_wp2_with fail
    refine (kFollows_any xE xP xS yE yP yS W2 oe1 oe2).mono ?_
    rintro e w3 ⟨rfl, hb3⟩
    rw [HE'.out]
    have hq3 : ∀ i, w3.cell? ⟨X1, i, none⟩ = #[Value.int IntKind.i64 xE, Value.int IntKind.i64 xP, Value.int IntKind.i64 xS][i]? := fun i => (hb3.cell (by exact hz12)).trans (hq2 i)
    have hr3 : ∀ i, w3.cell? ⟨X2, i, none⟩ = #[Value.int IntKind.i64 yE, Value.int IntKind.i64 yP, Value.int IntKind.i64 yS][i]? := fun i => (hb3.cell (by exact hz2)).trans (hr2 i)
    have hb4 := hb2.trans (hb3.mono (by omega))
    have hz3 := hb3.size
    clear hq2 hr2 hb3 hb2
    have hx1 := Nat.lt_of_lt_of_le hz12 hz3
    have hx2 := Nat.lt_of_lt_of_le hz2 hz3
    have hx3 := Nat.lt_of_lt_of_le hs2 hz3
    clear hz12 hz2 hs2 hz3
    go_wp2_with fail
    refine (ref_any xE xP xS yE yP yS w3).mono ?_
    rintro e w4 ⟨rfl, hb5⟩
    have hb6 := hb4.trans (hb5.mono (by omega))
    clear hq3 hr3 hb5 hb4
    generalize folR xE xP xS yE yP yS = FR at *
    go_wp2
    go_ret
    exact ⟨ret_bool (by simp), hb6⟩

set_option maxHeartbeats 4000000 in
set_option maxRecDepth 20000 in
/-- step, of the kinds 1 to 3: what plain says. -/
theorem step_plain (R : Nat) (K A B C : Int) (S : ByteArray) (w : World) (h1 : 1 ≤ K) (h2 : K ≤ 3) (Q : Bool → World → Prop)
    (hp : ∀ W, Below w.heap.size w W → Calls Tryz.prog 64 #[.pointer (some ⟨R, 0, none⟩), .agg #[.int .i64 K, .int .i64 A, .int .i64 B, .int .i64 C, .string S]] W fun e w' => ∃ b, e = .returned (.bool b) ∧ Q b w') :
    Calls Tryz.prog 30 #[.pointer (some ⟨R, 0, none⟩), .agg #[.int .i64 K, .int .i64 A, .int .i64 B, .int .i64 C, .string S]] w fun e w' => ∃ b, e = .returned (.bool b) ∧ Q b w' := by
  have hb0 := (Below.refl w.heap.size w).alloc (Nat.le_refl _) (Obj.cells #[Value.int IntKind.i64 K, Value.int IntKind.i64 A, Value.int IntKind.i64 B, Value.int IntKind.i64 C, Value.string S] 93)
  go_enter Tryz.func30, Tryz.ntmps30
  go_wp2_with fail
  refine (hp _ hb0).mono ?_
  rintro e w1 ⟨b, rfl, hq⟩
  go_wp2
  go_ret
  exact ⟨b, rfl, hq⟩

set_option maxHeartbeats 4000000 in
set_option maxRecDepth 20000 in
/-- whole, where no list has come out. -/
theorem whole_none (R : Nat) (w : World) (h4 : w.cell? ⟨R, 4, none⟩ = some (.slice none 0 0)) (h5 : w.cell? ⟨R, 5, none⟩ = some (.slice none 0 0)) (h6 : w.cell? ⟨R, 6, none⟩ = some (.slice none 0 0)) (h7 : w.cell? ⟨R, 7, none⟩ = some (.slice none 0 0)) (h8 : w.cell? ⟨R, 8, none⟩ = some (.slice none 0 0)) :
    Calls Tryz.prog 31 #[.pointer (some ⟨R, 4, none⟩)] w fun e w' => e = .returned (.bool true) ∧ w' = w := by
  go_enter Tryz.func31, Tryz.ntmps31
  go_wp2
  refine wp_loop_rounds 1 ?_
  rw [rounds_succ]
  go_wp2
  refine wp_loop_rounds 1 ?_
  rw [rounds_succ]
  go_wp2
  refine wp_loop_rounds 1 ?_
  rw [rounds_succ]
  go_wp2
  refine wp_loop_rounds 1 ?_
  rw [rounds_succ]
  go_wp2
  refine wp_loop_rounds 1 ?_
  rw [rounds_succ]
  go_wp2
  go_ret
  exact ⟨rfl, rfl⟩
end Go.Proofs.YtdcainmlcpafbaaGreatDoor
