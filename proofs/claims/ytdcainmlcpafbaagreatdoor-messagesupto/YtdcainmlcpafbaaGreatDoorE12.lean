import Derived.Test.YtdcainmlcpafbaaGreatDoorE11
set_option linter.unusedSimpArgs false
set_option linter.unusedVariables false
namespace Go.Proofs.YtdcainmlcpafbaaGreatDoor
open Go.RowKit

/-- Below base, but for one block. -/
structure Save (base R : Nat) (w w' : World) : Prop where
  os : w'.os = w.os
  tape : w'.tape = w.tape
  output : w'.output = w.output
  size : w.heap.size ≤ w'.heap.size
  block : ∀ k, k < base → k ≠ R → w'.heap[k]? = w.heap[k]?
theorem Save.refl (base R : Nat) (w : World) : Save base R w w := ⟨rfl, rfl, rfl, Nat.le_refl _, fun _ _ _ => rfl⟩
theorem Save.trans {base R : Nat} {a b c : World} (h : Save base R a b) (k : Save base R b c) : Save base R a c :=
  ⟨k.os.trans h.os, k.tape.trans h.tape, k.output.trans h.output, Nat.le_trans h.size k.size, fun x hx hy => (k.block x hx hy).trans (h.block x hx hy)⟩
theorem Save.of_below {base R B : Nat} {w w' : World} (h : Below B w w') (hB : base ≤ B) : Save base R w w' :=
  ⟨h.os, h.tape, h.output, h.size, fun k hk _ => h.block k (by omega)⟩
theorem Save.below {base R B : Nat} {w w' : World} (h : Save base R w w') (h1 : B ≤ base) (h2 : B ≤ R) : Below B w w' :=
  ⟨h.os, h.tape, h.output, h.size, fun k hk => h.block k (by omega) (by omega)⟩
theorem Save.cell {base R : Nat} {w w' : World} (h : Save base R w w') {p : Addr} (h1 : p.block < base) (h2 : p.block ≠ R) : w'.cell? p = w.cell? p := World.cell?_of_block (w := w) (h.block p.block h1 h2)
theorem opsAt.saved {base R : Nat} {w w' : World} {g off : Nat} {os : List OpD} (h : opsAt w (some ⟨g, off, none⟩) os) (hs : Save base R w w') (h1 : g < base) (h2 : g ≠ R) : opsAt w' (some ⟨g, off, none⟩) os := by
  rcases h with h | ⟨g', o', he, hg, hc⟩
  · exact .inl h
  · cases he
    exact .inr ⟨g, off, rfl, Nat.lt_of_lt_of_le hg hs.size, fun j hj i hi => (hs.cell h1 h2).trans (hc j hj i hi)⟩

def freshV (gm gr : Value) : Array Value := #[gm, gr, .slice none 0 0, .slice none 0 0, .slice none 0 0, .slice none 0 0, .slice none 0 0, .slice none 0 0, .slice none 0 0]
/-- A world of the statements that has just been made. -/
structure Fresh (w : World) (R : Nat) (gm gr : Value) : Prop where
  lt : R < w.heap.size
  cell : ∀ i, w.cell? ⟨R, i, none⟩ = (freshV gm gr)[i]?
  free : ∀ i, w.frozen? ⟨R, i, none⟩ = false
theorem Fresh.later {w w' : World} {R : Nat} {gm gr : Value} (h : Fresh w R gm gr) (hb : Below w.heap.size w w') : Fresh w' R gm gr :=
  ⟨Nat.lt_of_lt_of_le h.lt hb.size, fun i => (hb.cell h.lt).trans (h.cell i), fun i => (hb.frozen h.lt).trans (h.free i)⟩
theorem Fresh.new (w : World) (gm gr : Value) : Fresh (w.alloc (Obj.cells #[gm, gr, .slice none 0 0, .slice none 0 0, .slice none 0 0, .slice none 0 0, .slice none 0 0, .slice none 0 0, .slice none 0 0] 90)) w.heap.size gm gr :=
  ⟨by simp, fun i => World.cell?_alloc_at _ _ _ _ rfl, fun i => by simp⟩
structure Given (lo hi : Int) (lim : Nat) (Inv : Nat → Nat → Nat → World → Prop) : Prop where
  step : ∀ base R n w (o : OpD), Inv base R n w → lo ≤ o.K → o.K ≤ hi → o.ok → n < lim → Calls Tryz.prog 30 #[.pointer (some ⟨R, 0, none⟩), .agg #[.int .i64 o.K, .int .i64 o.A, .int .i64 o.B, .int .i64 o.C, .string o.S]] w fun e w' => e = .returned (.bool true) ∧ Inv base R (n + 1) w' ∧ Save base R w w'
  whole : ∀ base R n w, Inv base R n w → Calls Tryz.prog 31 #[.pointer (some ⟨R, 4, none⟩)] w fun e w' => e = .returned (.bool true) ∧ Inv base R n w' ∧ Save base R w w'

set_option maxHeartbeats 4000000 in
set_option maxRecDepth 20000 in
theorem plays_gen (lo hi : Int) (lim : Nat) (Inv : Nat → Nat → Nat → World → Prop) (hG : Given lo hi lim Inv) (gm gr : Value) (ao : Option Addr) (c : Nat) (os : List OpD) (w : World) (h14 : 14 ≤ lim) (hlim : os.length ≤ lim) (hl : os.length ≤ 9223372036854775807) (hok : ∀ o ∈ os, o.ok) (hos : opsAt w ao os)
    (hF1 : ∀ W, Below w.heap.size w W → ∀ R X Y, w.heap.size ≤ X → w.heap.size ≤ Y → w.heap.size ≤ R → X < W.heap.size → Y < W.heap.size → X ≠ R → Y ≠ R → Fresh W R (.slice (some ⟨X, 0, none⟩) 3 3) (.slice (some ⟨Y, 0, none⟩) 2 2) → (∀ i, W.cell? ⟨X, i, none⟩ = knownMsgs[i]?) → (∀ i, W.cell? ⟨Y, i, none⟩ = knownRecs[i]?) → Inv W.heap.size R 0 W)
    (hF2 : ∀ W, Below w.heap.size w W → ∀ R, w.heap.size ≤ R → Fresh W R gm gr → Inv W.heap.size R 0 W) :
    Calls Tryz.prog 11 #[.agg #[gm, gr], .slice ao os.length c, .int .i64 lo, .int .i64 hi] w fun r w' => r = .returned (.bool true) ∧ Below w.heap.size w w' := by
  have hb0 := (Below.refl w.heap.size w).alloc (Nat.le_refl _) (Obj.cells #[gm, gr] 25)
  have hc0 : ∀ i, (w.alloc (Obj.cells #[gm, gr] 25)).cell? ⟨w.heap.size, i, none⟩ = #[gm, gr][i]? := fun i => World.cell?_alloc_at _ _ _ _ rfl
  have hs0 : (w.alloc (Obj.cells #[gm, gr] 25)).heap.size = w.heap.size + 1 := by simp
  go_enter Tryz.func11, Tryz.ntmps11
  go_wp2_with fail
  generalize (w.alloc (Obj.cells #[gm, gr] 25)) = W0 at *
  refine (known_any _).mono ?_
  rintro r w1 ⟨rfl, hb1, hz1, hk1, hk2⟩
  rw [hs0] at hb1 hz1 hk1 hk2 ⊢
  have hd1 := hb0.trans (hb1.mono (by omega))
  have hc1 : ∀ i, w1.cell? ⟨w.heap.size, i, none⟩ = #[gm, gr][i]? := fun i => (hb1.cell (by show w.heap.size < _; omega)).trans (hc0 i)
  have HK1 : Hid _ := hk1
  have HK2 : Hid _ := hk2
  clear hb0 hb1 hc0 hk1 hk2
  have hF := Fresh.new w1 (.slice (some ⟨w.heap.size + 1 + 1, 0, none⟩) 3 3) (.slice (some ⟨w.heap.size + 1 + 1 + 1, 0, none⟩) 2 2)
  go_wp2_with fail
  have hd2 := hd1.alloc (by omega) (Obj.cells #[Value.slice (some ⟨w.heap.size + 1 + 1, 0, none⟩) 3 3, Value.slice (some ⟨w.heap.size + 1 + 1 + 1, 0, none⟩) 2 2, Value.slice none 0 0, Value.slice none 0 0, Value.slice none 0 0, Value.slice none 0 0, Value.slice none 0 0, Value.slice none 0 0, Value.slice none 0 0] 90)
  have hz2 : (w1.alloc (Obj.cells #[Value.slice (some ⟨w.heap.size + 1 + 1, 0, none⟩) 3 3, Value.slice (some ⟨w.heap.size + 1 + 1 + 1, 0, none⟩) 2 2, Value.slice none 0 0, Value.slice none 0 0, Value.slice none 0 0, Value.slice none 0 0, Value.slice none 0 0, Value.slice none 0 0, Value.slice none 0 0] 90)).heap.size = w1.heap.size + 1 := by simp
  have hc2 : ∀ i, (w1.alloc (Obj.cells #[Value.slice (some ⟨w.heap.size + 1 + 1, 0, none⟩) 3 3, Value.slice (some ⟨w.heap.size + 1 + 1 + 1, 0, none⟩) 2 2, Value.slice none 0 0, Value.slice none 0 0, Value.slice none 0 0, Value.slice none 0 0, Value.slice none 0 0, Value.slice none 0 0, Value.slice none 0 0] 90)).cell? ⟨w.heap.size, i, none⟩ = #[gm, gr][i]? := fun i => by rw [World.cell?_alloc_past _ _ _ (by show w.heap.size < _; omega), hc1]
  have hx2 : ∀ b i, b < w1.heap.size → (w1.alloc (Obj.cells #[Value.slice (some ⟨w.heap.size + 1 + 1, 0, none⟩) 3 3, Value.slice (some ⟨w.heap.size + 1 + 1 + 1, 0, none⟩) 2 2, Value.slice none 0 0, Value.slice none 0 0, Value.slice none 0 0, Value.slice none 0 0, Value.slice none 0 0, Value.slice none 0 0, Value.slice none 0 0] 90)).cell? ⟨b, i, none⟩ = w1.cell? ⟨b, i, none⟩ := fun b i hb => World.cell?_alloc_past _ _ _ hb
  generalize (w1.alloc (Obj.cells #[Value.slice (some ⟨w.heap.size + 1 + 1, 0, none⟩) 3 3, Value.slice (some ⟨w.heap.size + 1 + 1 + 1, 0, none⟩) 2 2, Value.slice none 0 0, Value.slice none 0 0, Value.slice none 0 0, Value.slice none 0 0, Value.slice none 0 0, Value.slice none 0 0, Value.slice none 0 0] 90)) = W2 at *
  refine (opening_any _).mono ?_
  rintro r w3 ⟨g, rfl, hg1, hg2, hb3, hop⟩
  have hd3 := hd2.trans (hb3.mono (by omega))
  have hz3 := hb3.size
  have hF3 := hF.later hb3
  have hc3 : ∀ i, w3.cell? ⟨w.heap.size, i, none⟩ = #[gm, gr][i]? := fun i => (hb3.cell (by show w.heap.size < _; omega)).trans (hc2 i)
  have HI := hF1 w3 hd3 w1.heap.size (w.heap.size + 1 + 1) (w.heap.size + 1 + 1 + 1) (by omega) (by omega) (by omega) (by omega) (by omega) (by omega) (by omega) hF3 (fun i => (hb3.cell (by show w.heap.size + 1 + 1 < _; omega)).trans ((hx2 _ i (by omega)).trans (HK1.out i))) (fun i => (hb3.cell (by show w.heap.size + 1 + 1 + 1 < _; omega)).trans ((hx2 _ i (by omega)).trans (HK2.out i)))
  clear hF hF1 hF3 hx2 hb3 HK1 HK2 hc2 hc1 hd1 hd2
  have HOP : Hid (opsAt w3 (some ⟨g, 0, none⟩) opened) := hop
  have HF2 : Hid _ := hF2
  have HOS : Hid (opsAt w ao os) := hos
  have HOK : Hid _ := hok
  clear hop hF2 hos hok
  have hR1 : w.heap.size < w.heap.size + 1 + 3 := by omega
  have hR2 : w.heap.size + 1 + 3 < g := by omega
  have hR3 : w.heap.size < w3.heap.size := by omega
  rw [hz1] at HI
  clear hz2 hg1 hz3 hs0 hz1
  generalize w.heap.size + 1 + 3 = R1 at *
  go_wp2_with fail
  go_loopw [11, 12] (fun ix _ wr => ∃ t n : Nat, t ≤ 14 ∧ n ≤ t ∧ ix = .int .i64 t ∧ Inv w3.heap.size R1 n wr ∧ Save w3.heap.size R1 w3 wr) (fun ix _ _ => 14 - (intOf ix).toNat)
  case atStart => exact ⟨0, 0, by omega, by omega, rfl, HI, Save.refl _ _ _⟩
  case round =>
    obtain ⟨t, n, ht, hn, rfl, hI, hS⟩ := hrel
    by_cases htl : t < 14
    · obtain ⟨g', o', he, hg', hcc⟩ := (HOP.out.saved hS hg2 (by omega)).resolve_left (by simp [opened])
      cases he
      have ho : t < opened.length := htl
      have j0 := hcc t ho 0 (by omega)
      have j1 := hcc t ho 1 (by omega)
      have j2 := hcc t ho 2 (by omega)
      have j3 := hcc t ho 3 (by omega)
      have j4 := hcc t ho 4 (by omega)
      have hok := opened_ok opened[t] (List.getElem_mem ho)
      simp [OpD.cells] at j0 j1 j2 j3 j4
      clear hcc hc3
      generalize opened[t] = o at *
      by_cases hlo : lo ≤ o.K
      · by_cases hhi : o.K ≤ hi
        · go_wp2_with fail
          refine (hG.step _ _ n wr o hI hlo hhi hok (by omega)).mono ?_
          rintro r w' ⟨rfl, hI', hS'⟩
          have hS2 := hS.trans hS'
          clear j0 j1 j2 j3 j4
          go_wp2
          go_roundw
          case rel => exact ⟨t + 1, n + 1, by omega, by omega, by go_num, hI', hS2⟩
          case measure => simp [intOf]; omega
        · go_wp2
          go_roundw
          case rel => exact ⟨t + 1, n, by omega, by omega, by go_num, hI, hS⟩
          case measure => simp [intOf]; omega
      · go_wp2
        go_roundw
        case rel => exact ⟨t + 1, n, by omega, by omega, by go_num, hI, hS⟩
        case measure => simp [intOf]; omega
    · have hcr : ∀ i, wr.cell? ⟨w.heap.size, i, none⟩ = #[gm, gr][i]? := fun i => (hS.cell (by exact hR3) (by show w.heap.size ≠ R1; omega)).trans (hc3 i)
      have hBr := hd3.trans (hS.below (B := w.heap.size) (by omega) (by omega))
      have hFn := Fresh.new wr gm gr
      have hBn := hBr.alloc hBr.size (Obj.cells #[gm, gr, Value.slice none 0 0, Value.slice none 0 0, Value.slice none 0 0, Value.slice none 0 0, Value.slice none 0 0, Value.slice none 0 0, Value.slice none 0 0] 90)
      have hI2 := HF2.out _ hBn wr.heap.size hBr.size hFn
      have hR4 := hBr.size
      have hR5 := hFn.lt
      clear hc3 hI hS hFn
      go_wp2_with fail
      generalize (wr.alloc (Obj.cells #[gm, gr, Value.slice none 0 0, Value.slice none 0 0, Value.slice none 0 0, Value.slice none 0 0, Value.slice none 0 0, Value.slice none 0 0, Value.slice none 0 0] 90)) = W4 at *
      clear hcr hBr
      generalize wr.heap.size = R2 at *
      go_loopw [14, 15, 16] (fun ix _ _ wq => ∃ t n : Nat, t ≤ os.length ∧ n ≤ t ∧ ix = .int .i64 t ∧ Inv W4.heap.size R2 n wq ∧ Save W4.heap.size R2 W4 wq) (fun ix _ _ _ => os.length - (intOf ix).toNat)
      case atStart => exact ⟨0, 0, by omega, by omega, rfl, hI2, Save.refl _ _ _⟩
      case round =>
        obtain ⟨t, n, ht, hn, rfl, hI, hS⟩ := hrel
        have hBq := hBn.trans (hS.below (B := w.heap.size) (by omega) (by omega))
        by_cases htl : t < os.length
        · obtain ⟨g', o', rfl, hg', hcc⟩ := HOS.out.resolve_left (by intro h; subst h; simp at htl)
          have htl2 : (t : Int) < (os.length : Int) := by omega
          have hcx : ∀ i, i < 5 → wr.cell? ⟨g', o' + t * 5 + i, none⟩ = some (os[t].cells.getD i undef) := fun i hi => (hBq.cell (by exact hg')).trans (hcc t htl i hi)
          have j0 := hcx 0 (by omega)
          have j1 := hcx 1 (by omega)
          have j2 := hcx 2 (by omega)
          have j3 := hcx 3 (by omega)
          have j4 := hcx 4 (by omega)
          have hok := HOK.out os[t] (List.getElem_mem htl)
          simp [OpD.cells] at j0 j1 j2 j3 j4
          clear hcc hcx
          generalize os[t] = o at *
          by_cases hlo : lo ≤ o.K
          · by_cases hhi : o.K ≤ hi
            · go_wp2_with fail
              refine (hG.step _ _ n wr o hI hlo hhi hok (by omega)).mono ?_
              rintro r w' ⟨rfl, hI', hS'⟩
              have hS2 := hS.trans hS'
              clear j0 j1 j2 j3 j4
              go_wp2_with fail
              refine (hG.whole _ _ (n + 1) w' hI').mono ?_
              rintro r w'' ⟨rfl, hI'', hS''⟩
              have hS3 := hS2.trans hS''
              go_wp2
              go_roundw
              case rel => exact ⟨t + 1, n + 1, by omega, by omega, by go_num, hI'', hS3⟩
              case measure => simp [intOf]; omega
            · go_wp2
              go_roundw
              case rel => exact ⟨t + 1, n, by omega, by omega, by go_num, hI, hS⟩
              case measure => simp [intOf]; omega
          · go_wp2
            go_roundw
            case rel => exact ⟨t + 1, n, by omega, by omega, by go_num, hI, hS⟩
            case measure => simp [intOf]; omega
        · go_wp2
          go_ret
          exact ⟨rfl, hBq⟩
end Go.Proofs.YtdcainmlcpafbaaGreatDoor
