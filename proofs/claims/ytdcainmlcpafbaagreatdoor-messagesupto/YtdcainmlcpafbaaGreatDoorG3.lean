import Derived.Test.YtdcainmlcpafbaaGreatDoorG2
set_option linter.unusedSimpArgs false
set_option linter.unusedVariables false
namespace Go.Proofs.YtdcainmlcpafbaaGreatDoor
open Go.RowKit

structure Ent where
  l : Value
  a : Value
  b : Value
  c : Value
  n : Nat
def Ent.cells (e : Ent) : List Value := [e.l, e.a, e.b, e.c, .int .i64 e.n]
theorem flat_len (es : List Ent) : (es.flatMap Ent.cells).length = es.length * 5 := by
  induction es with
  | nil => rfl
  | cons e es ih => rw [List.flatMap_cons, List.length_append, ih]; simp [Ent.cells]; omega
theorem flat_at : ∀ (es : List Ent) (i : Nat) (h : i < es.length) (k : Nat) (hk : k < 5), (es.flatMap Ent.cells)[i * 5 + k]? = some (es[i].cells.getD k undef) := by
  intro es
  induction es with
  | nil => intro i h; simp at h
  | cons e es ih =>
    intro i h k hk
    rw [List.flatMap_cons]
    have hlen : e.cells.length = 5 := rfl
    match i with
    | 0 =>
      rw [List.getElem?_append_left (by rw [hlen]; omega)]
      simp only [Nat.zero_mul, Nat.zero_add, List.getElem_cons_zero]
      rw [List.getD_eq_getElem?_getD, List.getElem?_eq_getElem (by rw [hlen]; exact hk)]
      rfl
    | i + 1 =>
      rw [List.getElem?_append_right (by rw [hlen]; omega), hlen, show (i + 1) * 5 + k - 5 = i * 5 + k by omega]
      exact ih i (by simpa using h) k hk
def entOk (val : Nat → Nat → Value) (w : World) (base : Nat) (bad : Nat → Prop) (e : Ent) : Prop :=
  slAt (val e.n) w base bad e.l ∧ slAt (val e.n) w base bad e.a ∧ slAt (val e.n) w base bad e.b ∧ slAt (val e.n) w base bad e.c
theorem slAt.kept {val : Nat → Value} {w w' : World} {base : Nat} {bad bad' : Nat → Prop} {x : Value} (h : slAt val w base bad x) (hs : w.heap.size ≤ w'.heap.size) (hb : ∀ g, base ≤ g → g < w.heap.size → ¬ bad g → w'.heap[g]? = w.heap[g]? ∧ ¬ bad' g) : slAt val w' base bad' x := by
  obtain ⟨a, len, c, h1, h2, h3⟩ := h
  refine ⟨a, len, c, h1, h2, ?_⟩
  rcases h3 with h3 | ⟨g, h4, h5, h6, h7, h9⟩
  · exact .inl h3
  · obtain ⟨k1, k2⟩ := hb g h5 h6 h7
    exact .inr ⟨g, h4, h5, Nat.lt_of_lt_of_le h6 hs, k2, fun j hj => (World.cell?_of_block (w := w) (a := ⟨g, j, none⟩) k1).trans (h9 j hj)⟩
theorem entOk.kept {val : Nat → Nat → Value} {w w' : World} {base : Nat} {bad bad' : Nat → Prop} {e : Ent} (h : entOk val w base bad e) (hs : w.heap.size ≤ w'.heap.size) (hb : ∀ g, base ≤ g → g < w.heap.size → ¬ bad g → w'.heap[g]? = w.heap[g]? ∧ ¬ bad' g) : entOk val w' base bad' e :=
  ⟨h.1.kept hs hb, h.2.1.kept hs hb, h.2.2.1.kept hs hb, h.2.2.2.kept hs hb⟩

def badOf (ext : Nat → Prop) (vb vi : Value) (g : Nat) : Prop := some g = vb.ownBlock ∨ some g = vi.ownBlock ∨ ext g
/-- The books of a world: the lists that came out, and what they were appended to. ext: blocks that they keep off. -/
structure Books (ext : Nat → Prop) (w : World) (base R : Nat) (vb vi : Value) (eb ei : List Ent) : Prop where
  c4 : w.cell? ⟨R, 4, none⟩ = some vb
  c5 : w.cell? ⟨R, 5, none⟩ = some vi
  c6 : w.cell? ⟨R, 6, none⟩ = some (.slice none 0 0)
  c7 : w.cell? ⟨R, 7, none⟩ = some (.slice none 0 0)
  c8 : w.cell? ⟨R, 8, none⟩ = some (.slice none 0 0)
  free : ∀ i, w.frozen? ⟨R, i, none⟩ = false
  lt : R < base
  le : base ≤ w.heap.size
  ob : w.ownsRow base 150 5 vb eb.length (eb.flatMap Ent.cells)
  oi : w.ownsRow base 153 5 vi ei.length (ei.flatMap Ent.cells)
  ne : vb.ownBlock = none ∨ vb.ownBlock ≠ vi.ownBlock
  nb : ∀ i (h : i < eb.length), eb[i].n = i
  ni : ∀ i (h : i < ei.length), ei[i].n = i
  okb : ∀ e ∈ eb, entOk vB w base (badOf ext vb vi) e
  oki : ∀ e ∈ ei, entOk vI w base (badOf ext vb vi) e
  xb : ∀ g, vb.ownBlock = some g → ¬ ext g
  xi : ∀ g, vi.ownBlock = some g → ¬ ext g
  xR : ¬ ext R
  small : eb.length + ei.length ≤ 4194304
theorem Books.later {ext : Nat → Prop} {w w' : World} {base R : Nat} {vb vi : Value} {eb ei : List Ent} (h : Books ext w base R vb vi eb ei) (hb : Below w.heap.size w w') : Books ext w' base R vb vi eb ei := by
  have hR : R < w.heap.size := Nat.lt_of_lt_of_le h.lt h.le
  have hgr : w.grownBy w' none := ⟨hb.os, hb.tape, hb.output, hb.size, fun k hk _ => hb.block k hk⟩
  have hblk : ∀ g, base ≤ g → g < w.heap.size → ¬ badOf ext vb vi g → w'.heap[g]? = w.heap[g]? ∧ ¬ badOf ext vb vi g := fun g _ h1 h2 => ⟨hb.block g h1, h2⟩
  have hnone : ∀ o : Option Nat, o = none ∨ o ≠ none := fun o => by cases o <;> simp
  exact { c4 := (hb.cell (by exact hR)).trans h.c4, c5 := (hb.cell (by exact hR)).trans h.c5, c6 := (hb.cell (by exact hR)).trans h.c6, c7 := (hb.cell (by exact hR)).trans h.c7, c8 := (hb.cell (by exact hR)).trans h.c8, free := fun i => (hb.frozen (by exact hR)).trans (h.free i), lt := h.lt, le := Nat.le_trans h.le hb.size, ob := h.ob.kept hgr (hnone _), oi := h.oi.kept hgr (hnone _), ne := h.ne, nb := h.nb, ni := h.ni, okb := fun e he => (h.okb e he).kept hb.size hblk, oki := fun e he => (h.oki e he).kept hb.size hblk, xb := h.xb, xi := h.xi, xR := h.xR, small := h.small }
theorem row_shape {w : World} {base e size n : Nat} {v : Value} {xs : List Value} (h : w.ownsRow base e size v n xs) : ∃ a c, v = .slice a n c ∧ (n = 0 ∨ ∃ g, a = some ⟨g, 0, none⟩ ∧ base ≤ g ∧ g < w.heap.size ∧ ∀ j u, xs[j]? = some u → w.cell? ⟨g, j, none⟩ = some u) := by
  rcases h.2 with ⟨rfl, rfl⟩ | ⟨g, cap, cur, rfl, hb, hg, _⟩
  · exact ⟨none, 0, rfl, .inl rfl⟩
  · refine ⟨_, cap, rfl, .inr ⟨g, rfl, hb, (h.lt g rfl).2, fun j u hj => ?_⟩⟩
    have := h.cells (g := g) rfl j u hj
    rw [Go.WideShapes.add_plain] at this
    simpa using this
set_option maxHeartbeats 8000000 in
set_option maxRecDepth 20000 in
theorem whole_any (ext : Nat → Prop) (w : World) (base R : Nat) (vb vi : Value) (eb ei : List Ent) (h : Books ext w base R vb vi eb ei) :
    Calls Tryz.prog 31 #[.pointer (some ⟨R, 4, none⟩)] w fun e w' => e = .returned (.bool true) ∧ Below w.heap.size w w' := by
  obtain ⟨ab, cb, hvb, hrb⟩ := row_shape h.ob
  obtain ⟨ai, ci, hvi, hri⟩ := row_shape h.oi
  have HB : Hid _ := h
  have hRw : R < w.heap.size := Nat.lt_of_lt_of_le h.lt h.le
  have hsm := h.small
  have HC4 : Hid (w.cell? ⟨R, 4, none⟩ = some (.slice ab eb.length cb)) := h.c4.trans (by rw [hvb])
  have HC5 : Hid (w.cell? ⟨R, 5, none⟩ = some (.slice ai ei.length ci)) := h.c5.trans (by rw [hvi])
  have HC6 : Hid _ := h.c6
  have HC7 : Hid _ := h.c7
  have HC8 : Hid _ := h.c8
  have HRB : Hid _ := hrb
  have HRI : Hid _ := hri
  clear h hvb hvi hrb hri
  go_enter Tryz.func31, Tryz.ntmps31
  go_wp2
  go_loopw [3, 4, 5] (fun okx ix _ wr => ∃ t : Nat, t ≤ eb.length ∧ ix = .int .i64 t ∧ okx = .bool true ∧ Below w.heap.size w wr) (fun _ ix _ _ => eb.length - (intOf ix).toNat)
  case atStart => exact ⟨0, by omega, rfl, rfl, Below.refl _ _⟩
  case round =>
    obtain ⟨t, ht, rfl, rfl, hbr⟩ := hrel
    have hc := (hbr.cell (p := ⟨R, 4, none⟩) hRw).trans HC4.out
    by_cases htl : t < eb.length
    · have HX := (HB.out.later hbr).okb eb[t] (List.getElem_mem htl)
      have hn := HB.out.nb t htl
      obtain ⟨g, hg1, hg2, hg3, hcc⟩ := HRB.out.resolve_left (by omega)
      have hce : ∀ k, k < 5 → wr.cell? ⟨g, t * 5 + k, none⟩ = some (eb[t].cells.getD k undef) := fun k hk => (hbr.cell (by exact hg3)).trans (hcc _ _ (flat_at eb t htl k hk))
      have j0 := hce 0 (by omega)
      have j1 := hce 1 (by omega)
      have j2 := hce 2 (by omega)
      have j3 := hce 3 (by omega)
      have j4 := hce 4 (by omega)
      simp [Ent.cells] at j0 j1 j2 j3 j4
      rw [hn] at j4
      obtain ⟨x0, x1, x2, x3⟩ := HX
      rw [hn] at x0 x1 x2 x3
      clear hce hcc hn
      have htl2 : (t : Int) < (eb.length : Int) := by omega
      rw [hg1] at hc
      generalize eb[t] = E at *
      obtain ⟨l, a, b, c, n⟩ := E
      simp only at j0 j1 j2 j3 x0 x1 x2 x3
      have z0 : ∃ p q r, l = .slice p q r := by obtain ⟨p, q, r, h, _⟩ := x0; exact ⟨p, q, r, h⟩
      have z1 : ∃ p q r, a = .slice p q r := by obtain ⟨p, q, r, h, _⟩ := x1; exact ⟨p, q, r, h⟩
      have z2 : ∃ p q r, b = .slice p q r := by obtain ⟨p, q, r, h, _⟩ := x2; exact ⟨p, q, r, h⟩
      have z3 : ∃ p q r, c = .slice p q r := by obtain ⟨p, q, r, h, _⟩ := x3; exact ⟨p, q, r, h⟩
      obtain ⟨p0, q0, r0, rfl⟩ := z0
      obtain ⟨p1, q1, r1, rfl⟩ := z1
      obtain ⟨p2, q2, r2, rfl⟩ := z2
      obtain ⟨p3, q3, r3, rfl⟩ := z3
      have hba := hbr.alloc hbr.size (Obj.cells #[Value.slice p0 q0 r0, Value.slice p1 q1 r1, Value.slice p2 q2 r2, Value.slice p3 q3 r3, Value.int IntKind.i64 t] 150)
      have hBa := Below.alloc (Below.refl wr.heap.size wr) (Nat.le_refl _) (Obj.cells #[Value.slice p0 q0 r0, Value.slice p1 q1 r1, Value.slice p2 q2 r2, Value.slice p3 q3 r3, Value.int IntKind.i64 t] 150)
      have hca : ∀ i, (wr.alloc (Obj.cells #[Value.slice p0 q0 r0, Value.slice p1 q1 r1, Value.slice p2 q2 r2, Value.slice p3 q3 r3, Value.int IntKind.i64 t] 150)).cell? ⟨wr.heap.size, i, none⟩ = #[Value.slice p0 q0 r0, Value.slice p1 q1 r1, Value.slice p2 q2 r2, Value.slice p3 q3 r3, Value.int IntKind.i64 t][i]? := fun i => World.cell?_alloc_at _ _ _ _ rfl
      have hsa : wr.heap.size < (wr.alloc (Obj.cells #[Value.slice p0 q0 r0, Value.slice p1 q1 r1, Value.slice p2 q2 r2, Value.slice p3 q3 r3, Value.int IntKind.i64 t] 150)).heap.size := by simp
      have y0 := x0.kept hBa.size (fun g _ h1 h2 => ⟨hBa.block g h1, h2⟩)
      have y1 := x1.kept hBa.size (fun g _ h1 h2 => ⟨hBa.block g h1, h2⟩)
      have y2 := x2.kept hBa.size (fun g _ h1 h2 => ⟨hBa.block g h1, h2⟩)
      have y3 := x3.kept hBa.size (fun g _ h1 h2 => ⟨hBa.block g h1, h2⟩)
      clear x0 x1 x2 x3
      go_wp2_with fail
      generalize (wr.alloc (Obj.cells #[Value.slice p0 q0 r0, Value.slice p1 q1 r1, Value.slice p2 q2 r2, Value.slice p3 q3 r3, Value.int IntKind.i64 t] 150)) = W0 at *
      clear hBa
      generalize wr.heap.size = X at *
      clear j0 j1 j2 j3 j4 hc
      refine (areBytes_any (.slice p0 q0 r0) t base _ _ (by omega) y0).mono ?_
      rintro e v0 ⟨rfl, hv0⟩
      have hb0 := hba.trans (hv0.mono hba.size)
      have hc0 : ∀ i, v0.cell? ⟨X, i, none⟩ = #[Value.slice p0 q0 r0, Value.slice p1 q1 r1, Value.slice p2 q2 r2, Value.slice p3 q3 r3, Value.int IntKind.i64 t][i]? := fun i => (hv0.cell (by exact hsa)).trans (hca i)
      have hs0 := Nat.lt_of_lt_of_le hsa hv0.size
      replace y1 := y1.kept hv0.size (fun g _ h1 h2 => ⟨hv0.block g h1, h2⟩)
      replace y2 := y2.kept hv0.size (fun g _ h1 h2 => ⟨hv0.block g h1, h2⟩)
      replace y3 := y3.kept hv0.size (fun g _ h1 h2 => ⟨hv0.block g h1, h2⟩)
      clear hca hv0 hsa
      go_wp2_with fail
      refine (areBytes_any (.slice p1 q1 r1) t base _ _ (by omega) y1).mono ?_
      rintro e v1 ⟨rfl, hv1⟩
      have hb1 := hb0.trans (hv1.mono hb0.size)
      have hc1 : ∀ i, v1.cell? ⟨X, i, none⟩ = #[Value.slice p0 q0 r0, Value.slice p1 q1 r1, Value.slice p2 q2 r2, Value.slice p3 q3 r3, Value.int IntKind.i64 t][i]? := fun i => (hv1.cell (by exact hs0)).trans (hc0 i)
      have hs1 := Nat.lt_of_lt_of_le hs0 hv1.size
      replace y2 := y2.kept hv1.size (fun g _ h1 h2 => ⟨hv1.block g h1, h2⟩)
      replace y3 := y3.kept hv1.size (fun g _ h1 h2 => ⟨hv1.block g h1, h2⟩)
      clear hc0 hv1 hs0
      go_wp2_with fail
      refine (areBytes_any (.slice p2 q2 r2) t base _ _ (by omega) y2).mono ?_
      rintro e v2 ⟨rfl, hv2⟩
      have hb2 := hb1.trans (hv2.mono hb1.size)
      have hc2 : ∀ i, v2.cell? ⟨X, i, none⟩ = #[Value.slice p0 q0 r0, Value.slice p1 q1 r1, Value.slice p2 q2 r2, Value.slice p3 q3 r3, Value.int IntKind.i64 t][i]? := fun i => (hv2.cell (by exact hs1)).trans (hc1 i)
      have hs2 := Nat.lt_of_lt_of_le hs1 hv2.size
      replace y3 := y3.kept hv2.size (fun g _ h1 h2 => ⟨hv2.block g h1, h2⟩)
      clear hc1 hv2 hs1
      go_wp2_with fail
      refine (areBytes_any (.slice p3 q3 r3) t base _ _ (by omega) y3).mono ?_
      rintro e v3 ⟨rfl, hv3⟩
      have hb3 := hb2.trans (hv3.mono hb2.size)
      have hc3 : ∀ i, v3.cell? ⟨X, i, none⟩ = #[Value.slice p0 q0 r0, Value.slice p1 q1 r1, Value.slice p2 q2 r2, Value.slice p3 q3 r3, Value.int IntKind.i64 t][i]? := fun i => (hv3.cell (by exact hs2)).trans (hc2 i)
      have hs3 := Nat.lt_of_lt_of_le hs2 hv3.size
      clear hc2 hv3 hs2
      go_wp2
      go_roundw
      case rel => exact ⟨t + 1, by omega, by go_num, rfl, hb3⟩
      case measure => simp [intOf]; omega
    · have hbo := hbr
      clear hc
      have hc := (hbr.cell (p := ⟨R, 4, none⟩) hRw).trans HC4.out
      go_wp2
      go_loopw [3, 6, 7] (fun okx ix _ wr => ∃ t : Nat, t ≤ ei.length ∧ ix = .int .i64 t ∧ okx = .bool true ∧ Below w.heap.size w wr) (fun _ ix _ _ => ei.length - (intOf ix).toNat)
      case atStart => exact ⟨0, by omega, rfl, rfl, hbo⟩
      case round =>
        obtain ⟨t, ht, rfl, rfl, hbr⟩ := hrel
        have hc := (hbr.cell (p := ⟨R, 5, none⟩) hRw).trans HC5.out
        by_cases htl : t < ei.length
        · have HX := (HB.out.later hbr).oki ei[t] (List.getElem_mem htl)
          have hn := HB.out.ni t htl
          obtain ⟨g, hg1, hg2, hg3, hcc⟩ := HRI.out.resolve_left (by omega)
          have hce : ∀ k, k < 5 → wr.cell? ⟨g, t * 5 + k, none⟩ = some (ei[t].cells.getD k undef) := fun k hk => (hbr.cell (by exact hg3)).trans (hcc _ _ (flat_at ei t htl k hk))
          have j0 := hce 0 (by omega)
          have j1 := hce 1 (by omega)
          have j2 := hce 2 (by omega)
          have j3 := hce 3 (by omega)
          have j4 := hce 4 (by omega)
          simp [Ent.cells] at j0 j1 j2 j3 j4
          rw [hn] at j4
          obtain ⟨x0, x1, x2, x3⟩ := HX
          rw [hn] at x0 x1 x2 x3
          clear hce hcc hn
          have htl2 : (t : Int) < (ei.length : Int) := by omega
          rw [hg1] at hc
          generalize ei[t] = E at *
          obtain ⟨l, a, b, c, n⟩ := E
          simp only at j0 j1 j2 j3 x0 x1 x2 x3
          have z0 : ∃ p q r, l = .slice p q r := by obtain ⟨p, q, r, h, _⟩ := x0; exact ⟨p, q, r, h⟩
          have z1 : ∃ p q r, a = .slice p q r := by obtain ⟨p, q, r, h, _⟩ := x1; exact ⟨p, q, r, h⟩
          have z2 : ∃ p q r, b = .slice p q r := by obtain ⟨p, q, r, h, _⟩ := x2; exact ⟨p, q, r, h⟩
          have z3 : ∃ p q r, c = .slice p q r := by obtain ⟨p, q, r, h, _⟩ := x3; exact ⟨p, q, r, h⟩
          obtain ⟨p0, q0, r0, rfl⟩ := z0
          obtain ⟨p1, q1, r1, rfl⟩ := z1
          obtain ⟨p2, q2, r2, rfl⟩ := z2
          obtain ⟨p3, q3, r3, rfl⟩ := z3
          have hba := hbr.alloc hbr.size (Obj.cells #[Value.slice p0 q0 r0, Value.slice p1 q1 r1, Value.slice p2 q2 r2, Value.slice p3 q3 r3, Value.int IntKind.i64 t] 153)
          have hBa := Below.alloc (Below.refl wr.heap.size wr) (Nat.le_refl _) (Obj.cells #[Value.slice p0 q0 r0, Value.slice p1 q1 r1, Value.slice p2 q2 r2, Value.slice p3 q3 r3, Value.int IntKind.i64 t] 153)
          have hca : ∀ i, (wr.alloc (Obj.cells #[Value.slice p0 q0 r0, Value.slice p1 q1 r1, Value.slice p2 q2 r2, Value.slice p3 q3 r3, Value.int IntKind.i64 t] 153)).cell? ⟨wr.heap.size, i, none⟩ = #[Value.slice p0 q0 r0, Value.slice p1 q1 r1, Value.slice p2 q2 r2, Value.slice p3 q3 r3, Value.int IntKind.i64 t][i]? := fun i => World.cell?_alloc_at _ _ _ _ rfl
          have hsa : wr.heap.size < (wr.alloc (Obj.cells #[Value.slice p0 q0 r0, Value.slice p1 q1 r1, Value.slice p2 q2 r2, Value.slice p3 q3 r3, Value.int IntKind.i64 t] 153)).heap.size := by simp
          have y0 := x0.kept hBa.size (fun g _ h1 h2 => ⟨hBa.block g h1, h2⟩)
          have y1 := x1.kept hBa.size (fun g _ h1 h2 => ⟨hBa.block g h1, h2⟩)
          have y2 := x2.kept hBa.size (fun g _ h1 h2 => ⟨hBa.block g h1, h2⟩)
          have y3 := x3.kept hBa.size (fun g _ h1 h2 => ⟨hBa.block g h1, h2⟩)
          clear x0 x1 x2 x3
          go_wp2_with fail
          generalize (wr.alloc (Obj.cells #[Value.slice p0 q0 r0, Value.slice p1 q1 r1, Value.slice p2 q2 r2, Value.slice p3 q3 r3, Value.int IntKind.i64 t] 153)) = W0 at *
          clear hBa
          generalize wr.heap.size = X at *
          clear j0 j1 j2 j3 j4 hc
          refine (areInts_any (.slice p0 q0 r0) t base _ _ (by omega) y0).mono ?_
          rintro e v0 ⟨rfl, hv0⟩
          have hb0 := hba.trans (hv0.mono hba.size)
          have hc0 : ∀ i, v0.cell? ⟨X, i, none⟩ = #[Value.slice p0 q0 r0, Value.slice p1 q1 r1, Value.slice p2 q2 r2, Value.slice p3 q3 r3, Value.int IntKind.i64 t][i]? := fun i => (hv0.cell (by exact hsa)).trans (hca i)
          have hs0 := Nat.lt_of_lt_of_le hsa hv0.size
          replace y1 := y1.kept hv0.size (fun g _ h1 h2 => ⟨hv0.block g h1, h2⟩)
          replace y2 := y2.kept hv0.size (fun g _ h1 h2 => ⟨hv0.block g h1, h2⟩)
          replace y3 := y3.kept hv0.size (fun g _ h1 h2 => ⟨hv0.block g h1, h2⟩)
          clear hca hv0 hsa
          go_wp2_with fail
          refine (areInts_any (.slice p1 q1 r1) t base _ _ (by omega) y1).mono ?_
          rintro e v1 ⟨rfl, hv1⟩
          have hb1 := hb0.trans (hv1.mono hb0.size)
          have hc1 : ∀ i, v1.cell? ⟨X, i, none⟩ = #[Value.slice p0 q0 r0, Value.slice p1 q1 r1, Value.slice p2 q2 r2, Value.slice p3 q3 r3, Value.int IntKind.i64 t][i]? := fun i => (hv1.cell (by exact hs0)).trans (hc0 i)
          have hs1 := Nat.lt_of_lt_of_le hs0 hv1.size
          replace y2 := y2.kept hv1.size (fun g _ h1 h2 => ⟨hv1.block g h1, h2⟩)
          replace y3 := y3.kept hv1.size (fun g _ h1 h2 => ⟨hv1.block g h1, h2⟩)
          clear hc0 hv1 hs0
          go_wp2_with fail
          refine (areInts_any (.slice p2 q2 r2) t base _ _ (by omega) y2).mono ?_
          rintro e v2 ⟨rfl, hv2⟩
          have hb2 := hb1.trans (hv2.mono hb1.size)
          have hc2 : ∀ i, v2.cell? ⟨X, i, none⟩ = #[Value.slice p0 q0 r0, Value.slice p1 q1 r1, Value.slice p2 q2 r2, Value.slice p3 q3 r3, Value.int IntKind.i64 t][i]? := fun i => (hv2.cell (by exact hs1)).trans (hc1 i)
          have hs2 := Nat.lt_of_lt_of_le hs1 hv2.size
          replace y3 := y3.kept hv2.size (fun g _ h1 h2 => ⟨hv2.block g h1, h2⟩)
          clear hc1 hv2 hs1
          go_wp2_with fail
          refine (areInts_any (.slice p3 q3 r3) t base _ _ (by omega) y3).mono ?_
          rintro e v3 ⟨rfl, hv3⟩
          have hb3 := hb2.trans (hv3.mono hb2.size)
          have hc3 : ∀ i, v3.cell? ⟨X, i, none⟩ = #[Value.slice p0 q0 r0, Value.slice p1 q1 r1, Value.slice p2 q2 r2, Value.slice p3 q3 r3, Value.int IntKind.i64 t][i]? := fun i => (hv3.cell (by exact hs2)).trans (hc2 i)
          have hs3 := Nat.lt_of_lt_of_le hs2 hv3.size
          clear hc2 hv3 hs2
          go_wp2
          go_roundw
          case rel => exact ⟨t + 1, by omega, by go_num, rfl, hb3⟩
          case measure => simp [intOf]; omega
        · have hc4 := (hbr.cell (p := ⟨R, 6, none⟩) hRw).trans HC6.out
          have hc5 := (hbr.cell (p := ⟨R, 7, none⟩) hRw).trans HC7.out
          have hc6 := (hbr.cell (p := ⟨R, 8, none⟩) hRw).trans HC8.out
          go_wp2
          refine wp_loop_rounds 1 ?_
          rw [rounds_succ]
          go_wp2
          refine wp_loop_rounds 1 ?_
          rw [rounds_succ]
          go_wp2
          refine wp_loop_rounds 1 ?_
          rw [rounds_succ]
          go_wp2
          go_ret
          exact ⟨rfl, hbr⟩

end Go.Proofs.YtdcainmlcpafbaaGreatDoor
