import Derived.Test.YtdcainmlcpafbaaGreatDoorA6
namespace Go.Proofs.YtdcainmlcpafbaaGreatDoor
open Go.RowKit

def readVals : Nat → List UInt8 → List Int → List UInt8 × List Int
  | 0, r, zs => (r, zs)
  | n + 1, r, zs => readVals n (dropNum r 8) (zs ++ [takeNum r 8])
/-- What guess holds: the rest, the numbers, the list. -/
structure Gs where
  rest : List UInt8
  nums : List Int
  vals : List Int
def gstep (st : Gs) (F : Nat) : Gs :=
  if F = 0 then st
  else if F = 9 then ⟨(readVals (takeNum st.rest 1).toNat (dropNum st.rest 1) st.vals).1, st.nums, (readVals (takeNum st.rest 1).toNat (dropNum st.rest 1) st.vals).2⟩
  else ⟨dropNum st.rest 8, st.nums.set F (takeNum st.rest 8), st.vals⟩
def gAt (k j : Nat) (rest : List UInt8) : Gs := ((rowOf k).take j).foldl gstep ⟨rest, List.replicate 10 0, []⟩
theorem gAt_succ (k j : Nat) (rest : List UInt8) (hk : k < 11) (hj : j < 5) : gAt k (j + 1) rest = gstep (gAt k j rest) (fieldAt k j) := by
  unfold gAt
  rw [rowOf_take k j hk hj, List.foldl_append]
  rfl
theorem gstep_len (st : Gs) (F : Nat) : (gstep st F).nums.length = st.nums.length := by
  unfold gstep
  split
  · rfl
  split
  · rfl
  · simp
theorem gAt_len (k j : Nat) (rest : List UInt8) : (gAt k j rest).nums.length = 10 := by
  unfold gAt
  have : ∀ (l : List Nat) (st : Gs), (l.foldl gstep st).nums.length = st.nums.length := by
    intro l
    induction l with
    | nil => intro st; rfl
    | cons f l ih => intro st; rw [List.foldl_cons, ih, gstep_len]
  rw [this]; rfl

theorem takeNum_one (bs : List UInt8) : ∃ K : Nat, takeNum bs 1 = (K : Int) ∧ K < 256 := by
  unfold takeNum
  split
  · exact ⟨0, rfl, by omega⟩
  · rename_i h
    match bs, h with
    | x :: r, _ =>
      refine ⟨x.toNat, ?_, x.toNat_lt⟩
      have hx := x.toNat_lt
      simp only [numVal, List.take_succ_cons, List.take_zero, natOf, List.foldl_cons, List.foldl_nil]
      rw [IntWalk.wrap64_in _ (by omega)]
      omega
theorem number1 (B lim : Nat) (v : Value) (bs : List UInt8) (w : World) (hlim : lim ≤ B)
    (hc : w.cell? ⟨B, 0, none⟩ = some v) (hf : w.frozen? ⟨B, 0, none⟩ = false) (hr : restAt w lim v bs) :
    Calls Tryz.prog 250 #[.pointer (some ⟨B, 0, none⟩), .int .i64 1] w fun e w' => e = .returned (.int .i64 (takeNum bs 1)) ∧ ∃ v', w'.cell? ⟨B, 0, none⟩ = some v' ∧ w'.frozen? ⟨B, 0, none⟩ = false ∧ restAt w' lim v' (dropNum bs 1) ∧ But B w w' :=
  number_any B lim v bs 1 w (by omega) (by omega) hlim hc hf hr
theorem number8 (B lim : Nat) (v : Value) (bs : List UInt8) (w : World) (hlim : lim ≤ B)
    (hc : w.cell? ⟨B, 0, none⟩ = some v) (hf : w.frozen? ⟨B, 0, none⟩ = false) (hr : restAt w lim v bs) :
    Calls Tryz.prog 250 #[.pointer (some ⟨B, 0, none⟩), .int .i64 8] w fun e w' => e = .returned (.int .i64 (takeNum bs 8)) ∧ ∃ v', w'.cell? ⟨B, 0, none⟩ = some v' ∧ w'.frozen? ⟨B, 0, none⟩ = false ∧ restAt w' lim v' (dropNum bs 8) ∧ But B w w' :=
  number_any B lim v bs 8 w (by omega) (by omega) hlim hc hf hr
theorem But.trans {B : Nat} {a b c : World} (h : But B a b) (k : But B b c) : But B a c :=
  ⟨k.os.trans h.os, k.tape.trans h.tape, k.output.trans h.output, k.size.trans h.size, fun i hi => (k.block i hi).trans (h.block i hi)⟩
theorem restAt.keep {w w' : World} {lim : Nat} {v : Value} {bs : List UInt8} (h : restAt w lim v bs) (hb : ∀ b o, b < lim → w'.cell? ⟨b, o, none⟩ = w.cell? ⟨b, o, none⟩) : restAt w' lim v bs := by
  obtain ⟨ao, cap, h1, h2, h3, h4⟩ := h
  refine ⟨ao, cap, h1, h2, h3, ?_⟩
  rcases h4 with h4 | ⟨g, off, e, hg, hc⟩
  · exact .inl h4
  · exact .inr ⟨g, off, e, hg, fun j hj => (hb g _ hg).trans (hc j hj)⟩

/-- What stays while guess reads: the reader, the result's cell, what was there before. -/
structure GI (w wr : World) (rest : List UInt8) : Prop where
  rd : ∃ v, wr.cell? ⟨w.heap.size + 1, 0, none⟩ = some v ∧ restAt wr w.heap.size v rest
  rf : wr.frozen? ⟨w.heap.size + 1, 0, none⟩ = false
  res : wr.heap[w.heap.size]? = some (.cells #[.int .i64 0, .int .i64 0, .int .i64 0, .int .i64 0, .int .i64 0, .int .i64 0, .int .i64 0, .int .i64 0, .int .i64 0, .int .i64 0, .slice none 0 0] 136 (0, 0))
  bel : Below w.heap.size w wr
  siz : w.heap.size + 2 ≤ wr.heap.size
theorem GI.read {w wr w' : World} {rest rest' : List UInt8} {v' : Value} (h : GI w wr rest) (hc : w'.cell? ⟨w.heap.size + 1, 0, none⟩ = some v') (hf : w'.frozen? ⟨w.heap.size + 1, 0, none⟩ = false) (hr : restAt w' w.heap.size v' rest') (hb : But (w.heap.size + 1) wr w') : GI w w' rest' :=
  ⟨⟨v', hc, hr⟩, hf, (hb.block _ (by omega)).trans h.res, h.bel.trans (hb.below (by omega)), by rw [hb.size]; exact h.siz⟩
theorem GI.later {w wr w' : World} {rest : List UInt8} (h : GI w wr rest) (hb : Below (w.heap.size + 2) wr w') : GI w w' rest := by
  obtain ⟨v, hc, hr⟩ := h.rd
  refine ⟨⟨v, (hb.cell (by show w.heap.size + 1 < _; omega)).trans hc, hr.keep fun b o hlt => hb.cell (p := ⟨b, o, none⟩) (by show b < _; omega)⟩, (hb.frozen (by show w.heap.size + 1 < _; omega)).trans h.rf, (hb.block _ (by omega)).trans h.res, h.bel.trans (hb.mono (by omega)), Nat.le_trans h.siz hb.size⟩
theorem cell_but {w w' : World} {B : Nat} (h : But B w w') {b o : Nat} (hb : b ≠ B) : w'.cell? ⟨b, o, none⟩ = w.cell? ⟨b, o, none⟩ := h.cell (p := ⟨b, o, none⟩) hb
def OwnI (w : World) (base : Nat) (v : Value) (zs : List Int) : Prop := w.ownsRow base 3 1 v zs.length (zs.map (Value.int .i64))
theorem But.grown {B : Nat} {w w' : World} (h : But B w w') : w.grownBy w' (some B) := ⟨h.os, h.tape, h.output, by rw [h.size]; exact Nat.le_refl _, fun k _ hk => h.block k (fun e => hk (by rw [e]))⟩
theorem OwnI.but {w w' : World} {base B : Nat} {v : Value} {zs : List Int} (h : OwnI w base v zs) (hb : But B w w') (hB : B < base) : OwnI w' base v zs :=
  World.ownsRow.kept h hb.grown (by
    right; intro e
    have := (World.ownsRow.lt h B e).1
    omega)
theorem OwnI.shape {w : World} {base : Nat} {v : Value} {zs : List Int} (h : OwnI w base v zs) : ∃ a c, v = .slice a zs.length c := by
  rcases h.2 with ⟨rfl, h0⟩ | ⟨g, cap, cur, rfl, _⟩
  · exact ⟨none, 0, by rw [h0]⟩
  · exact ⟨_, _, rfl⟩
theorem OwnI.low {w : World} {base base' : Nat} {v : Value} {zs : List Int} (h : OwnI w base v zs) (hb : base' ≤ base) : OwnI w base' v zs := by
  obtain ⟨h1, h2⟩ := h
  rcases h2 with h2 | ⟨g, cap, cur, hv, hg, r⟩
  · exact ⟨h1, .inl h2⟩
  · exact ⟨h1, .inr ⟨g, cap, cur, hv, by omega, r⟩⟩
theorem info3 : (Tryz.prog.info? 3).map (fun i => (i.zero, i.size, i.bytes)) = some (some (.int .i64 0), 1, 8) := by kernel_rfl

theorem put11 (w : World) (R : Nat) (x0 x1 x2 x3 x4 x5 x6 x7 x8 x9 x10 : Value) (hs : ∀ i, i < 11 → (w.cell? ⟨R, i, none⟩).isSome = true) :
    ∃ W, (((((((((((w.setCell ⟨R, 0, none⟩ x0).setCell ⟨R, 1, none⟩ x1).setCell ⟨R, 2, none⟩ x2).setCell ⟨R, 3, none⟩ x3).setCell ⟨R, 4, none⟩ x4).setCell ⟨R, 5, none⟩ x5).setCell ⟨R, 6, none⟩ x6).setCell ⟨R, 7, none⟩ x7).setCell ⟨R, 8, none⟩ x8).setCell ⟨R, 9, none⟩ x9).setCell ⟨R, 10, none⟩ x10) = W ∧ (W.cell? ⟨R, 0, none⟩ = some x0 ∧ W.cell? ⟨R, 1, none⟩ = some x1 ∧ W.cell? ⟨R, 2, none⟩ = some x2 ∧ W.cell? ⟨R, 3, none⟩ = some x3 ∧ W.cell? ⟨R, 4, none⟩ = some x4 ∧ W.cell? ⟨R, 5, none⟩ = some x5 ∧ W.cell? ⟨R, 6, none⟩ = some x6 ∧ W.cell? ⟨R, 7, none⟩ = some x7 ∧ W.cell? ⟨R, 8, none⟩ = some x8 ∧ W.cell? ⟨R, 9, none⟩ = some x9 ∧ W.cell? ⟨R, 10, none⟩ = some x10) ∧ But R w W ∧ ∀ B w0, B ≤ R → Below B w0 w → Below B w0 W := by
  refine ⟨_, rfl, ?_, ?_, ?_⟩
  · have hin := World.cell?_setCells_in R [x0, x1, x2, x3, x4, x5, x6, x7, x8, x9, x10] 0 w (fun j hj => by rw [Nat.zero_add]; exact hs j hj)
    exact ⟨hin 0 (by simp), hin 1 (by simp), hin 2 (by simp), hin 3 (by simp), hin 4 (by simp), hin 5 (by simp), hin 6 (by simp), hin 7 (by simp), hin 8 (by simp), hin 9 (by simp), hin 10 (by simp)⟩
  · exact (((((((((((But.setCell w ⟨R, 0, none⟩ x0).trans (But.setCell _ ⟨R, 1, none⟩ x1)).trans (But.setCell _ ⟨R, 2, none⟩ x2)).trans (But.setCell _ ⟨R, 3, none⟩ x3)).trans (But.setCell _ ⟨R, 4, none⟩ x4)).trans (But.setCell _ ⟨R, 5, none⟩ x5)).trans (But.setCell _ ⟨R, 6, none⟩ x6)).trans (But.setCell _ ⟨R, 7, none⟩ x7)).trans (But.setCell _ ⟨R, 8, none⟩ x8)).trans (But.setCell _ ⟨R, 9, none⟩ x9)).trans (But.setCell _ ⟨R, 10, none⟩ x10))
  · intro B w0 hB hb
    repeat (refine Below.setCell ?_ (show B ≤ R from hB) _)
    exact hb

theorem readVals_succ (t : Nat) : ∀ (r : List UInt8) (zs : List Int), readVals (t + 1) r zs = (dropNum (readVals t r zs).1 8, (readVals t r zs).2 ++ [takeNum (readVals t r zs).1 8]) := by
  induction t with
  | zero => intro r zs; rfl
  | succ t ih => intro r zs; exact ih (dropNum r 8) (zs ++ [takeNum r 8])
theorem readVals_len (t : Nat) : ∀ (r : List UInt8) (zs : List Int), (readVals t r zs).2.length = zs.length + t := by
  induction t with
  | zero => intro r zs; rfl
  | succ t ih => intro r zs; show (readVals t _ _).2.length = _; rw [ih]; simp; omega

def gKind (bs : List UInt8) : Int := takeNum bs 1
def gFrom (bs : List UInt8) : Int := takeNum (dropNum bs 1) 1
def gEnd (bs : List UInt8) : Gs := gAt (gKind bs).toNat 5 (dropNum (dropNum bs 1) 1)

set_option maxHeartbeats 1000000 in
set_option maxRecDepth 20000 in
theorem guess_far (bs : List UInt8) (v : Value) (w : World) (hr : restAt w w.heap.size v bs) (hK : 11 ≤ gKind bs) :
    Calls Tryz.prog 215 #[v] w fun e w' => e = .returned (.agg #[.int .i64 0, .int .i64 0, .int .i64 0, .int .i64 0, .int .i64 0, .int .i64 0, .int .i64 0, .int .i64 0, .int .i64 0, .int .i64 0, .slice none 0 0]) ∧ Below w.heap.size w w' := by
  have hv := hr
  obtain ⟨ao, cap, rfl, _, _, _⟩ := hv
  have hb0 : Below w.heap.size w ((w.alloc (Obj.cells #[Value.int IntKind.i64 0, Value.int IntKind.i64 0, Value.int IntKind.i64 0, Value.int IntKind.i64 0, Value.int IntKind.i64 0, Value.int IntKind.i64 0, Value.int IntKind.i64 0, Value.int IntKind.i64 0, Value.int IntKind.i64 0, Value.int IntKind.i64 0, Value.slice none 0 0] 136)).alloc (Obj.cells #[Value.slice ao bs.length cap] 334)) :=
    ((Below.refl _ _).alloc (Nat.le_refl _) _).alloc (by simp) _
  have hr0 := hr.keep fun b o hlt => hb0.cell (p := ⟨b, o, none⟩) hlt
  go_enter Tryz.func215, Tryz.ntmps215
  go_wp2_with fail
  refine (number1 (w.heap.size + 1) w.heap.size _ bs _ (by omega) (World.cell?_alloc_at _ _ _ _ (by simp)) (World.frozen?_alloc_at _ _ _ _ (by simp)) hr0).mono ?_
  rintro e w1 ⟨rfl, v1, hc1, hf1, hr1, hb1⟩
  go_wp2_with fail
  refine (number1 (w.heap.size + 1) w.heap.size v1 _ _ (by omega) hc1 hf1 hr1).mono ?_
  rintro e w2 ⟨rfl, v2, hc2, hf2, hr2, hb2⟩
  have hK' : 11 ≤ takeNum bs 1 := hK
  have hbt := hb1.trans hb2
  have hcR : ∀ i, w2.cell? ⟨w.heap.size, i, none⟩ = #[Value.int IntKind.i64 0, Value.int IntKind.i64 0, Value.int IntKind.i64 0, Value.int IntKind.i64 0, Value.int IntKind.i64 0, Value.int IntKind.i64 0, Value.int IntKind.i64 0, Value.int IntKind.i64 0, Value.int IntKind.i64 0, Value.int IntKind.i64 0, Value.slice none 0 0][i]? := fun i => by
    rw [hbt.cell (by show w.heap.size ≠ _; omega), World.cell?_alloc_past _ _ _ (by simp), World.cell?_alloc_at _ _ _ _ rfl]
  have hfR : ∀ i, w2.frozen? ⟨w.heap.size, i, none⟩ = false := fun i => by
    rw [hbt.frozen (by show w.heap.size ≠ _; omega), World.frozen?_alloc_past _ _ _ (by simp), World.frozen?_alloc_at _ _ _ _ rfl]
  have hbel : Below w.heap.size w w2 := hb0.trans (hbt.below (by omega))
  clear hb0 hr0 hr1 hr2 hb1 hb2 hbt hc1 hf1
  go_wp2
  obtain ⟨W, hW, ⟨c0, c1, c2, c3, c4, c5, c6, c7, c8, c9, c10⟩, hbut, hbl⟩ := put11 w2 w.heap.size (.int .i64 0) (.int .i64 0) (.int .i64 0) (.int .i64 0) (.int .i64 0) (.int .i64 0) (.int .i64 0) (.int .i64 0) (.int .i64 0) (.int .i64 0) (.slice none 0 0) (fun i hi => by rw [hcR]; simp; omega)
  rw [hW]
  clear hW hcR hfR hbut
  exact bodyPost_ret (v := .agg #[.int .i64 0, .int .i64 0, .int .i64 0, .int .i64 0, .int .i64 0, .int .i64 0, .int .i64 0, .int .i64 0, .int .i64 0, .int .i64 0, .slice none 0 0]) (by simp [results, Tryz.results215, go_sem, c0, c1, c2, c3, c4, c5, c6, c7, c8, c9, c10]) rfl ⟨rfl, hbl _ _ (Nat.le_refl _) hbel⟩

set_option maxHeartbeats 2000000 in
set_option maxRecDepth 20000 in
theorem guess_near (bs : List UInt8) (v : Value) (w : World) (ht : Tabs w) (hr : restAt w w.heap.size v bs) (hK : gKind bs < 11) :
    Calls Tryz.prog 215 #[v] w fun e w' => ∃ n1 n2 n3 n4 n5 n6 n7 n8 n0 n9 l, e = .returned (.agg #[.int .i64 (gKind bs), .int .i64 (gFrom bs), .int .i64 n1, .int .i64 n2, .int .i64 n3, .int .i64 n4, .int .i64 n5, .int .i64 n6, .int .i64 n7, .int .i64 n8, l]) ∧
      (gEnd bs).nums = [n0, n1, n2, n3, n4, n5, n6, n7, n8, n9] ∧ OwnI w' w.heap.size l (gEnd bs).vals ∧ Below w.heap.size w w' := by
  have tw := ht.two
  have hv := hr
  obtain ⟨ao, cap, rfl, _, _, _⟩ := hv
  have hb0 : Below w.heap.size w ((w.alloc (Obj.cells #[Value.int IntKind.i64 0, Value.int IntKind.i64 0, Value.int IntKind.i64 0, Value.int IntKind.i64 0, Value.int IntKind.i64 0, Value.int IntKind.i64 0, Value.int IntKind.i64 0, Value.int IntKind.i64 0, Value.int IntKind.i64 0, Value.int IntKind.i64 0, Value.slice none 0 0] 136)).alloc (Obj.cells #[Value.slice ao bs.length cap] 334)) :=
    ((Below.refl _ _).alloc (Nat.le_refl _) _).alloc (by simp) _
  have hr0 := hr.keep fun b o hlt => hb0.cell (p := ⟨b, o, none⟩) hlt
  have hg0 : GI w ((w.alloc (Obj.cells #[Value.int IntKind.i64 0, Value.int IntKind.i64 0, Value.int IntKind.i64 0, Value.int IntKind.i64 0, Value.int IntKind.i64 0, Value.int IntKind.i64 0, Value.int IntKind.i64 0, Value.int IntKind.i64 0, Value.int IntKind.i64 0, Value.int IntKind.i64 0, Value.slice none 0 0] 136)).alloc (Obj.cells #[Value.slice ao bs.length cap] 334)) bs :=
    ⟨⟨_, World.cell?_alloc_at _ _ _ _ (by simp), hr0⟩, World.frozen?_alloc_at _ _ _ _ (by simp), by rw [Below.heap_alloc _ _ _ (by simp)]; exact heap_alloc_new w _, hb0, by simp⟩
  have HE : Hid (gEnd bs = gAt (gKind bs).toNat 5 (dropNum (dropNum bs 1) 1)) := rfl
  obtain ⟨K, hKe, _⟩ := takeNum_one bs
  have HK : Hid (gKind bs = (K : Int)) := hKe
  have HKT : Hid (takeNum bs 1 = (K : Int)) := hKe
  have hK11 : K < 11 := by have := HK.out; omega
  have HF : Hid (gFrom bs = takeNum (dropNum bs 1) 1) := rfl
  clear hKe hK
  go_enter Tryz.func215, Tryz.ntmps215
  go_wp2_with fail
  refine (number1 (w.heap.size + 1) w.heap.size _ bs _ (by omega) (World.cell?_alloc_at _ _ _ _ (by simp)) (World.frozen?_alloc_at _ _ _ _ (by simp)) hr0).mono ?_
  rintro e w1 ⟨rfl, v1, hc1, hf1, hr1, hb1⟩
  have hg1 := hg0.read hc1 hf1 hr1 hb1
  rw [HKT.out]
  go_wp2_with fail
  refine (number1 (w.heap.size + 1) w.heap.size v1 _ _ (by omega) hc1 hf1 hr1).mono ?_
  rintro e w2 ⟨rfl, v2, hc2, hf2, hr2, hb2⟩
  have hg2 := hg1.read hc2 hf2 hr2 hb2
  clear hb0 hr0 hr1 hr2 hb1 hb2 hc1 hf1 hg0 hg1 hr hc2 hf2
  generalize takeNum (dropNum bs 1) 1 = FR at *
  generalize dropNum (dropNum bs 1) 1 = rest2 at *
  have tab2 : Tabs w2 := ht.below hg2.bel (by omega)
  have s2 := hg2.siz
  have t0 : 0 < w2.heap.size := by omega
  have t1 : 1 < w2.heap.size := by omega
  have r0 : w2.cell? ⟨0, K * 5, none⟩ = _ := tab2.fld K 0 (by omega) (by omega)
  have r1 := tab2.fld K 1 (by omega) (by omega)
  have r2 := tab2.fld K 2 (by omega) (by omega)
  have r3 := tab2.fld K 3 (by omega) (by omega)
  have r4 := tab2.fld K 4 (by omega) (by omega)
  have dk : decide ((11 : Int) ≤ (K : Int)) = false := by simp; omega
  go_wp2_with fail
  have hgi0 : GI w (w2.alloc (Obj.cells #[Value.int IntKind.i64 0, Value.int IntKind.i64 0, Value.int IntKind.i64 0, Value.int IntKind.i64 0, Value.int IntKind.i64 0, Value.int IntKind.i64 0, Value.int IntKind.i64 0, Value.int IntKind.i64 0, Value.int IntKind.i64 0, Value.int IntKind.i64 0] 298)) rest2 := hg2.later ((Below.refl _ _).alloc s2 _)
  have hnum0 := fun t ht => cells10 (w := w2) 0 0 0 0 0 0 0 0 0 0 t ht
  have hfrz0 : ∀ t, t < 10 → (w2.alloc (Obj.cells #[Value.int IntKind.i64 0, Value.int IntKind.i64 0, Value.int IntKind.i64 0, Value.int IntKind.i64 0, Value.int IntKind.i64 0, Value.int IntKind.i64 0, Value.int IntKind.i64 0, Value.int IntKind.i64 0, Value.int IntKind.i64 0, Value.int IntKind.i64 0] 298)).frozen? ⟨w2.heap.size, t, none⟩ = false := fun t _ => World.frozen?_alloc_at _ _ _ _ rfl
  have hsz0 : w2.heap.size + 1 ≤ (w2.alloc (Obj.cells #[Value.int IntKind.i64 0, Value.int IntKind.i64 0, Value.int IntKind.i64 0, Value.int IntKind.i64 0, Value.int IntKind.i64 0, Value.int IntKind.i64 0, Value.int IntKind.i64 0, Value.int IntKind.i64 0, Value.int IntKind.i64 0, Value.int IntKind.i64 0] 298)).heap.size := by simp
  generalize w2.alloc (Obj.cells #[Value.int IntKind.i64 0, Value.int IntKind.i64 0, Value.int IntKind.i64 0, Value.int IntKind.i64 0, Value.int IntKind.i64 0, Value.int IntKind.i64 0, Value.int IntKind.i64 0, Value.int IntKind.i64 0, Value.int IntKind.i64 0, Value.int IntKind.i64 0] 298) = W0 at *
  generalize w2.heap.size = N at *
  have HE2 : Hid (gEnd bs = gAt K 5 rest2) := by unfold Hid; rw [HE.out, HK.out]; rfl
  clear r0 r1 r2 r3 r4 tab2 hg2 HE HKT t0 t1
  obtain ⟨i3, hi3, hz0, hz1, hz2⟩ := info_parts info3
  go_loopw [7, 20] (fun l i wr => ∃ (j : Nat), j ≤ 5 ∧ i = .int .i64 j ∧ GI w wr (gAt K j rest2).rest ∧ (∀ t, t < 10 → wr.cell? ⟨N, t, none⟩ = some (.int .i64 ((gAt K j rest2).nums.getD t 0))) ∧ (∀ t, t < 10 → wr.frozen? ⟨N, t, none⟩ = false) ∧
      OwnI wr (N + 1) l (gAt K j rest2).vals ∧ N + 1 ≤ wr.heap.size ∧ (gAt K j rest2).vals.length ≤ 256 * j) (fun _ i _ => 5 - (intOf i).toNat)
  case atStart => exact ⟨0, by omega, rfl, hgi0, hnum0, hfrz0, World.ownsRow_nil _ _ _ _, hsz0, by simp [gAt]⟩
  case round =>
    obtain ⟨j, hj, rfl, hgi, hnum, hfrz, hown, hsz, hvl⟩ := hrel
    have hal := gAt_len K j rest2
    by_cases hlt : j < 5
    · have hidx : ∀ w, (Instr.index 301 (.agg #[.int .i64 (fieldAt K 0), .int .i64 (fieldAt K 1), .int .i64 (fieldAt K 2), .int .i64 (fieldAt K 3), .int .i64 (fieldAt K 4)]) (.int .i64 (j : Int))).run Tryz.prog w = .ok (.int .i64 (fieldAt K j)) w := idxField K j hlt
      have hF := fieldAt_lt K j hK11 hlt
      have HS : Hid (gAt K (j + 1) rest2 = gstep (gAt K j rest2) (fieldAt K j)) := gAt_succ K j rest2 hK11 hlt
      have hfF := hfrz (fieldAt K j) hF
      have hcF := hnum (fieldAt K j) hF
      have HC : Hid _ := hnum
      have HZ : Hid _ := hfrz
      clear hnum hfrz
      generalize fieldAt K j = F at *
      generalize gAt K j rest2 = st at *
      obtain ⟨rv, hrc, hrr⟩ := hgi.rd
      have hrf := hgi.rf
      by_cases hF0 : F = 0
      · subst hF0
        go_wp2
        go_roundw
        case rel =>
          have e : gAt K (j + 1) rest2 = st := HS.out
          exact ⟨j + 1, by omega, by go_num, by rw [e]; exact hgi, by rw [e]; exact HC.out, HZ.out, by rw [e]; exact hown, hsz, by rw [e]; omega⟩
        case measure => simp [intOf]; omega
      by_cases hF9 : F = 9
      · subst hF9
        obtain ⟨C, hC, hC256⟩ := takeNum_one st.rest
        have HCN : Hid (takeNum st.rest 1 = (C : Int)) := hC
        clear hC
        go_wp2_with fail
        refine (number1 (w.heap.size + 1) w.heap.size rv st.rest _ (by omega) hrc hrf hrr).mono ?_
        rintro r w5 ⟨rfl, v5, hc5, hf5, hr5, hb5⟩
        have hgi5 := hgi.read hc5 hf5 hr5 hb5
        have hown5 := hown.but hb5 (by omega)
        have hnN : N ≠ w.heap.size + 1 := by omega
        have HC5 : Hid (∀ t, t < 10 → w5.cell? ⟨N, t, none⟩ = some (.int .i64 (st.nums.getD t 0))) := fun t ht => (hb5.cell (by exact hnN)).trans (HC.out t ht)
        have HZ5 : Hid (∀ t, t < 10 → w5.frozen? ⟨N, t, none⟩ = false) := fun t ht => (hb5.frozen (by exact hnN)).trans (HZ.out t ht)
        have hs5 : N + 1 ≤ w5.heap.size := by rw [hb5.size]; exact hsz
        rw [HCN.out]
        have HS2 : Hid (gAt K (j + 1) rest2 = ⟨(readVals C (dropNum st.rest 1) st.vals).1, st.nums, (readVals C (dropNum st.rest 1) st.vals).2⟩) := by
          unfold Hid; rw [HS.out]; unfold gstep; rw [if_neg (by omega), if_pos rfl, HCN.out]; rfl
        clear hcF hfF hrc hrf hrr hc5 hf5 hr5 hb5 HC HZ hgi hown HS HCN hgi0 hnum0 hfrz0 hsz0
        generalize dropNum st.rest 1 = rest5 at *
        go_wp2_with fail
        go_loopw [7, 32] (fun l i wr => ∃ (t : Nat), t ≤ C ∧ i = .int .i64 t ∧ GI w wr (readVals t rest5 st.vals).1 ∧ (∀ t, t < 10 → wr.cell? ⟨N, t, none⟩ = some (.int .i64 (st.nums.getD t 0))) ∧ (∀ t, t < 10 → wr.frozen? ⟨N, t, none⟩ = false) ∧
          OwnI wr (N + 1) l (readVals t rest5 st.vals).2 ∧ N + 1 ≤ wr.heap.size) (fun _ i _ => C - (intOf i).toNat)
        case atStart => exact ⟨0, by omega, rfl, hgi5, HC5.out, HZ5.out, hown5, hs5⟩
        case round =>
          clear hgi5 HC5 HZ5 hown5 hs5
          obtain ⟨t, htC, rfl, hgi6, hnum6, hfrz6, hown6, hs6⟩ := hrel
          have hvl6 := readVals_len t rest5 st.vals
          by_cases htl : t < C
          · have HR : Hid _ := readVals_succ t rest5 st.vals
            generalize readVals t rest5 st.vals = pr at *
            obtain ⟨rv6, hrc6, hrr6⟩ := hgi6.rd
            have hrf6 := hgi6.rf
            have HC6 : Hid _ := hnum6
            have HZ6 : Hid _ := hfrz6
            clear hnum6 hfrz6
            go_wp2_with fail
            refine (number8 (w.heap.size + 1) w.heap.size rv6 pr.1 _ (by omega) hrc6 hrf6 hrr6).mono ?_
            rintro r w7 ⟨rfl, v7, hc7, hf7, hr7, hb7⟩
            have hgi7 := hgi6.read hc7 hf7 hr7 hb7
            have hown7 := hown6.but hb7 (by omega)
            have HC7 : Hid (∀ t, t < 10 → w7.cell? ⟨N, t, none⟩ = some (.int .i64 (st.nums.getD t 0))) := fun t ht => (hb7.cell (by exact hnN)).trans (HC6.out t ht)
            have HZ7 : Hid (∀ t, t < 10 → w7.frozen? ⟨N, t, none⟩ = false) := fun t ht => (hb7.frozen (by exact hnN)).trans (HZ6.out t ht)
            have hs7 : N + 1 ≤ w7.heap.size := by rw [hb7.size]; exact hs6
            clear hrc6 hrf6 hrr6 hc7 hf7 hr7 hb7 HC6 HZ6 hgi6 hown6
            generalize takeNum pr.1 8 = TN at *
            generalize dropNum pr.1 8 = R7 at *
            obtain ⟨pr1, pr2⟩ := pr
            dsimp only at hown7 HR hvl6
            go_wp2_with (at_builtin; refine wpList_append_own _ rfl _ _ 59 rfl (N + 1) 3 i3 (.int .i64 0) 1 8 Tryz.underlying59 hi3 hz0 hz1 hz2 rfl (by decide) _ _ _ rfl (World.ownsRow.alloc hown7 _) ⟨w7.heap.size, 0, none⟩ 1 1 [.int .i64 TN] rfl rfl (cell_one_new _ _ _) ?c2 ?c3 ?c4 ?c5 ?_)
            case c2 => intro u hu; simp at hu; subst hu; rfl
            case c3 => unfold maxLen; omega
            case c4 => omega
            case c5 => simp; omega
            · intro v' w9 ho' hg _
              have ho2 : OwnI w9 (N + 1) v' (pr2 ++ [TN]) := by
                unfold OwnI
                rw [List.length_append, List.map_append, hvl6]
                exact ho'
              have hbb : Below (N + 1) w7 w9 := ((Below.refl _ _).alloc hs7 _).grown hg (by simp; omega) (fun g hg => (World.ownsRow.lt hown7 g hg).1)
              have hgi9 := hgi7.later (hbb.mono (by omega))
              have hs9 : N + 1 ≤ w9.heap.size := Nat.le_trans hs7 hbb.size
              have HC9 : Hid (∀ t, t < 10 → w9.cell? ⟨N, t, none⟩ = some (.int .i64 (st.nums.getD t 0))) := fun t ht => (hbb.cell (by show N < N + 1; omega)).trans (HC7.out t ht)
              have HZ9 : Hid (∀ t, t < 10 → w9.frozen? ⟨N, t, none⟩ = false) := fun t ht => (hbb.frozen (by show N < N + 1; omega)).trans (HZ7.out t ht)
              clear ho' hg hown7 hgi7 HC7 HZ7 hs7 hbb
              go_wp2
              go_roundw
              case rel => exact ⟨t + 1, by omega, by go_num, by rw [HR.out]; exact hgi9, HC9.out, HZ9.out, by rw [HR.out]; exact ho2, hs9⟩
              case measure => simp [intOf]; omega
          · have htC2 : t = C := by omega
            subst htC2
            clear hvl6
            have hvl7 := readVals_len t rest5 st.vals
            have HV : Hid _ := hvl7
            clear hvl7
            go_wp2
            go_roundw
            case rel =>
              refine ⟨j + 1, by omega, by go_num, by rw [HS2.out]; exact hgi6, by rw [HS2.out]; exact hnum6, hfrz6, by rw [HS2.out]; exact hown6, hs6, by rw [HS2.out]; show (readVals t rest5 st.vals).2.length ≤ _; rw [HV.out]; omega⟩
            case measure => simp [intOf]; omega
      · have n0 : ((F : Int) == 0) = false := by simp; omega
        have n9 : ((F : Int) == 9) = false := by simp; omega
        go_wp2_with fail
        refine (number8 (w.heap.size + 1) w.heap.size rv st.rest _ (by omega) hrc hrf hrr).mono ?_
        rintro r w5 ⟨rfl, v5, hc5, hf5, hr5, hb5⟩
        have hgi5 := hgi.read hc5 hf5 hr5 hb5
        have hown5 := hown.but hb5 (by omega)
        have hnN : N ≠ w.heap.size + 1 := by omega
        have HC5 : Hid (∀ t, t < 10 → w5.cell? ⟨N, t, none⟩ = some (.int .i64 (st.nums.getD t 0))) := fun t ht => (hb5.cell (by exact hnN)).trans (HC.out t ht)
        have HZ5 : Hid (∀ t, t < 10 → w5.frozen? ⟨N, t, none⟩ = false) := fun t ht => (hb5.frozen (by exact hnN)).trans (HZ.out t ht)
        have hcF5 := HC5.out F hF
        have hfF5 := HZ5.out F hF
        have hs5 : w5.heap.size = wr.heap.size := hb5.size
        clear hcF hfF hrc hrf hrr hc5 hf5 hr5 hb5 HC HZ hgi hown
        generalize hTN : takeNum st.rest 8 = TN at *
        have HTN : Hid (takeNum st.rest 8 = TN) := hTN
        clear hTN
        go_wp2
        go_roundw
        case rel =>
          have e : gAt K (j + 1) rest2 = ⟨dropNum st.rest 8, st.nums.set F TN, st.vals⟩ := by
            rw [HS.out, ← HTN.out]; unfold gstep; rw [if_neg hF0, if_neg hF9]
          refine ⟨j + 1, by omega, by go_num, by rw [e]; exact hgi5.later ((Below.refl _ _).setCell (by show w.heap.size + 2 ≤ N; omega) _), by rw [e]; exact cells_set hal F hF TN (fun _ => rfl) HC5.out, fun t ht => by simpa using HZ5.out t ht, by rw [e]; exact ownsRow_setCell_below hown5 (by show N < N + 1; omega) _, by simp [World.setCell]; omega, by rw [e]; show st.vals.length ≤ _; omega⟩
        case measure => simp [intOf]; omega
    · have hj5 : j = 5 := by omega
      subst hj5
      rw [← HE2.out] at hgi hnum hown hal
      generalize hEq : gEnd bs = st at *
      obtain ⟨sr, sn, sv⟩ := st
      have HEq : Hid (gEnd bs = ⟨sr, sn, sv⟩) := hEq
      clear hEq
      dsimp only at hgi hnum hown hal
      obtain ⟨la, lc, rfl⟩ := hown.shape
      match sn, hal with
      | [n0, n1, n2, n3, n4, n5, n6, n7, n8, n9], _ =>
        have c0 : wr.cell? ⟨N, 0, none⟩ = some (.int .i64 n0) := hnum 0 (by omega)
        have c1 : wr.cell? ⟨N, 1, none⟩ = some (.int .i64 n1) := hnum 1 (by omega)
        have c2 : wr.cell? ⟨N, 2, none⟩ = some (.int .i64 n2) := hnum 2 (by omega)
        have c3 : wr.cell? ⟨N, 3, none⟩ = some (.int .i64 n3) := hnum 3 (by omega)
        have c4 : wr.cell? ⟨N, 4, none⟩ = some (.int .i64 n4) := hnum 4 (by omega)
        have c5 : wr.cell? ⟨N, 5, none⟩ = some (.int .i64 n5) := hnum 5 (by omega)
        have c6 : wr.cell? ⟨N, 6, none⟩ = some (.int .i64 n6) := hnum 6 (by omega)
        have c7 : wr.cell? ⟨N, 7, none⟩ = some (.int .i64 n7) := hnum 7 (by omega)
        have c8 : wr.cell? ⟨N, 8, none⟩ = some (.int .i64 n8) := hnum 8 (by omega)
        have c9 : wr.cell? ⟨N, 9, none⟩ = some (.int .i64 n9) := hnum 9 (by omega)
        clear hnum hfrz HE2 hgi0 hnum0 hfrz0 hsz0
        go_wp2_with fail
        refine (message_any _ _ _ _ _ _ _ _ _ _ _ _ _ _ _ _).mono ?_
        rintro r w8 ⟨rfl, hb8⟩
        have hg8 : GI w w8 sr := hgi.later (hb8.mono (by have := hgi.siz; omega))
        have hcR : ∀ i, w8.cell? ⟨w.heap.size, i, none⟩ = #[Value.int IntKind.i64 0, Value.int IntKind.i64 0, Value.int IntKind.i64 0, Value.int IntKind.i64 0, Value.int IntKind.i64 0, Value.int IntKind.i64 0, Value.int IntKind.i64 0, Value.int IntKind.i64 0, Value.int IntKind.i64 0, Value.int IntKind.i64 0, Value.slice none 0 0][i]? := fun i => by
          simp [World.cell?, hg8.res]
        have hfR : ∀ i, w8.frozen? ⟨w.heap.size, i, none⟩ = false := fun i => by
          simp [World.frozen?, hg8.res]
        clear c0 c1 c2 c3 c4 c5 c6 c7 c8 c9
        go_wp2
        obtain ⟨W, hW, ⟨c0, c1, c2, c3, c4, c5, c6, c7, c8, c9, c10⟩, hbut, hbl⟩ := put11 w8 w.heap.size (.int .i64 K) (.int .i64 FR) (.int .i64 n1) (.int .i64 n2) (.int .i64 n3) (.int .i64 n4) (.int .i64 n5) (.int .i64 n6) (.int .i64 n7) (.int .i64 n8) (.slice la sv.length lc) (fun i hi => by rw [hcR]; simp; omega)
        have hown8 : OwnI w8 (N + 1) (.slice la sv.length lc) sv := World.ownsRow.kept hown ⟨hb8.os, hb8.tape, hb8.output, hb8.size, fun k hk _ => hb8.block k hk⟩ (row := none) (by simp [Value.ownBlock]; cases la <;> simp)
        have hownW := (hown8.but hbut (by omega)).low (show w.heap.size ≤ N + 1 by omega)
        have hbelW := hbl _ _ (Nat.le_refl _) hg8.bel
        rw [hW]
        clear hW hcR hfR hbut hown8 hown hb8 hg8 hgi
        exact bodyPost_ret (v := .agg #[.int .i64 K, .int .i64 FR, .int .i64 n1, .int .i64 n2, .int .i64 n3, .int .i64 n4, .int .i64 n5, .int .i64 n6, .int .i64 n7, .int .i64 n8, .slice la sv.length lc]) (by simp [results, Tryz.results215, go_sem, c0, c1, c2, c3, c4, c5, c6, c7, c8, c9, c10]) rfl
          ⟨n1, n2, n3, n4, n5, n6, n7, n8, n0, n9, .slice la sv.length lc, by rw [HK.out, HF.out], by rw [HEq.out], by rw [HEq.out]; exact hownW, hbelW⟩

end Go.Proofs.YtdcainmlcpafbaaGreatDoor
