import Derived.Test.YtdcainmlcpafbaaGreatDoorG3
import Derived.Deep.RegionLaw
set_option linter.unusedSimpArgs false
set_option linter.unusedVariables false
namespace Go.Proofs.YtdcainmlcpafbaaGreatDoor
open Go.RowKit

theorem info105 : (Tryz.prog.info? 150).map (fun i => (i.zero, i.size, i.bytes)) = some (some (.agg #[.slice none 0 0, .slice none 0 0, .slice none 0 0, .slice none 0 0, .int .i64 0]), 5, 104) := by kernel_rfl
theorem info108 : (Tryz.prog.info? 153).map (fun i => (i.zero, i.size, i.bytes)) = some (some (.agg #[.slice none 0 0, .slice none 0 0, .slice none 0 0, .slice none 0 0, .int .i64 0]), 5, 104) := by kernel_rfl
theorem mark_at (n : Nat) (z : Int) (i : Nat) (w : World) (hz : z = i) (hn : n ≤ 4611686018427387904) (hi : i ≤ 4611686018427387904) : Calls Tryz.prog 128 #[.int .i64 n, .int .i64 z] w fun e w' => e = .returned (.int .u8 (mk n i)) ∧ w' = w := by
  subst hz
  exact mark_any n i w hn hi
theorem vB_one (n j : Nat) : (vB n j).oneCell' = true := rfl
theorem vI_one (n j : Nat) : (vI n j).oneCell' = true := rfl
theorem grown_setCell (w : World) (a : Addr) (u : Value) : w.grownBy (w.setCell a u) (some a.block) :=
  have h := But.setCell w a u
  ⟨h.os, h.tape, h.output, Nat.le_of_eq h.size.symm, fun k _ hk => h.block k (fun e => hk (by rw [e]))⟩
theorem size_setCell (w : World) (a : Addr) (u : Value) : (w.setCell a u).heap.size = w.heap.size := (But.setCell w a u).size

/-- Where the books' new entry stands while it is made. -/
structure KS (e : TypeId) (low : Nat) (w1 : World) (l : Value) (len : Nat) (xs : List Value) (wk : World) (cs : List Value) : Prop where
  own : wk.ownsRow low e 1 l len xs
  box : ∀ i, wk.cell? ⟨w1.heap.size, i, none⟩ = cs[i]?
  free : ∀ i, wk.frozen? ⟨w1.heap.size, i, none⟩ = false
  gr : w1.grownBy wk l.ownBlock
  lt : w1.heap.size < wk.heap.size
  off : l.ownBlock ≠ some w1.heap.size
structure AM (low : Nat) (w1 : World) (l : Value) (val : Nat → Value) (k : Nat) (wk : World) (g : Nat) : Prop where
  low : low ≤ g
  lt : g < wk.heap.size
  ne : g ≠ w1.heap.size
  is : l.ownBlock = some g ∨ w1.heap.size ≤ g
  ma : MA val wk g k
section
variable {e : TypeId} {low : Nat} {w1 : World} {l : Value} {len : Nat} {xs : List Value} {wk : World} {cs : List Value}
theorem KS.spot (h : KS e low w1 l len xs wk cs) (o : Obj) {w4 : World} (hg : (wk.alloc o).grownBy w4 l.ownBlock) :
    (∀ i, w4.cell? ⟨w1.heap.size, i, none⟩ = cs[i]?) ∧ (∀ i, w4.frozen? ⟨w1.heap.size, i, none⟩ = false) := by
  have hb : w4.heap[w1.heap.size]? = wk.heap[w1.heap.size]? := (hg.block _ (by have := h.lt; simp; omega) (Ne.symm h.off)).trans (heap_alloc_old wk o h.lt)
  exact ⟨fun i => (World.cell?_of_block (w := wk) (a := ⟨w1.heap.size, i, none⟩) hb).trans (h.box i), fun i => (World.frozen?_of_block (w := wk) (a := ⟨w1.heap.size, i, none⟩) hb).trans (h.free i)⟩
theorem KS.next (h : KS e low w1 l len xs wk cs) (o : Obj) {w4 : World} (hown : w4.ownsRow low e 1 l len xs) (hg : (wk.alloc o).grownBy w4 l.ownBlock) (idx : Nat) (hi : idx < cs.length) (v : Value) :
    KS e low w1 l len xs (w4.setCell ⟨w1.heap.size, idx, none⟩ v) (cs.set idx v) := by
  obtain ⟨hc, hf⟩ := h.spot o hg
  have hgs := grown_setCell w4 ⟨w1.heap.size, idx, none⟩ v
  refine ⟨hown.kept hgs (by by_cases hn : l.ownBlock = none; exact .inl hn; exact .inr h.off), fun i => ?_, fun i => ?_, ?_, ?_, h.off⟩
  · by_cases hii : i = idx
    · subst hii
      rw [World.cell?_setCell_same _ _ _ ((hc i).trans (List.getElem?_eq_getElem hi)), List.getElem?_set_self hi]
    · rw [World.cell?_setCell_other _ _ _ _ (by intro hh; have := congrArg Addr.off hh; simp at this; omega), hc, List.getElem?_set_ne (by omega)]
  · rw [World.frozen?_setCell]; exact hf i
  · refine ⟨hgs.os.trans (hg.os.trans h.gr.os), hgs.tape.trans (hg.tape.trans h.gr.tape), hgs.output.trans (hg.output.trans h.gr.output), ?_, fun k hk hne => ?_⟩
    · have := h.gr.size; have := hg.size; have := hgs.size; simp at *; omega
    · have hk2 := h.gr.size
      refine (hgs.block k (by have := hg.size; simp at this; omega) (by simp; omega)).trans ((hg.block k (by simp; omega) hne).trans ((heap_alloc_old wk o (by omega)).trans (h.gr.block k hk hne)))
  · have := h.lt; have := hg.size; rw [size_setCell]; simp at *; omega
theorem AM.next {val : Nat → Value} {k n m g : Nat} (h : AM low w1 l val k wk g) (o : Obj) {w4 : World} (hsz : wk.heap.size + 1 ≤ w4.heap.size) {N : Nat} (hN : wk.heap.size ≤ N) (hma : ∀ ga k, ga < N → k ≤ n + m → MA val (wk.alloc o) ga k → MA val w4 ga k) (hk : k ≤ n + m) (idx : Nat) (v : Value) :
    AM low w1 l val k (w4.setCell ⟨w1.heap.size, idx, none⟩ v) g := by
  refine ⟨h.low, by rw [size_setCell]; have := h.lt; omega, h.ne, h.is, fun j hj => ?_⟩
  rw [World.cell?_setCell_other _ _ _ _ (by intro hh; have := congrArg Addr.block hh; simp at this; exact h.ne this.symm)]
  exact hma g k (by have := h.lt; omega) hk (fun j hj => (World.cell?_alloc_past _ _ _ h.lt).trans (h.ma j hj)) j hj
theorem AM.new {val : Nat → Value} {k g : Nat} (hKS : KS e low w1 l len xs wk cs) {w4 : World} (h1 : low ≤ g) (h2 : g < w4.heap.size) (h3 : l.ownBlock = some g ∨ wk.heap.size + 1 ≤ g) (hm : MA val w4 g k) (idx : Nat) (v : Value) :
    AM low w1 l val k (w4.setCell ⟨w1.heap.size, idx, none⟩ v) g := by
  have hne : g ≠ w1.heap.size := by
    rcases h3 with h | h
    · intro hh; subst hh; exact hKS.off h
    · have := hKS.lt; omega
  refine ⟨h1, by rw [size_setCell]; exact h2, hne, ?_, fun j hj => ?_⟩
  · rcases h3 with h | h
    · exact .inl h
    · have := hKS.lt; exact .inr (by omega)
  · rw [World.cell?_setCell_other _ _ _ _ (by intro hh; have := congrArg Addr.block hh; simp at this; exact hne this.symm)]
    exact hm j hj
end
theorem step_append_keep {P : Program} {ops : Array Oper} {o : Oper} {a : Act} {w : World} {K : Act → World → Prop} {Q : Exit → Act → World → Prop} {E : Prop}
    (hg : o.guard = none) (s x : Operand) (t : TypeId) (hop : o.op = Op.call { callee := Callee.builtin Builtin.append, args := #[s, x], argTypes := #[t, t] })
    (base : Nat) (e : TypeId) (i : TypeInfo) (z : Value) (size bytes : Nat) (h1 : P.underlying t = some (.slice e)) (h2 : P.info? e = some i) (h3 : i.zero = some z) (h4 : i.size = size) (h5 : i.bytes = bytes) (h6 : z.cells.size = size) (h7 : 0 < size)
    (v : Value) (n : Nat) (xs : List Value) (hs : a.eval s = v) (hown : w.ownsRow base e size v n xs)
    (ad : Addr) (m c : Nat) (news : List Value) (hm0 : 0 < m) (hx : a.eval x = .slice (some ad) m c) (hn : news.length = m * size) (hc : ∀ j u, news[j]? = some u → w.cell? (ad.add j) = some u) (h1c : ∀ u ∈ news, u.oneCell' = true)
    (b1 : n + m ≤ maxLen) (b2 : (n + m) * bytes ≤ 140737488355328) (hbase : base ≤ w.heap.size)
    (hK : ∀ v' w', w'.ownsRow base e size v' (n + m) (xs ++ news) → w.grownBy w' v.ownBlock → (∃ g', v'.ownBlock = some g' ∧ (v.ownBlock = some g' ∨ w.heap.size ≤ g' ∧ w.grownBy w' none)) → K (a.put o.dst v') w') :
    if Region.wanted o (yielded ops a.tmps) = true then Oper.wp P o a w K Q else E := by
  have hw : Region.wanted o (yielded ops a.tmps) = true := by simp [Region.wanted, hg]
  rw [if_pos hw]
  obtain ⟨v', w', hrun, r1, r2, _, r3⟩ := run_append_keep (P := P) w base t o.type e i z size bytes h1 h2 h3 h4 h5 h6 h7 v n xs hown ad m c news hm0 hn hc h1c b1 b2 hbase
  unfold Oper.wp
  simp only [execOp, hop, resolve, invoke, builtin, Sem.run_bind, Sem.run_pure, Result.andThen_ok, List.map_toArray, List.map_cons, List.map_nil, hs, hx, hrun]
  exact hK v' w' r1 r2 r3
theorem shape_of {w : World} {base : Nat} {e : TypeId} {size : Nat} {v : Value} {n : Nat} {xs : List Value} (h : w.ownsRow base e size v n xs) : ∃ a c, v = .slice a n c := by
  rcases h.2 with ⟨rfl, rfl⟩ | ⟨g, cap, cur, rfl, _⟩
  · exact ⟨_, _, rfl⟩
  · exact ⟨_, _, rfl⟩
theorem Books.pushB {ext : Nat → Prop} {y w' : World} {base R : Nat} {vb vi vb' : Value} {eb ei : List Ent} (h : Books ext y base R vb vi eb ei) (en : Ent) (hn : en.n = eb.length) (ho : w'.ownsRow base 150 5 vb' (eb.length + 1) (eb.flatMap Ent.cells ++ en.cells)) (hg : y.grownBy w' vb.ownBlock)
    (hv : ∃ g, vb'.ownBlock = some g ∧ (vb.ownBlock = some g ∨ y.heap.size ≤ g)) (hen : entOk vB y base (badOf ext vb vi) en) (hext : ∀ g, y.heap.size ≤ g → ¬ ext g) (hsm : eb.length + ei.length < 4194304) : Books ext (w'.setCell ⟨R, 4, none⟩ vb') base R vb' vi (eb ++ [en]) ei := by
  have hR : R < y.heap.size := Nat.lt_of_lt_of_le h.lt h.le
  have hRo : some R ≠ vb.ownBlock := fun hh => by have := (h.ob.lt R hh.symm).1; have := h.lt; omega
  have hRb := hg.block R hR hRo
  have hgs := grown_setCell w' ⟨R, 4, none⟩ vb'
  have hsz := hg.size
  have hcell : ∀ i, w'.cell? ⟨R, i, none⟩ = y.cell? ⟨R, i, none⟩ := fun i => World.cell?_of_block (w := y) (a := ⟨R, i, none⟩) hRb
  have hoth : ∀ i, i ≠ 4 → (w'.setCell ⟨R, 4, none⟩ vb').cell? ⟨R, i, none⟩ = y.cell? ⟨R, i, none⟩ := fun i hi => (World.cell?_setCell_other _ _ _ _ (by intro hh; have := congrArg Addr.off hh; simp at this; omega)).trans (hcell i)
  have hblk : ∀ g, base ≤ g → g < y.heap.size → some g ≠ vb.ownBlock → (w'.setCell ⟨R, 4, none⟩ vb').heap[g]? = y.heap[g]? := fun g h1 h2 h3 => (hgs.block g (by omega) (by have := h.lt; simp; omega)).trans (hg.block g h2 h3)
  obtain ⟨gv, hgv, hgv2⟩ := hv
  have hbad : ∀ g, base ≤ g → g < y.heap.size → ¬ badOf ext vb vi g → (w'.setCell ⟨R, 4, none⟩ vb').heap[g]? = y.heap[g]? ∧ ¬ badOf ext vb' vi g := by
    intro g h1 h2 h3
    refine ⟨hblk g h1 h2 (fun hh => h3 (.inl hh)), ?_⟩
    rintro (hh | hh | hh)
    · rw [hgv] at hh
      obtain rfl : g = gv := by simpa using hh
      rcases hgv2 with h4 | h4
      · exact h3 (.inl h4.symm)
      · omega
    · exact h3 (.inr (.inl hh))
    · exact h3 (.inr (.inr hh))
  have hgrown : y.grownBy (w'.setCell ⟨R, 4, none⟩ vb') vb.ownBlock → True := fun _ => trivial
  have hne' : vb.ownBlock = none ∨ vb.ownBlock ≠ vi.ownBlock := h.ne
  refine ⟨?c4, ?c5, ?c6, ?c7, ?c8, ?free, ?lt, ?le, ?ob, ?oi, ?ne, ?nb, ?ni, ?okb, ?oki, ?xb, ?xi, ?xR, ?small⟩
  case c4 => exact World.cell?_setCell_same _ _ _ ((hcell 4).trans h.c4)
  case c5 => exact (hoth 5 (by omega)).trans h.c5
  case c6 => exact (hoth 6 (by omega)).trans h.c6
  case c7 => exact (hoth 7 (by omega)).trans h.c7
  case c8 => exact (hoth 8 (by omega)).trans h.c8
  case free => exact fun i => by rw [World.frozen?_setCell]; exact (World.frozen?_of_block (w := y) (a := ⟨R, i, none⟩) hRb).trans (h.free i)
  case lt => exact h.lt
  case le => exact by rw [size_setCell]; exact Nat.le_trans h.le hsz
  case ob => exact by rw [List.length_append, List.flatMap_append]; simp only [List.length_cons, List.length_nil, List.flatMap_cons, List.flatMap_nil, List.append_nil]; exact ho.kept hgs (.inr (by rw [hgv]; intro hh; simp at hh; rcases hgv2 with h1 | h1; exact hRo (by rw [h1, hh]); omega))
  case oi =>
    refine (h.oi.kept hg ?_).kept hgs ?_
    · skip
      by_cases hx : vi.ownBlock = none
      · exact .inl hx
      · rcases hne' with hh | hh
        · exact .inr (by rw [hh]; exact hx)
        · exact .inr (Ne.symm hh)
    · skip
      by_cases hh : vi.ownBlock = none
      · exact .inl hh
      · exact .inr (fun he => by have := (h.oi.lt R he).1; have := h.lt; omega)
  case ne =>
    right
    rw [hgv]
    rcases hgv2 with h1 | h1
    · rcases hne' with hh | hh
      · rw [hh] at h1; simp at h1
      · rw [← h1]; exact hh
    · intro he
      have := (h.oi.lt gv he.symm).2
      omega
  case nb =>
    intro i hi
    by_cases hlt : i < eb.length
    · rw [List.getElem_append_left hlt]; exact h.nb i hlt
    · have : i = eb.length := by simp at hi; omega
      subst this
      simp [hn]
  case ni => exact h.ni
  case okb =>
    intro e he
    rcases List.mem_append.1 he with he | he
    · exact (h.okb e he).kept (by rw [size_setCell]; exact hsz) hbad
    · obtain rfl : e = en := by simpa using he
      exact hen.kept (by rw [size_setCell]; exact hsz) hbad
  case oki => exact fun e he => (h.oki e he).kept (by rw [size_setCell]; exact hsz) hbad
  case xb =>
    intro g hg'
    rw [hgv] at hg'
    obtain rfl : gv = g := by simpa using hg'
    rcases hgv2 with h1 | h1
    · exact h.xb gv h1
    · exact hext gv h1
  case xi => exact h.xi
  case xR => exact h.xR
  case small => exact by simp; omega
theorem Books.pushI {ext : Nat → Prop} {y w' : World} {base R : Nat} {vb vi vi' : Value} {eb ei : List Ent} (h : Books ext y base R vb vi eb ei) (en : Ent) (hn : en.n = ei.length) (ho : w'.ownsRow base 153 5 vi' (ei.length + 1) (ei.flatMap Ent.cells ++ en.cells)) (hg : y.grownBy w' vi.ownBlock)
    (hv : ∃ g, vi'.ownBlock = some g ∧ (vi.ownBlock = some g ∨ y.heap.size ≤ g)) (hen : entOk vI y base (badOf ext vb vi) en) (hext : ∀ g, y.heap.size ≤ g → ¬ ext g) (hsm : eb.length + ei.length < 4194304) : Books ext (w'.setCell ⟨R, 5, none⟩ vi') base R vb vi' eb (ei ++ [en]) := by
  have hR : R < y.heap.size := Nat.lt_of_lt_of_le h.lt h.le
  have hRo : some R ≠ vi.ownBlock := fun hh => by have := (h.oi.lt R hh.symm).1; have := h.lt; omega
  have hRb := hg.block R hR hRo
  have hgs := grown_setCell w' ⟨R, 5, none⟩ vi'
  have hsz := hg.size
  have hcell : ∀ i, w'.cell? ⟨R, i, none⟩ = y.cell? ⟨R, i, none⟩ := fun i => World.cell?_of_block (w := y) (a := ⟨R, i, none⟩) hRb
  have hoth : ∀ i, i ≠ 5 → (w'.setCell ⟨R, 5, none⟩ vi').cell? ⟨R, i, none⟩ = y.cell? ⟨R, i, none⟩ := fun i hi => (World.cell?_setCell_other _ _ _ _ (by intro hh; have := congrArg Addr.off hh; simp at this; omega)).trans (hcell i)
  have hblk : ∀ g, base ≤ g → g < y.heap.size → some g ≠ vi.ownBlock → (w'.setCell ⟨R, 5, none⟩ vi').heap[g]? = y.heap[g]? := fun g h1 h2 h3 => (hgs.block g (by omega) (by have := h.lt; simp; omega)).trans (hg.block g h2 h3)
  obtain ⟨gv, hgv, hgv2⟩ := hv
  have hbad : ∀ g, base ≤ g → g < y.heap.size → ¬ badOf ext vb vi g → (w'.setCell ⟨R, 5, none⟩ vi').heap[g]? = y.heap[g]? ∧ ¬ badOf ext vb vi' g := by
    intro g h1 h2 h3
    refine ⟨hblk g h1 h2 (fun hh => h3 (.inr (.inl hh))), ?_⟩
    rintro (hh | hh | hh)
    · exact h3 (.inl hh)
    · rw [hgv] at hh
      obtain rfl : g = gv := by simpa using hh
      rcases hgv2 with h4 | h4
      · exact h3 (.inr (.inl h4.symm))
      · omega
    · exact h3 (.inr (.inr hh))
  have hgrown : y.grownBy (w'.setCell ⟨R, 5, none⟩ vi') vi.ownBlock → True := fun _ => trivial
  have hne' : vb.ownBlock = none ∨ vb.ownBlock ≠ vi.ownBlock := h.ne
  refine ⟨?c4, ?c5, ?c6, ?c7, ?c8, ?free, ?lt, ?le, ?ob, ?oi, ?ne, ?nb, ?ni, ?okb, ?oki, ?xb, ?xi, ?xR, ?small⟩
  case c4 => exact (hoth 4 (by omega)).trans h.c4
  case c5 => exact World.cell?_setCell_same _ _ _ ((hcell 5).trans h.c5)
  case c6 => exact (hoth 6 (by omega)).trans h.c6
  case c7 => exact (hoth 7 (by omega)).trans h.c7
  case c8 => exact (hoth 8 (by omega)).trans h.c8
  case free => exact fun i => by rw [World.frozen?_setCell]; exact (World.frozen?_of_block (w := y) (a := ⟨R, i, none⟩) hRb).trans (h.free i)
  case lt => exact h.lt
  case le => exact by rw [size_setCell]; exact Nat.le_trans h.le hsz
  case ob =>
    refine (h.ob.kept hg ?_).kept hgs ?_
    · skip
      rcases hne' with hh | hh
      · exact .inl hh
      · exact .inr hh
    · skip
      by_cases hh : vb.ownBlock = none
      · exact .inl hh
      · exact .inr (fun he => by have := (h.ob.lt R he).1; have := h.lt; omega)
  case oi => exact by rw [List.length_append, List.flatMap_append]; simp only [List.length_cons, List.length_nil, List.flatMap_cons, List.flatMap_nil, List.append_nil]; exact ho.kept hgs (.inr (by rw [hgv]; intro hh; simp at hh; rcases hgv2 with h1 | h1; exact hRo (by rw [h1, hh]); omega))
  case ne =>
    rw [hgv]
    rcases hgv2 with h1 | h1
    · rcases hne' with hh | hh
      · exact .inl hh
      · exact .inr (by rw [← h1]; exact hh)
    · by_cases hh : vb.ownBlock = none
      · exact .inl hh
      · refine .inr (fun he => ?_)
        have := (h.ob.lt gv he).2
        omega
  case nb => exact h.nb
  case ni =>
    intro i hi
    by_cases hlt : i < ei.length
    · rw [List.getElem_append_left hlt]; exact h.ni i hlt
    · have : i = ei.length := by simp at hi; omega
      subst this
      simp [hn]
  case okb => exact fun e he => (h.okb e he).kept (by rw [size_setCell]; exact hsz) hbad
  case oki =>
    intro e he
    rcases List.mem_append.1 he with he | he
    · exact (h.oki e he).kept (by rw [size_setCell]; exact hsz) hbad
    · obtain rfl : e = en := by simpa using he
      exact hen.kept (by rw [size_setCell]; exact hsz) hbad
  case xb => exact h.xb
  case xi =>
    intro g hg'
    rw [hgv] at hg'
    obtain rfl : gv = g := by simpa using hg'
    rcases hgv2 with h1 | h1
    · exact h.xi gv h1
    · exact hext gv h1
  case xR => exact h.xR
  case small => exact by simp; omega
/-- What a step writes, at most. -/
structure Kept (A : Nat → Prop) (w w' : World) : Prop where
  os : w'.os = w.os
  tape : w'.tape = w.tape
  output : w'.output = w.output
  size : w.heap.size ≤ w'.heap.size
  block : ∀ k, k < w.heap.size → ¬ A k → w'.heap[k]? = w.heap[k]?


set_option maxHeartbeats 8000000 in
set_option maxRecDepth 20000 in
theorem keepBytes_any (ext : Nat → Prop) (W w : World) (base R : Nat) (vb vi : Value) (eb ei : List Ent) (hB : Books ext W base R vb vi eb ei) (hbW : Below W.heap.size W w) (l : Value) (len : Nat) (xs : List Value) (hl : w.ownsRow W.heap.size 5 1 l len xs) (hlen : len ≤ 1000000)
    (hxl : ∀ g, l.ownBlock = some g → ¬ ext g) (hxn : ∀ g, w.heap.size ≤ g → ¬ ext g) (hsm : eb.length + ei.length < 4194304) :
    Calls Tryz.prog 100 #[.pointer (some ⟨R, 4, none⟩), l] w fun e w' => e = .returned (.tuple #[]) ∧ ∃ v' en, Books ext w' base R v' vi (eb ++ [en]) ei ∧ Kept (fun b => b = R ∨ some b = vb.ownBlock ∨ some b = l.ownBlock) w w' ∧ ∀ i, i ≠ 4 → w'.cell? ⟨R, i, none⟩ = w.cell? ⟨R, i, none⟩ := by
  obtain ⟨i0, hi0, hz0, hz1, hz2⟩ := info_parts info5
  obtain ⟨la, lc, rfl, hrow⟩ := row_shape hl
  obtain ⟨av, cv, hvs, hrv⟩ := row_shape hB.ob
  have hRW : R < W.heap.size := Nat.lt_of_lt_of_le hB.lt hB.le
  have hc4 : w.cell? ⟨R, 4, none⟩ = some (.slice av eb.length cv) := (hbW.cell (by exact hRW)).trans (hB.c4.trans (by rw [hvs]))
  have HB : Hid _ := hB
  have HV : Hid _ := hvs
  have HXL : Hid _ := hxl
  have HXN : Hid _ := hxn
  clear hB hrv hvs hxl hxn
  have hWs := hbW.size
  have hRw := Nat.lt_of_lt_of_le hRW hWs
  go_enter Tryz.func100, Tryz.ntmps100
  go_wp2
  go_loopw [6] (fun ix wr => ∃ (t : Nat) (ys : List Value), t ≤ len ∧ ix = .int .i64 t ∧ wr.ownsRow W.heap.size 5 1 (.slice la len lc) len ys ∧ (∀ j, j < t → ys[j]? = some (vB eb.length j)) ∧ w.grownBy wr (Value.ownBlock (.slice la len lc))) (fun ix _ => len - (intOf ix).toNat)
  case atStart => exact ⟨0, xs, by omega, rfl, hl, fun j hj => by omega, rfl, rfl, rfl, Nat.le_refl _, fun _ _ _ => rfl⟩
  case round =>
    obtain ⟨t, ys, ht, rfl, ho, hys, hgr⟩ := hrel
    have HO : Hid (wr.ownsRow W.heap.size 5 1 (.slice la len lc) len ys) := ho
    have HY : Hid _ := hys
    have HG : Hid _ := hgr
    have hyl : ys.length = len := by simpa using ho.1
    clear ho hys hgr hc4
    by_cases htl : t < len
    · obtain ⟨gl, rfl, hgl1, hgl2, _⟩ := hrow.resolve_left (by omega)
      have hct := HO.out.cellAt t (by omega)
      rw [List.getElem?_eq_getElem (by omega)] at hct
      have hft := HO.out.frozenAt t
      have htl2 : (t : Int) < (len : Int) := by omega
      go_wp2_with (first | (go_at_call 128; refine (mark_any _ _ _ (by omega) (by omega)).mono ?_; rintro e w' ⟨rfl, rfl⟩))
      obtain ⟨ho2, hg2⟩ := HO.out.stored t (.int .u8 (mk eb.length t))
      go_roundw
      case rel => 
        refine ⟨t + 1, _, by omega, by go_num, ho2, fun j hj => ?_, ?_⟩
        · by_cases hjt : j = t
          · subst hjt; rw [List.getElem?_set_self (by omega)]; rfl
          · rw [List.getElem?_set_ne (by omega)]; exact HY.out j (by omega)
        · exact ⟨hg2.os.trans HG.out.os, hg2.tape.trans HG.out.tape, hg2.output.trans HG.out.output, Nat.le_trans HG.out.size hg2.size, fun k hk hne => (hg2.block k (Nat.lt_of_lt_of_le hk HG.out.size) hne).trans (HG.out.block k hk hne)⟩
      case measure => simp [intOf]; omega
    · obtain rfl : t = len := by omega
      have hK0 : KS 5 W.heap.size wr (.slice la t lc) t ys (wr.alloc (Obj.cells #[Value.slice la t lc, Value.slice none 0 0, Value.slice none 0 0, Value.slice none 0 0, Value.int IntKind.i64 eb.length] 150)) [Value.slice la t lc, Value.slice none 0 0, Value.slice none 0 0, Value.slice none 0 0, Value.int IntKind.i64 eb.length] :=
        ⟨HO.out.alloc _, fun i => (World.cell?_alloc_at _ _ _ _ rfl).trans (by simp), fun i => by simp, World.grownBy_alloc wr _ _, by simp, fun hh => by have := (HO.out.lt _ hh).2; omega⟩
      have hWr : W.heap.size ≤ wr.heap.size := Nat.le_trans hWs HG.out.size
      have HK0 : Hid _ := hK0
      clear hK0
      go_wp2_with (first | (go_at_call 128; refine (mark_at _ _ (t + 0) _ (by omega) (by omega) (by omega)).mono ?_; rintro e w' ⟨rfl, rfl⟩) | (at_builtin; go_loud ( refine wpList_append_marks _ rfl _ _ 148 rfl W.heap.size 5 i0 (.int .u8 0) 1 Tryz.underlying148 hi0 hz0 hz1 hz2 rfl (vB eb.length) (vB_one eb.length) _ t ys rfl (HK0.out.own.alloc _) HY.out ⟨wr.heap.size + 1, 0, none⟩ 1 1 (by omega) rfl ?c1 ?c2 ?c3 ?c4 ?_)))
      case c1 => 
        intro j hj
        rw [Go.WideShapes.add_plain, World.cell?_alloc_at _ _ _ _ (by simp [size_setCell])]
        rcases (show j = 0 by omega) with rfl
        all_goals rfl
      case c2 => unfold maxLen; omega
      case c3 => omega
      case c4 => have := HK0.out.lt; simp at this ⊢; omega
      intro g1 cp1 x1 ho hg hb1 hb2 hb3 hma hall
      skip
      obtain ⟨hsp, hfr⟩ := HK0.out.spot _ hg
      have s1 := hsp 1
      have f1 := hfr 1
      simp at s1
      have q1 : wr.heap.size < x1.heap.size := by have h1 := HK0.out.lt; have h2 := hg.size; simp at h1 h2; omega
      have hK1 := HK0.out.next _ ho hg 1 (by simp) (.slice (some ⟨g1, 0, none⟩) (t + 1) cp1)
      have hz1' : (wr.alloc (Obj.cells #[Value.slice la t lc, Value.slice none 0 0, Value.slice none 0 0, Value.slice none 0 0, Value.int IntKind.i64 eb.length] 150)).heap.size + 1 ≤ x1.heap.size := by have := hg.size; simpa using this
      have hA1 := AM.new HK0.out hb1 hb2 (by rcases hb3 with h | h; exact .inl h; exact .inr (by simp [size_setCell] at h ⊢; omega)) hma 1 (.slice (some ⟨g1, 0, none⟩) (t + 1) cp1)
      clear hsp hfr ho hg hb1 hb2 hb3 hma hall
      have HA1 : Hid _ := hA1
      clear hA1
      have HK1 : Hid _ := hK1
      clear hK1
      go_wp2_with (first | (go_at_call 128; refine (mark_at _ _ (t + 0) _ (by omega) (by omega) (by omega)).mono ?_; rintro e w' ⟨rfl, rfl⟩) | (go_at_call 128; refine (mark_at _ _ (t + 1) _ (by omega) (by omega) (by omega)).mono ?_; rintro e w' ⟨rfl, rfl⟩) | (at_builtin; go_loud ( refine wpList_append_marks _ rfl _ _ 148 rfl W.heap.size 5 i0 (.int .u8 0) 1 Tryz.underlying148 hi0 hz0 hz1 hz2 rfl (vB eb.length) (vB_one eb.length) _ t ys rfl (HK1.out.own.alloc _) HY.out ⟨x1.heap.size, 0, none⟩ 2 2 (by omega) rfl ?c1 ?c2 ?c3 ?c4 ?_)))
      case c1 => 
        intro j hj
        rw [Go.WideShapes.add_plain, World.cell?_alloc_at _ _ _ _ (by simp [size_setCell])]
        rcases (show j = 0 ∨ j = 1 by omega) with rfl | rfl
        all_goals rfl
      case c2 => unfold maxLen; omega
      case c3 => omega
      case c4 => have := HK1.out.lt; simp at this ⊢; omega
      intro g2 cp2 x2 ho hg hb1 hb2 hb3 hma hall
      clear s1 f1
      obtain ⟨hsp, hfr⟩ := HK1.out.spot _ hg
      have s1 := hsp 2
      have f1 := hfr 2
      simp at s1
      have q1 : wr.heap.size < x2.heap.size := by have h1 := HK1.out.lt; have h2 := hg.size; simp at h1 h2; omega
      have hK2 := HK1.out.next _ ho hg 2 (by simp) (.slice (some ⟨g2, 0, none⟩) (t + 2) cp2)
      have hz2' : (x1.setCell ⟨wr.heap.size, 1, none⟩ (Value.slice (some ⟨g1, 0, none⟩) (t + 1) cp1)).heap.size + 1 ≤ x2.heap.size := by have := hg.size; simpa using this
      have hA2 := AM.new HK1.out hb1 hb2 (by rcases hb3 with h | h; exact .inl h; exact .inr (by simp [size_setCell] at h ⊢; omega)) hma 2 (.slice (some ⟨g2, 0, none⟩) (t + 2) cp2)
      have hA1 := HA1.out.next _ hz2' (by simp [size_setCell]; try omega) hall (by omega) 2 (.slice (some ⟨g2, 0, none⟩) (t + 2) cp2)
      clear HA1
      clear hsp hfr ho hg hb1 hb2 hb3 hma hall
      have HA1 : Hid _ := hA1
      clear hA1
      have HA2 : Hid _ := hA2
      clear hA2
      have HK2 : Hid _ := hK2
      clear hK2
      go_wp2_with (first | (go_at_call 128; refine (mark_at _ _ (t + 0) _ (by omega) (by omega) (by omega)).mono ?_; rintro e w' ⟨rfl, rfl⟩) | (go_at_call 128; refine (mark_at _ _ (t + 1) _ (by omega) (by omega) (by omega)).mono ?_; rintro e w' ⟨rfl, rfl⟩) | (go_at_call 128; refine (mark_at _ _ (t + 2) _ (by omega) (by omega) (by omega)).mono ?_; rintro e w' ⟨rfl, rfl⟩) | (at_builtin; go_loud ( refine wpList_append_marks _ rfl _ _ 148 rfl W.heap.size 5 i0 (.int .u8 0) 1 Tryz.underlying148 hi0 hz0 hz1 hz2 rfl (vB eb.length) (vB_one eb.length) _ t ys rfl (HK2.out.own.alloc _) HY.out ⟨x2.heap.size, 0, none⟩ 3 3 (by omega) rfl ?c1 ?c2 ?c3 ?c4 ?_)))
      case c1 => 
        intro j hj
        rw [Go.WideShapes.add_plain, World.cell?_alloc_at _ _ _ _ (by simp [size_setCell])]
        rcases (show j = 0 ∨ j = 1 ∨ j = 2 by omega) with rfl | rfl | rfl
        all_goals rfl
      case c2 => unfold maxLen; omega
      case c3 => omega
      case c4 => have := HK2.out.lt; simp at this ⊢; omega
      intro g3 cp3 x3 ho hg hb1 hb2 hb3 hma hall
      clear s1 f1
      obtain ⟨hsp, hfr⟩ := HK2.out.spot _ hg
      have s1 := hsp 3
      have f1 := hfr 3
      simp at s1
      have q1 : wr.heap.size < x3.heap.size := by have h1 := HK2.out.lt; have h2 := hg.size; simp at h1 h2; omega
      have hK3 := HK2.out.next _ ho hg 3 (by simp) (.slice (some ⟨g3, 0, none⟩) (t + 3) cp3)
      have hz3' : (x2.setCell ⟨wr.heap.size, 2, none⟩ (Value.slice (some ⟨g2, 0, none⟩) (t + 2) cp2)).heap.size + 1 ≤ x3.heap.size := by have := hg.size; simpa using this
      have hA3 := AM.new HK2.out hb1 hb2 (by rcases hb3 with h | h; exact .inl h; exact .inr (by simp [size_setCell] at h ⊢; omega)) hma 3 (.slice (some ⟨g3, 0, none⟩) (t + 3) cp3)
      have hA1 := HA1.out.next _ hz3' (by simp [size_setCell]; try omega) hall (by omega) 3 (.slice (some ⟨g3, 0, none⟩) (t + 3) cp3)
      clear HA1
      have hA2 := HA2.out.next _ hz3' (by simp [size_setCell]; try omega) hall (by omega) 3 (.slice (some ⟨g3, 0, none⟩) (t + 3) cp3)
      clear HA2
      clear hsp hfr ho hg hb1 hb2 hb3 hma hall
      have HA1 : Hid _ := hA1
      clear hA1
      have HA2 : Hid _ := hA2
      clear hA2
      have HA3 : Hid _ := hA3
      clear hA3
      have HK3 : Hid _ := hK3
      clear hK3
      go_wp2_with fail
      generalize x3.setCell ⟨wr.heap.size, 3, none⟩ (Value.slice (some ⟨g3, 0, none⟩) (t + 3) cp3) = y at *
      clear s1 f1 hz1' hz2' hz3'
      obtain ⟨i5, hi5, hy0, hy1, hy2⟩ := info_parts info105
      have b0 := HK3.out.box 0
      have b1 := HK3.out.box 1
      have b2 := HK3.out.box 2
      have b3 := HK3.out.box 3
      have b4 := HK3.out.box 4
      simp at b0 b1 b2 b3 b4
      have hlt : ∀ k, k < W.heap.size → some k ≠ Value.ownBlock (.slice la t lc) := fun k hk hh => by have := (hl.lt k hh.symm).1; omega
      have hBy : Below W.heap.size W y := by
        have h1 := HG.out
        have h2 := HK3.out.gr
        have h3 := h1.size
        exact hbW.trans ⟨h2.os.trans h1.os, h2.tape.trans h1.tape, h2.output.trans h1.output, Nat.le_trans h1.size h2.size, fun k hk => (h2.block k (by omega) (hlt k hk)).trans (h1.block k (by omega) (hlt k hk))⟩
      have HBk : Hid _ := HB.out.later hBy
      have hRy : y.cell? ⟨R, 4, none⟩ = some (.slice av eb.length cv) := HBk.out.c4.trans (by rw [HV.out])
      have hRf := HBk.out.free 4
      have OB : Hid (y.ownsRow base 150 5 (.slice av eb.length cv) eb.length (eb.flatMap Ent.cells)) := by have := HBk.out.ob; rw [HV.out] at this; exact this
      have hbase := HBk.out.le
      have hRlt : R < y.heap.size := Nat.lt_of_lt_of_le HBk.out.lt hbase
      have hXy := HK3.out.lt
      have HW : Hid _ := hBy
      have HL : Hid _ := hl
      have HLT : Hid _ := hlt
      clear hBy hl hlt hrow
      go_region_law (refine step_append_keep rfl (.tmp 66) (.tmp 68) 82 rfl base 150 i5 (.agg #[.slice none 0 0, .slice none 0 0, .slice none 0 0, .slice none 0 0, .int .i64 0]) 5 104 Tryz.underlying82 hi5 hy0 hy1 hy2 rfl (by decide) (.slice av eb.length cv) eb.length (eb.flatMap Ent.cells) (by simp [Act.eval]) (by exact (World.ownsRow.alloc OB.out _).drew) ⟨y.heap.size, 0, none⟩ 1 1 [Value.slice la t lc, Value.slice (some ⟨g1, 0, none⟩) (t + 1) cp1, Value.slice (some ⟨g2, 0, none⟩) (t + 2) cp2, Value.slice (some ⟨g3, 0, none⟩) (t + 3) cp3, Value.int IntKind.i64 eb.length] (by omega) (by simp [Act.eval]) rfl (by intro j u hu; rw [Go.WideShapes.add_plain]; refine (World.cell?_alloc_at _ _ _ _ rfl).trans ?_; simpa using hu) (by intro u hu; simp at hu; rcases hu with rfl | rfl | rfl | rfl | rfl <;> rfl) (by unfold maxLen; omega) (by omega) (by show _ ≤ (World.alloc _ _).heap.size; simp; omega) ?_; intro v' w' ho' hg' hloc; obtain ⟨va, vc, rfl⟩ := shape_of ho'; have hRo : some R ≠ Value.ownBlock (.slice av eb.length cv) := (fun hh => by have h1 := (OB.out.lt R hh.symm).1; have h2 := HBk.out.lt; omega); have hRb : w'.heap[R]? = y.heap[R]? := (hg'.block R (by show _ < (World.alloc _ _).heap.size; simp; omega) hRo).trans (heap_alloc_old y _ hRlt); have k4 : w'.cell? ⟨R, 4, none⟩ = some (.slice av eb.length cv) := (World.cell?_of_block (w := y) (a := ⟨R, 4, none⟩) hRb).trans hRy; have kf : w'.frozen? ⟨R, 4, none⟩ = false := (World.frozen?_of_block (w := y) (a := ⟨R, 4, none⟩) hRb).trans hRf)
      all_goals go_wp2
      all_goals refine bodyPost_end (v := .tuple #[]) (by simp [results, Tryz.results100, go_sem]) rfl ?_
      all_goals
        have hgy : y.grownBy w' (Value.ownBlock (.slice av eb.length cv)) := ⟨hg'.os, hg'.tape, hg'.output, Nat.le_trans (by show _ ≤ (World.alloc _ _).heap.size; simp) hg'.size, fun k hk hne => (hg'.block k (by show _ < (World.alloc _ _).heap.size; simp; omega) hne).trans (heap_alloc_old y _ hk)⟩
        have hlocy : ∃ g, Value.ownBlock (.slice va (eb.length + 1) vc) = some g ∧ (Value.ownBlock (.slice av eb.length cv) = some g ∨ y.heap.size ≤ g) := by
          obtain ⟨g', h1, h2⟩ := hloc
          refine ⟨g', h1, ?_⟩
          rcases h2 with h2 | ⟨h2, _⟩
          · exact .inl h2
          · exact .inr (Nat.le_trans (by show _ ≤ (World.alloc _ _).heap.size; simp) h2)
        have hwy : w.heap.size ≤ y.heap.size := Nat.le_trans HG.out.size HK3.out.gr.size
        have hextn : ∀ g, y.heap.size ≤ g → ¬ ext g := fun g hg => HXN.out g (by omega)
        have hbadg : ∀ g, W.heap.size ≤ g → (Value.ownBlock (.slice la t lc) = some g ∨ wr.heap.size ≤ g) → ¬ badOf ext vb vi g := by
          intro g h1 h2 h3
          rcases h3 with h3 | h3 | h3
          · have := (HB.out.ob.lt g h3.symm).2; omega
          · have := (HB.out.oi.lt g h3.symm).2; omega
          · rcases h2 with h2 | h2
            · exact HXL.out g h2 h3
            · exact HXN.out g (Nat.le_trans HG.out.size h2) h3
        have hWb := HB.out.le
        have am : ∀ g k, AM W.heap.size wr (.slice la t lc) (vB eb.length) k y g → ∀ cp, k ≤ 4194304 → slAt (vB eb.length) y base (badOf ext vb vi) (.slice (some ⟨g, 0, none⟩) k cp) := by
          intro g k hA cp hk
          exact ⟨_, _, _, rfl, hk, .inr ⟨g, rfl, Nat.le_trans hWb hA.low, hA.lt, hbadg g hA.low hA.is, hA.ma⟩⟩
        have hsl : slAt (vB eb.length) y base (badOf ext vb vi) (.slice la t lc) := by
          refine ⟨la, t, lc, rfl, by omega, ?_⟩
          obtain ⟨la', lc', he, hrow'⟩ := row_shape HK3.out.own
          cases he
          rcases hrow' with h0 | ⟨g, h1, h2, h3, h4⟩
          · exact .inl h0
          · exact .inr ⟨g, h1, Nat.le_trans hWb h2, h3, hbadg g h2 (.inl (by rw [h1]; rfl)), fun j hj => h4 j _ (HY.out j hj)⟩
        have hen : entOk vB y base (badOf ext vb vi) ⟨.slice la t lc, .slice (some ⟨g1, 0, none⟩) (t + 1) cp1, .slice (some ⟨g2, 0, none⟩) (t + 2) cp2, .slice (some ⟨g3, 0, none⟩) (t + 3) cp3, eb.length⟩ := ⟨hsl, am g1 _ HA1.out cp1 (by omega), am g2 _ HA2.out cp2 (by omega), am g3 _ HA3.out cp3 (by omega)⟩
        refine ⟨rfl, .slice va (eb.length + 1) vc, ⟨.slice la t lc, .slice (some ⟨g1, 0, none⟩) (t + 1) cp1, .slice (some ⟨g2, 0, none⟩) (t + 2) cp2, .slice (some ⟨g3, 0, none⟩) (t + 3) cp3, eb.length⟩, ?_, ?_, ?_⟩
        · refine HBk.out.pushB _ rfl ho' (by rw [HV.out]; exact hgy) (by rw [HV.out]; exact hlocy) hen hextn hsm
        · have hgs := grown_setCell w' ⟨R, 4, none⟩ (.slice va (eb.length + 1) vc)
          have h1 := HG.out
          have h2 := HK3.out.gr
          refine ⟨hgs.os.trans (hgy.os.trans (h2.os.trans h1.os)), hgs.tape.trans (hgy.tape.trans (h2.tape.trans h1.tape)), hgs.output.trans (hgy.output.trans (h2.output.trans h1.output)), Nat.le_trans hwy (Nat.le_trans hgy.size hgs.size), fun k hk hA => ?_⟩
          have hk1 := h1.size
          have hk2 := h2.size
          have hk3 := hgy.size
          exact (hgs.block k (by omega) (fun hh => hA (.inl (by simpa using hh)))).trans ((hgy.block k (by omega) (fun hh => hA (.inr (.inl (by rw [HV.out]; exact hh))))).trans ((h2.block k (by omega) (fun hh => hA (.inr (.inr hh)))).trans (h1.block k hk (fun hh => hA (.inr (.inr hh))))))
        · intro i hi
          rw [World.cell?_setCell_other _ _ _ _ (by intro hh; have := congrArg Addr.off hh; simp at this; omega)]
          exact (World.cell?_of_block (w := y) (a := ⟨R, i, none⟩) hRb).trans ((HW.out.cell (by exact hRW)).trans (hbW.cell (by exact hRW)).symm)

set_option maxHeartbeats 8000000 in
set_option maxRecDepth 20000 in
theorem keepInts_any (ext : Nat → Prop) (W w : World) (base R : Nat) (vb vi : Value) (eb ei : List Ent) (hB : Books ext W base R vb vi eb ei) (hbW : Below W.heap.size W w) (l : Value) (len : Nat) (xs : List Value) (hl : w.ownsRow W.heap.size 3 1 l len xs) (hlen : len ≤ 1000000)
    (hxl : ∀ g, l.ownBlock = some g → ¬ ext g) (hxn : ∀ g, w.heap.size ≤ g → ¬ ext g) (hsm : eb.length + ei.length < 4194304) :
    Calls Tryz.prog 106 #[.pointer (some ⟨R, 4, none⟩), l] w fun e w' => e = .returned (.tuple #[]) ∧ ∃ v' en, Books ext w' base R vb v' eb (ei ++ [en]) ∧ Kept (fun b => b = R ∨ some b = vi.ownBlock ∨ some b = l.ownBlock) w w' ∧ ∀ i, i ≠ 5 → w'.cell? ⟨R, i, none⟩ = w.cell? ⟨R, i, none⟩ := by
  obtain ⟨i0, hi0, hz0, hz1, hz2⟩ := info_parts info3
  obtain ⟨la, lc, rfl, hrow⟩ := row_shape hl
  obtain ⟨av, cv, hvs, hrv⟩ := row_shape hB.oi
  have hRW : R < W.heap.size := Nat.lt_of_lt_of_le hB.lt hB.le
  have hc4 : w.cell? ⟨R, 5, none⟩ = some (.slice av ei.length cv) := (hbW.cell (by exact hRW)).trans (hB.c5.trans (by rw [hvs]))
  have HB : Hid _ := hB
  have HV : Hid _ := hvs
  have HXL : Hid _ := hxl
  have HXN : Hid _ := hxn
  clear hB hrv hvs hxl hxn
  have hWs := hbW.size
  have hRw := Nat.lt_of_lt_of_le hRW hWs
  go_enter Tryz.func106, Tryz.ntmps106
  go_wp2
  go_loopw [6] (fun ix wr => ∃ (t : Nat) (ys : List Value), t ≤ len ∧ ix = .int .i64 t ∧ wr.ownsRow W.heap.size 3 1 (.slice la len lc) len ys ∧ (∀ j, j < t → ys[j]? = some (vI ei.length j)) ∧ w.grownBy wr (Value.ownBlock (.slice la len lc))) (fun ix _ => len - (intOf ix).toNat)
  case atStart => exact ⟨0, xs, by omega, rfl, hl, fun j hj => by omega, rfl, rfl, rfl, Nat.le_refl _, fun _ _ _ => rfl⟩
  case round =>
    obtain ⟨t, ys, ht, rfl, ho, hys, hgr⟩ := hrel
    have HO : Hid (wr.ownsRow W.heap.size 3 1 (.slice la len lc) len ys) := ho
    have HY : Hid _ := hys
    have HG : Hid _ := hgr
    have hyl : ys.length = len := by simpa using ho.1
    clear ho hys hgr hc4
    by_cases htl : t < len
    · obtain ⟨gl, rfl, hgl1, hgl2, _⟩ := hrow.resolve_left (by omega)
      have hct := HO.out.cellAt t (by omega)
      rw [List.getElem?_eq_getElem (by omega)] at hct
      have hft := HO.out.frozenAt t
      have htl2 : (t : Int) < (len : Int) := by omega
      go_wp2_with (first | (go_at_call 128; refine (mark_any _ _ _ (by omega) (by omega)).mono ?_; rintro e w' ⟨rfl, rfl⟩))
      obtain ⟨ho2, hg2⟩ := HO.out.stored t (.int .i64 (-1000 - (ei.length : Int)))
      go_roundw
      case rel => 
        refine ⟨t + 1, _, by omega, by go_num, ho2, fun j hj => ?_, ?_⟩
        · by_cases hjt : j = t
          · subst hjt; rw [List.getElem?_set_self (by omega)]; rfl
          · rw [List.getElem?_set_ne (by omega)]; exact HY.out j (by omega)
        · exact ⟨hg2.os.trans HG.out.os, hg2.tape.trans HG.out.tape, hg2.output.trans HG.out.output, Nat.le_trans HG.out.size hg2.size, fun k hk hne => (hg2.block k (Nat.lt_of_lt_of_le hk HG.out.size) hne).trans (HG.out.block k hk hne)⟩
      case measure => simp [intOf]; omega
    · obtain rfl : t = len := by omega
      have hK0 : KS 3 W.heap.size wr (.slice la t lc) t ys (wr.alloc (Obj.cells #[Value.slice la t lc, Value.slice none 0 0, Value.slice none 0 0, Value.slice none 0 0, Value.int IntKind.i64 ei.length] 153)) [Value.slice la t lc, Value.slice none 0 0, Value.slice none 0 0, Value.slice none 0 0, Value.int IntKind.i64 ei.length] :=
        ⟨HO.out.alloc _, fun i => (World.cell?_alloc_at _ _ _ _ rfl).trans (by simp), fun i => by simp, World.grownBy_alloc wr _ _, by simp, fun hh => by have := (HO.out.lt _ hh).2; omega⟩
      have hWr : W.heap.size ≤ wr.heap.size := Nat.le_trans hWs HG.out.size
      have HK0 : Hid _ := hK0
      clear hK0
      go_wp2_with (first | (at_builtin; go_loud ( refine wpList_append_marks _ rfl _ _ 59 rfl W.heap.size 3 i0 (.int .i64 0) 8 Tryz.underlying59 hi0 hz0 hz1 hz2 rfl (vI ei.length) (vI_one ei.length) _ t ys rfl (HK0.out.own.alloc _) HY.out ⟨wr.heap.size + 1, 0, none⟩ 1 1 (by omega) rfl ?c1 ?c2 ?c3 ?c4 ?_)))
      case c1 => 
        intro j hj
        rw [Go.WideShapes.add_plain, World.cell?_alloc_at _ _ _ _ (by simp [size_setCell])]
        rcases (show j = 0 by omega) with rfl
        all_goals rfl
      case c2 => unfold maxLen; omega
      case c3 => omega
      case c4 => have := HK0.out.lt; simp at this ⊢; omega
      intro g1 cp1 x1 ho hg hb1 hb2 hb3 hma hall
      skip
      obtain ⟨hsp, hfr⟩ := HK0.out.spot _ hg
      have s1 := hsp 1
      have f1 := hfr 1
      simp at s1
      have q1 : wr.heap.size < x1.heap.size := by have h1 := HK0.out.lt; have h2 := hg.size; simp at h1 h2; omega
      have hK1 := HK0.out.next _ ho hg 1 (by simp) (.slice (some ⟨g1, 0, none⟩) (t + 1) cp1)
      have hz1' : (wr.alloc (Obj.cells #[Value.slice la t lc, Value.slice none 0 0, Value.slice none 0 0, Value.slice none 0 0, Value.int IntKind.i64 ei.length] 153)).heap.size + 1 ≤ x1.heap.size := by have := hg.size; simpa using this
      have hA1 := AM.new HK0.out hb1 hb2 (by rcases hb3 with h | h; exact .inl h; exact .inr (by simp [size_setCell] at h ⊢; omega)) hma 1 (.slice (some ⟨g1, 0, none⟩) (t + 1) cp1)
      clear hsp hfr ho hg hb1 hb2 hb3 hma hall
      have HA1 : Hid _ := hA1
      clear hA1
      have HK1 : Hid _ := hK1
      clear hK1
      go_wp2_with (first | (at_builtin; go_loud ( refine wpList_append_marks _ rfl _ _ 59 rfl W.heap.size 3 i0 (.int .i64 0) 8 Tryz.underlying59 hi0 hz0 hz1 hz2 rfl (vI ei.length) (vI_one ei.length) _ t ys rfl (HK1.out.own.alloc _) HY.out ⟨x1.heap.size, 0, none⟩ 2 2 (by omega) rfl ?c1 ?c2 ?c3 ?c4 ?_)))
      case c1 => 
        intro j hj
        rw [Go.WideShapes.add_plain, World.cell?_alloc_at _ _ _ _ (by simp [size_setCell])]
        rcases (show j = 0 ∨ j = 1 by omega) with rfl | rfl
        all_goals rfl
      case c2 => unfold maxLen; omega
      case c3 => omega
      case c4 => have := HK1.out.lt; simp at this ⊢; omega
      intro g2 cp2 x2 ho hg hb1 hb2 hb3 hma hall
      clear s1 f1
      obtain ⟨hsp, hfr⟩ := HK1.out.spot _ hg
      have s1 := hsp 2
      have f1 := hfr 2
      simp at s1
      have q1 : wr.heap.size < x2.heap.size := by have h1 := HK1.out.lt; have h2 := hg.size; simp at h1 h2; omega
      have hK2 := HK1.out.next _ ho hg 2 (by simp) (.slice (some ⟨g2, 0, none⟩) (t + 2) cp2)
      have hz2' : (x1.setCell ⟨wr.heap.size, 1, none⟩ (Value.slice (some ⟨g1, 0, none⟩) (t + 1) cp1)).heap.size + 1 ≤ x2.heap.size := by have := hg.size; simpa using this
      have hA2 := AM.new HK1.out hb1 hb2 (by rcases hb3 with h | h; exact .inl h; exact .inr (by simp [size_setCell] at h ⊢; omega)) hma 2 (.slice (some ⟨g2, 0, none⟩) (t + 2) cp2)
      have hA1 := HA1.out.next _ hz2' (by simp [size_setCell]; try omega) hall (by omega) 2 (.slice (some ⟨g2, 0, none⟩) (t + 2) cp2)
      clear HA1
      clear hsp hfr ho hg hb1 hb2 hb3 hma hall
      have HA1 : Hid _ := hA1
      clear hA1
      have HA2 : Hid _ := hA2
      clear hA2
      have HK2 : Hid _ := hK2
      clear hK2
      go_wp2_with (first | (at_builtin; go_loud ( refine wpList_append_marks _ rfl _ _ 59 rfl W.heap.size 3 i0 (.int .i64 0) 8 Tryz.underlying59 hi0 hz0 hz1 hz2 rfl (vI ei.length) (vI_one ei.length) _ t ys rfl (HK2.out.own.alloc _) HY.out ⟨x2.heap.size, 0, none⟩ 3 3 (by omega) rfl ?c1 ?c2 ?c3 ?c4 ?_)))
      case c1 => 
        intro j hj
        rw [Go.WideShapes.add_plain, World.cell?_alloc_at _ _ _ _ (by simp [size_setCell])]
        rcases (show j = 0 ∨ j = 1 ∨ j = 2 by omega) with rfl | rfl | rfl
        all_goals rfl
      case c2 => unfold maxLen; omega
      case c3 => omega
      case c4 => have := HK2.out.lt; simp at this ⊢; omega
      intro g3 cp3 x3 ho hg hb1 hb2 hb3 hma hall
      clear s1 f1
      obtain ⟨hsp, hfr⟩ := HK2.out.spot _ hg
      have s1 := hsp 3
      have f1 := hfr 3
      simp at s1
      have q1 : wr.heap.size < x3.heap.size := by have h1 := HK2.out.lt; have h2 := hg.size; simp at h1 h2; omega
      have hK3 := HK2.out.next _ ho hg 3 (by simp) (.slice (some ⟨g3, 0, none⟩) (t + 3) cp3)
      have hz3' : (x2.setCell ⟨wr.heap.size, 2, none⟩ (Value.slice (some ⟨g2, 0, none⟩) (t + 2) cp2)).heap.size + 1 ≤ x3.heap.size := by have := hg.size; simpa using this
      have hA3 := AM.new HK2.out hb1 hb2 (by rcases hb3 with h | h; exact .inl h; exact .inr (by simp [size_setCell] at h ⊢; omega)) hma 3 (.slice (some ⟨g3, 0, none⟩) (t + 3) cp3)
      have hA1 := HA1.out.next _ hz3' (by simp [size_setCell]; try omega) hall (by omega) 3 (.slice (some ⟨g3, 0, none⟩) (t + 3) cp3)
      clear HA1
      have hA2 := HA2.out.next _ hz3' (by simp [size_setCell]; try omega) hall (by omega) 3 (.slice (some ⟨g3, 0, none⟩) (t + 3) cp3)
      clear HA2
      clear hsp hfr ho hg hb1 hb2 hb3 hma hall
      have HA1 : Hid _ := hA1
      clear hA1
      have HA2 : Hid _ := hA2
      clear hA2
      have HA3 : Hid _ := hA3
      clear hA3
      have HK3 : Hid _ := hK3
      clear hK3
      go_wp2_with fail
      generalize x3.setCell ⟨wr.heap.size, 3, none⟩ (Value.slice (some ⟨g3, 0, none⟩) (t + 3) cp3) = y at *
      clear s1 f1 hz1' hz2' hz3'
      obtain ⟨i5, hi5, hy0, hy1, hy2⟩ := info_parts info108
      have b0 := HK3.out.box 0
      have b1 := HK3.out.box 1
      have b2 := HK3.out.box 2
      have b3 := HK3.out.box 3
      have b4 := HK3.out.box 4
      simp at b0 b1 b2 b3 b4
      have hlt : ∀ k, k < W.heap.size → some k ≠ Value.ownBlock (.slice la t lc) := fun k hk hh => by have := (hl.lt k hh.symm).1; omega
      have hBy : Below W.heap.size W y := by
        have h1 := HG.out
        have h2 := HK3.out.gr
        have h3 := h1.size
        exact hbW.trans ⟨h2.os.trans h1.os, h2.tape.trans h1.tape, h2.output.trans h1.output, Nat.le_trans h1.size h2.size, fun k hk => (h2.block k (by omega) (hlt k hk)).trans (h1.block k (by omega) (hlt k hk))⟩
      have HBk : Hid _ := HB.out.later hBy
      have hRy : y.cell? ⟨R, 5, none⟩ = some (.slice av ei.length cv) := HBk.out.c5.trans (by rw [HV.out])
      have hRf := HBk.out.free 5
      have OB : Hid (y.ownsRow base 153 5 (.slice av ei.length cv) ei.length (ei.flatMap Ent.cells)) := by have := HBk.out.oi; rw [HV.out] at this; exact this
      have hbase := HBk.out.le
      have hRlt : R < y.heap.size := Nat.lt_of_lt_of_le HBk.out.lt hbase
      have hXy := HK3.out.lt
      have HW : Hid _ := hBy
      have HL : Hid _ := hl
      have HLT : Hid _ := hlt
      clear hBy hl hlt hrow
      go_region_law (refine step_append_keep rfl (.tmp 50) (.tmp 52) 83 rfl base 153 i5 (.agg #[.slice none 0 0, .slice none 0 0, .slice none 0 0, .slice none 0 0, .int .i64 0]) 5 104 Tryz.underlying83 hi5 hy0 hy1 hy2 rfl (by decide) (.slice av ei.length cv) ei.length (ei.flatMap Ent.cells) (by simp [Act.eval]) (by exact (World.ownsRow.alloc OB.out _).drew) ⟨y.heap.size, 0, none⟩ 1 1 [Value.slice la t lc, Value.slice (some ⟨g1, 0, none⟩) (t + 1) cp1, Value.slice (some ⟨g2, 0, none⟩) (t + 2) cp2, Value.slice (some ⟨g3, 0, none⟩) (t + 3) cp3, Value.int IntKind.i64 ei.length] (by omega) (by simp [Act.eval]) rfl (by intro j u hu; rw [Go.WideShapes.add_plain]; refine (World.cell?_alloc_at _ _ _ _ rfl).trans ?_; simpa using hu) (by intro u hu; simp at hu; rcases hu with rfl | rfl | rfl | rfl | rfl <;> rfl) (by unfold maxLen; omega) (by omega) (by show _ ≤ (World.alloc _ _).heap.size; simp; omega) ?_; intro v' w' ho' hg' hloc; obtain ⟨va, vc, rfl⟩ := shape_of ho'; have hRo : some R ≠ Value.ownBlock (.slice av ei.length cv) := (fun hh => by have h1 := (OB.out.lt R hh.symm).1; have h2 := HBk.out.lt; omega); have hRb : w'.heap[R]? = y.heap[R]? := (hg'.block R (by show _ < (World.alloc _ _).heap.size; simp; omega) hRo).trans (heap_alloc_old y _ hRlt); have k4 : w'.cell? ⟨R, 5, none⟩ = some (.slice av ei.length cv) := (World.cell?_of_block (w := y) (a := ⟨R, 5, none⟩) hRb).trans hRy; have kf : w'.frozen? ⟨R, 5, none⟩ = false := (World.frozen?_of_block (w := y) (a := ⟨R, 5, none⟩) hRb).trans hRf)
      all_goals go_wp2
      all_goals refine bodyPost_end (v := .tuple #[]) (by simp [results, Tryz.results106, go_sem]) rfl ?_
      all_goals
        have hgy : y.grownBy w' (Value.ownBlock (.slice av ei.length cv)) := ⟨hg'.os, hg'.tape, hg'.output, Nat.le_trans (by show _ ≤ (World.alloc _ _).heap.size; simp) hg'.size, fun k hk hne => (hg'.block k (by show _ < (World.alloc _ _).heap.size; simp; omega) hne).trans (heap_alloc_old y _ hk)⟩
        have hlocy : ∃ g, Value.ownBlock (.slice va (ei.length + 1) vc) = some g ∧ (Value.ownBlock (.slice av ei.length cv) = some g ∨ y.heap.size ≤ g) := by
          obtain ⟨g', h1, h2⟩ := hloc
          refine ⟨g', h1, ?_⟩
          rcases h2 with h2 | ⟨h2, _⟩
          · exact .inl h2
          · exact .inr (Nat.le_trans (by show _ ≤ (World.alloc _ _).heap.size; simp) h2)
        have hwy : w.heap.size ≤ y.heap.size := Nat.le_trans HG.out.size HK3.out.gr.size
        have hextn : ∀ g, y.heap.size ≤ g → ¬ ext g := fun g hg => HXN.out g (by omega)
        have hbadg : ∀ g, W.heap.size ≤ g → (Value.ownBlock (.slice la t lc) = some g ∨ wr.heap.size ≤ g) → ¬ badOf ext vb vi g := by
          intro g h1 h2 h3
          rcases h3 with h3 | h3 | h3
          · have := (HB.out.ob.lt g h3.symm).2; omega
          · have := (HB.out.oi.lt g h3.symm).2; omega
          · rcases h2 with h2 | h2
            · exact HXL.out g h2 h3
            · exact HXN.out g (Nat.le_trans HG.out.size h2) h3
        have hWb := HB.out.le
        have am : ∀ g k, AM W.heap.size wr (.slice la t lc) (vI ei.length) k y g → ∀ cp, k ≤ 4194304 → slAt (vI ei.length) y base (badOf ext vb vi) (.slice (some ⟨g, 0, none⟩) k cp) := by
          intro g k hA cp hk
          exact ⟨_, _, _, rfl, hk, .inr ⟨g, rfl, Nat.le_trans hWb hA.low, hA.lt, hbadg g hA.low hA.is, hA.ma⟩⟩
        have hsl : slAt (vI ei.length) y base (badOf ext vb vi) (.slice la t lc) := by
          refine ⟨la, t, lc, rfl, by omega, ?_⟩
          obtain ⟨la', lc', he, hrow'⟩ := row_shape HK3.out.own
          cases he
          rcases hrow' with h0 | ⟨g, h1, h2, h3, h4⟩
          · exact .inl h0
          · exact .inr ⟨g, h1, Nat.le_trans hWb h2, h3, hbadg g h2 (.inl (by rw [h1]; rfl)), fun j hj => h4 j _ (HY.out j hj)⟩
        have hen : entOk vI y base (badOf ext vb vi) ⟨.slice la t lc, .slice (some ⟨g1, 0, none⟩) (t + 1) cp1, .slice (some ⟨g2, 0, none⟩) (t + 2) cp2, .slice (some ⟨g3, 0, none⟩) (t + 3) cp3, ei.length⟩ := ⟨hsl, am g1 _ HA1.out cp1 (by omega), am g2 _ HA2.out cp2 (by omega), am g3 _ HA3.out cp3 (by omega)⟩
        refine ⟨rfl, .slice va (ei.length + 1) vc, ⟨.slice la t lc, .slice (some ⟨g1, 0, none⟩) (t + 1) cp1, .slice (some ⟨g2, 0, none⟩) (t + 2) cp2, .slice (some ⟨g3, 0, none⟩) (t + 3) cp3, ei.length⟩, ?_, ?_, ?_⟩
        · refine HBk.out.pushI _ rfl ho' (by rw [HV.out]; exact hgy) (by rw [HV.out]; exact hlocy) hen hextn hsm
        · have hgs := grown_setCell w' ⟨R, 5, none⟩ (.slice va (ei.length + 1) vc)
          have h1 := HG.out
          have h2 := HK3.out.gr
          refine ⟨hgs.os.trans (hgy.os.trans (h2.os.trans h1.os)), hgs.tape.trans (hgy.tape.trans (h2.tape.trans h1.tape)), hgs.output.trans (hgy.output.trans (h2.output.trans h1.output)), Nat.le_trans hwy (Nat.le_trans hgy.size hgs.size), fun k hk hA => ?_⟩
          have hk1 := h1.size
          have hk2 := h2.size
          have hk3 := hgy.size
          exact (hgs.block k (by omega) (fun hh => hA (.inl (by simpa using hh)))).trans ((hgy.block k (by omega) (fun hh => hA (.inr (.inl (by rw [HV.out]; exact hh))))).trans ((h2.block k (by omega) (fun hh => hA (.inr (.inr hh)))).trans (h1.block k hk (fun hh => hA (.inr (.inr hh))))))
        · intro i hi
          rw [World.cell?_setCell_other _ _ _ _ (by intro hh; have := congrArg Addr.off hh; simp at this; omega)]
          exact (World.cell?_of_block (w := y) (a := ⟨R, i, none⟩) hRb).trans ((HW.out.cell (by exact hRW)).trans (hbW.cell (by exact hRW)).symm)

end Go.Proofs.YtdcainmlcpafbaaGreatDoor
