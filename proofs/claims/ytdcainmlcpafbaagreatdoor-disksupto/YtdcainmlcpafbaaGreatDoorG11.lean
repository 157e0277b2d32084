import Derived.Test.YtdcainmlcpafbaaGreatDoorG10
import Derived.Test.YtdcainmlcpafbaaGreatDoorG9
import Derived.Test.YtdcainmlcpafbaaGreatDoorE13
set_option linter.unusedSimpArgs false
set_option linter.unusedVariables false
namespace Go.Proofs.YtdcainmlcpafbaaGreatDoor
open Go.RowKit

theorem Books.widen {w : World} {base R : Nat} {vb vi : Value} {eb ei : List Ent} (h : Books (fun _ => False) w base R vb vi eb ei) (L : Nat) (hL : w.heap.size ≤ L) : Books (fun g => g = L) w base R vb vi eb ei := by
  have hb : ∀ g, base ≤ g → g < w.heap.size → ¬ badOf (fun _ => False) vb vi g → w.heap[g]? = w.heap[g]? ∧ ¬ badOf (fun g => g = L) vb vi g := by
    intro g _ h2 h3
    refine ⟨rfl, ?_⟩
    rintro (h4 | h4 | h4)
    · exact h3 (.inl h4)
    · exact h3 (.inr (.inl h4))
    · omega
  exact { c4 := h.c4, c5 := h.c5, c6 := h.c6, c7 := h.c7, c8 := h.c8, free := h.free, lt := h.lt, le := h.le, ob := h.ob, oi := h.oi, ne := h.ne, nb := h.nb, ni := h.ni,
          okb := fun e he => (h.okb e he).kept (Nat.le_refl _) hb, oki := fun e he => (h.oki e he).kept (Nat.le_refl _) hb,
          xb := fun g hg => by have := (h.ob.lt g hg).2; omega, xi := fun g hg => by have := (h.oi.lt g hg).2; omega, xR := by have := h.lt; have := h.le; omega, small := h.small }
theorem Books.poke {w w' : World} {base R L : Nat} {vb vi : Value} {eb ei : List Ent} (h : Books (fun g => g = L) w base R vb vi eb ei) (hg : w.grownBy w' (some L)) : Books (fun _ => False) w' base R vb vi eb ei := by
  have hR : R < w.heap.size := Nat.lt_of_lt_of_le h.lt h.le
  have hRL : R ≠ L := h.xR
  have hRb : w'.heap[R]? = w.heap[R]? := hg.block R hR (by simpa using hRL)
  have hc : ∀ i, w'.cell? ⟨R, i, none⟩ = w.cell? ⟨R, i, none⟩ := fun i => World.cell?_of_block (w := w) (a := ⟨R, i, none⟩) hRb
  have hb : ∀ g, base ≤ g → g < w.heap.size → ¬ badOf (fun g => g = L) vb vi g → w'.heap[g]? = w.heap[g]? ∧ ¬ badOf (fun _ => False) vb vi g := by
    intro g _ h2 h3
    refine ⟨hg.block g h2 (fun hh => h3 (.inr (.inr (by simpa using hh)))), ?_⟩
    rintro (h4 | h4 | h4)
    · exact h3 (.inl h4)
    · exact h3 (.inr (.inl h4))
    · exact h4
  have ho : ∀ (v : Value), (∀ g, v.ownBlock = some g → ¬ g = L) → v.ownBlock = none ∨ v.ownBlock ≠ some L := by
    intro v hv
    right
    intro hh
    exact hv L hh rfl
  exact { c4 := (hc 4).trans h.c4, c5 := (hc 5).trans h.c5, c6 := (hc 6).trans h.c6, c7 := (hc 7).trans h.c7, c8 := (hc 8).trans h.c8, free := fun i => (World.frozen?_of_block (w := w) (a := ⟨R, i, none⟩) hRb).trans (h.free i), lt := h.lt, le := Nat.le_trans h.le hg.size,
          ob := h.ob.kept hg (ho _ h.xb), oi := h.oi.kept hg (ho _ h.xi), ne := h.ne, nb := h.nb, ni := h.ni,
          okb := fun e he => (h.okb e he).kept hg.size hb, oki := fun e he => (h.oki e he).kept hg.size hb,
          xb := fun _ _ hf => hf, xi := fun _ _ hf => hf, xR := fun hf => hf, small := h.small }
/-- A list of numbers that was lent (nil stays nil). -/
def LentI (w : World) (a' : Option Addr) (c' : Nat) (a : Option Addr) (zs : List Int) (L : Nat) : Prop :=
  (a = none ∧ zs = []) ∨ ∃ ad, a = some ad ∧ a' = some ⟨L, 0, none⟩ ∧ c' = zs.length + 3 ∧ ∃ base, w.ownsRow base 3 1 (.slice (some ⟨L, 0, none⟩) (zs.length + 3) (zs.length + 3)) (zs.length + 3) (lent (zs.map (Value.int .i64)) (.int .i64 77))
theorem own_same {w w' : World} {base : Nat} {e : TypeId} {g n : Nat} {xs : List Value} (h : w.ownsRow base e 1 (.slice (some ⟨g, 0, none⟩) n n) n xs) (hg : w'.heap[g]? = w.heap[g]?) : w'.ownsRow base e 1 (.slice (some ⟨g, 0, none⟩) n n) n xs := by
  obtain ⟨h1, h2, h3, h4⟩ := full_row h
  exact row_full h1 (hg.trans h2) h3 h4
theorem LentI.kept {w w' : World} {a' : Option Addr} {c' : Nat} {a : Option Addr} {zs : List Int} {L : Nat} (h : LentI w a' c' a zs L) (hg : w'.heap[L]? = w.heap[L]?) : LentI w' a' c' a zs L := by
  rcases h with h | ⟨ad, h1, h2, h3, base, h4⟩
  · exact .inl h
  · exact .inr ⟨ad, h1, h2, h3, base, own_same h4 hg⟩
theorem lentInts_any (a : Option Addr) (zs : List Int) (c Ln : Nat) (w : World) (hs : zs.length ≤ 2000000) (hz : intsAt w a zs) (hLn : Ln < w.heap.size) :
    Calls Tryz.prog 97 #[.slice a zs.length c] w fun e w' => ∃ a' c' L, e = .returned (.slice a' zs.length c') ∧ Below w.heap.size w w' ∧ intsAt w' a' zs ∧ L < w'.heap.size ∧ (L = Ln ∨ w.heap.size ≤ L) ∧ LentI w' a' c' a zs L := by
  cases a with
  | none =>
    have h0 : zs = [] := by
      rcases hz with h | ⟨g, off, h, _⟩
      · exact h
      · cases h
    subst h0
    refine (lentInts_nil c w).mono ?_
    rintro e w' ⟨rfl, rfl⟩
    exact ⟨none, 0, Ln, rfl, Below.refl _ _, .inl rfl, hLn, .inl rfl, .inl ⟨rfl, rfl⟩⟩
  | some ad =>
    refine (lentInts_some ad zs c w hs hz).mono ?_
    rintro e w' ⟨rfl, ho, hb⟩
    have hlt := (ho.lt w.heap.size rfl).2
    refine ⟨some ⟨w.heap.size, 0, none⟩, zs.length + 3, w.heap.size, rfl, hb, .inr ⟨w.heap.size, 0, rfl, hlt, fun j hj => ?_⟩, hlt, .inr (Nat.le_refl _), .inr ⟨ad, rfl, rfl, rfl, w.heap.size, ho⟩⟩
    rw [Nat.zero_add, ho.cellAt j (by omega), lent_low (by simpa using hj)]
    simp [hj]
theorem wholeInts_any (a' a : Option Addr) (c' c : Nat) (zs : List Int) (L : Nat) (w : World) (hs : zs.length ≤ 2000000) (hz : intsAt w a zs) (hl : LentI w a' c' a zs L) (hne : ∀ ad, a = some ad → zs ≠ [] → ad.block ≠ L) :
    Calls Tryz.prog 101 #[.slice a' zs.length c', .slice a zs.length c] w fun e w' => e = .returned (.bool true) ∧ w.grownBy w' (some L) := by
  rcases hl with ⟨rfl, rfl⟩ | ⟨ad, rfl, rfl, rfl, base, ho⟩
  · refine (wholeInts_nil _ c w).mono ?_
    rintro e w' ⟨rfl, rfl⟩
    exact ⟨rfl, World.grownBy.refl _ _⟩
  · exact wholeInts_some ad zs c base L w hs hz (hne ad rfl) ho
structure MsgD where
  k : Int
  f : Int
  e : Int
  b : Int
  wa : Int
  p : Int
  s : Int
  q : Int
  bl : Int
  v : Int
  a : Option Addr
  c : Nat
  zs : List Int
def MsgD.cells (m : MsgD) : List Value := [.int .i64 m.k, .int .i64 m.f, .int .i64 m.e, .int .i64 m.b, .int .i64 m.wa, .int .i64 m.p, .int .i64 m.s, .int .i64 m.q, .int .i64 m.bl, .int .i64 m.v, .slice m.a m.zs.length m.c]
def MsgD.ok (m : MsgD) : Prop := (-9223372036854775808 ≤ m.k ∧ m.k ≤ 9223372036854775807) ∧ (-9223372036854775808 ≤ m.v ∧ m.v ≤ 9223372036854775807) ∧ m.zs.length ≤ 2000000
/-- The messages that a script speaks of: they lie below base, and not where its world does. -/
structure GoodsAt (base R : Nat) (w : World) (ao : Option Addr) (ms : List MsgD) : Prop where
  arr : ms = [] ∨ ∃ g off, ao = some ⟨g, off, none⟩ ∧ g < base ∧ g ≠ R ∧ ∀ j (h : j < ms.length) i, i < 11 → w.cell? ⟨g, off + j * 11 + i, none⟩ = some (ms[j].cells.getD i undef)
  vals : ∀ m ∈ ms, m.zs = [] ∨ ∃ g off, m.a = some ⟨g, off, none⟩ ∧ g < base ∧ g ≠ R ∧ ∀ j (h : j < m.zs.length), w.cell? ⟨g, off + j, none⟩ = some (.int .i64 m.zs[j])
theorem GoodsAt.saved {base R : Nat} {w w' : World} {ao : Option Addr} {ms : List MsgD} (h : GoodsAt base R w ao ms) (hs : Save base R w w') : GoodsAt base R w' ao ms := by
  refine ⟨?_, fun m hm => ?_⟩
  · rcases h.arr with h0 | ⟨g, off, h1, h2, h3, h4⟩
    · exact .inl h0
    · exact .inr ⟨g, off, h1, h2, h3, fun j hj i hi => (hs.cell (by exact h2) (by exact h3)).trans (h4 j hj i hi)⟩
  · rcases h.vals m hm with h0 | ⟨g, off, h1, h2, h3, h4⟩
    · exact .inl h0
    · exact .inr ⟨g, off, h1, h2, h3, fun j hj => (hs.cell (by exact h2) (by exact h3)).trans (h4 j hj)⟩
theorem GoodsAt.ints {base R : Nat} {w : World} {ao : Option Addr} {ms : List MsgD} (h : GoodsAt base R w ao ms) (hb : base ≤ w.heap.size) {m : MsgD} (hm : m ∈ ms) : intsAt w m.a m.zs := by
  rcases h.vals m hm with h0 | ⟨g, off, h1, h2, h3, h4⟩
  · exact .inl h0
  · exact .inr ⟨g, off, h1, by omega, h4⟩
/-- What holds of a script's world between its steps. -/
structure InvM (base R n : Nat) (w : World) : Prop where
  two : 2 ≤ R
  tabs : Tabs w
  here : ∃ ao c ms vb vi eb ei, w.cell? ⟨R, 0, none⟩ = some (.slice ao ms.length c) ∧ GoodsAt base R w ao ms ∧ (∀ m ∈ ms, m.ok) ∧ ms.length ≤ 9223372036854775807 ∧ Books (fun _ => False) w base R vb vi eb ei ∧ eb.length + ei.length ≤ n
theorem Tabs.saved {base R : Nat} {w w' : World} (h : Tabs w) (hs : Save base R w w') (h2 : 2 ≤ R) (hR : R < base) : Tabs w' := h.below (hs.below (B := 2) (by omega) h2) (Nat.le_refl _)
theorem InvM.later {base R n m : Nat} {w w' : World} (h : InvM base R n w) (hb : Below w.heap.size w w') (hnm : n ≤ m) : InvM base R m w' ∧ Save base R w w' := by
  obtain ⟨ao, c, ms, vb, vi, eb, ei, h1, h2, h3, h4, h5, h6⟩ := h.here
  have hs : Save base R w w' := Save.of_below hb h5.le
  have hR : R < w.heap.size := Nat.lt_of_lt_of_le h5.lt h5.le
  exact ⟨⟨h.two, h.tabs.saved hs h.two h5.lt, ao, c, ms, vb, vi, eb, ei, (hb.cell (by exact hR)).trans h1, h2.saved hs, h3, h4, h5.later hb, by omega⟩, hs⟩
end Go.Proofs.YtdcainmlcpafbaaGreatDoor
