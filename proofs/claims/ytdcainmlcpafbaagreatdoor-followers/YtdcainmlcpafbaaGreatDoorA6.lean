import Derived.Test.YtdcainmlcpafbaaGreatDoorA5
namespace Go.Proofs.YtdcainmlcpafbaaGreatDoor
open Go.RowKit

def natOf (bs : List UInt8) : Nat := bs.foldl (fun n x => n * 256 + x.toNat) 0
theorem natOf_snoc (bs : List UInt8) (x : UInt8) : natOf (bs ++ [x]) = natOf bs * 256 + x.toNat := by simp [natOf]
theorem natOf_lt : ∀ (bs : List UInt8), natOf bs < 256 ^ bs.length := by
  intro bs
  have key : ∀ (n : Nat) (bs : List UInt8), bs.length = n → natOf bs < 256 ^ n := by
    intro n
    induction n with
    | zero => intro bs h; rw [List.eq_nil_of_length_eq_zero h]; decide
    | succ n ih =>
      intro bs h
      rcases List.eq_nil_or_concat bs with rfl | ⟨l, x, rfl⟩
      · simp at h
      · rw [List.concat_eq_append] at h ⊢
        have h2 : l.length = n := by simpa using h
        have := ih l h2
        have hx := x.toNat_lt
        rw [natOf_snoc, Nat.pow_succ]
        omega
  exact key _ bs rfl
theorem natOf_lt7 (bs : List UInt8) (h : bs.length ≤ 7) : natOf bs < 72057594037927936 := by
  have h1 := natOf_lt bs
  have h2 : 256 ^ bs.length ≤ 256 ^ 7 := Nat.pow_le_pow_right (by omega) h
  have h3 : (256 : Nat) ^ 7 = 72057594037927936 := by decide
  omega
def numVal (bs : List UInt8) : Int := wrap64 (natOf bs : Int)

/-- All blocks but one are as they were. -/
structure But (B : Nat) (w w' : World) : Prop where
  os : w'.os = w.os
  tape : w'.tape = w.tape
  output : w'.output = w.output
  size : w'.heap.size = w.heap.size
  block : ∀ k, k ≠ B → w'.heap[k]? = w.heap[k]?
theorem But.setCell (w : World) (a : Addr) (u : Value) : But a.block w (w.setCell a u) :=
  ⟨rfl, rfl, rfl, by simp [World.setCell], fun k hk => Below.heap_setCell _ _ _ _ hk⟩
theorem But.cell {B : Nat} {w w' : World} (h : But B w w') {p : Addr} (hp : p.block ≠ B) : w'.cell? p = w.cell? p := World.cell?_of_block (w := w) (h.block p.block hp)
theorem But.frozen {B : Nat} {w w' : World} (h : But B w w') {p : Addr} (hp : p.block ≠ B) : w'.frozen? p = w.frozen? p := World.frozen?_of_block (w := w) (h.block p.block hp)
theorem But.below {B C : Nat} {w w' : World} (h : But B w w') (hC : C ≤ B) : Below C w w' := ⟨h.os, h.tape, h.output, by rw [h.size]; exact Nat.le_refl _, fun k hk => h.block k (by omega)⟩

theorem u64_join (n : Nat) (x : UInt8) (h2 : n < 72057594037927936) : bits .or .u64 ((n : Int) * 256) (x.toNat : Int) = ((n * 256 + x.toNat : Nat) : Int) := by
  have hx := x.toNat_lt
  have e := u64_or_nat (n * 256) x.toNat (by omega) (by omega)
  have e3 : n * 256 ||| x.toNat = n * 256 + x.toNat := by
    have := Nat.shiftLeft_add_eq_or_of_lt (i := 8) (b := x.toNat) (by omega) n
    rw [Nat.shiftLeft_eq] at this
    exact this.symm
  rw [e3] at e
  rw [← e]
  rfl

set_option maxHeartbeats 400000 in
theorem number_short (B : Nat) (ao : Option Addr) (n cap width : Nat) (w : World) (hlt : n < width) (_hw8 : width ≤ 8) (hc : w.cell? ⟨B, 0, none⟩ = some (.slice ao n cap)) (hf : w.frozen? ⟨B, 0, none⟩ = false) :
    Calls Tryz.prog 250 #[.pointer (some ⟨B, 0, none⟩), .int .i64 width] w fun e w' => e = .returned (.int .i64 0) ∧ w' = w.setCell ⟨B, 0, none⟩ (.slice none 0 0) := by
  go_enter Tryz.func250, Tryz.ntmps250
  go_wp2
  go_ret
  exact ⟨rfl, rfl⟩

set_option maxHeartbeats 400000 in
theorem number_long (B g off cap : Nat) (bs : List UInt8) (width : Nat) (w : World) (hw1 : 1 ≤ width) (hw8 : width ≤ 8) (hle : width ≤ bs.length) (hcap : bs.length ≤ cap) (hm : cap ≤ maxLen)
    (hc : w.cell? ⟨B, 0, none⟩ = some (.slice (some ⟨g, off, none⟩) bs.length cap)) (hf : w.frozen? ⟨B, 0, none⟩ = false)
    (hb : ∀ j (h : j < bs.length), w.cell? ⟨g, off + j, none⟩ = some (.int .u8 (bs[j].toNat : Int))) :
    Calls Tryz.prog 250 #[.pointer (some ⟨B, 0, none⟩), .int .i64 width] w fun e w' => e = .returned (.int .i64 (numVal (bs.take width))) ∧ ∃ ao, w' = w.setCell ⟨B, 0, none⟩ (.slice ao (bs.length - width) (cap - width)) ∧ (bs.length ≠ width → ao = some ⟨g, off + width, none⟩) := by
  unfold maxLen at hm
  have dn : decide (bs.length < width) = false := by simp; omega
  go_enter Tryz.func250, Tryz.ntmps250
  go_wp2
  go_loop [5, 25] (fun n i => ∃ t : Nat, t ≤ width ∧ i = .int .i64 t ∧ n = .int .u64 (natOf (bs.take t) : Int)) (fun _ i => width - (intOf i).toNat)
  case atStart => exact ⟨0, Nat.zero_le _, rfl, rfl⟩
  case round =>
    obtain ⟨t, htw, rfl, rfl⟩ := hrel
    by_cases htl : t < width
    · have hnb := natOf_lt7 (bs.take t) (by rw [List.length_take]; omega)
      have hct := hb t (by omega)
      have HT : Hid (natOf (bs.take (t + 1)) = natOf (bs.take t) * 256 + bs[t].toNat) := by
        unfold Hid; rw [take_snoc bs t (by omega), natOf_snoc]
      have HJ : Hid _ := u64_join (natOf (bs.take t)) bs[t] hnb
      have hx : (bs[t].toNat : Int) < 256 := by have := bs[t].toNat_lt; omega
      have htb : t < bs.length := by omega
      generalize hX : bs[t] = X at *
      generalize natOf (bs.take t) = N at *
      clear hX hb
      go_wp2
      go_round
      case rel => exact ⟨t + 1, by omega, by go_num, by rw [HT.out]; exact congrArg (Value.int .u64) HJ.out⟩
      case measure => simp [intOf]; omega
    · have htw2 : t = width := by omega
      subst htw2
      clear hb
      go_wp2
      · go_ret
        exact ⟨rfl, _, rfl, fun h => by omega⟩
      · go_ret
        exact ⟨rfl, _, rfl, fun _ => rfl⟩

/-- The bytes that a reader has still to read: their block lies below a number. -/
def restAt (w : World) (lim : Nat) (v : Value) (bs : List UInt8) : Prop :=
  ∃ ao cap, v = .slice ao bs.length cap ∧ bs.length ≤ cap ∧ cap ≤ maxLen ∧ (bs = [] ∨ ∃ g off, ao = some ⟨g, off, none⟩ ∧ g < lim ∧ ∀ j (h : j < bs.length), w.cell? ⟨g, off + j, none⟩ = some (.int .u8 (bs[j].toNat : Int)))

def takeNum (bs : List UInt8) (width : Nat) : Int := if bs.length < width then 0 else numVal (bs.take width)
def dropNum (bs : List UInt8) (width : Nat) : List UInt8 := if bs.length < width then [] else bs.drop width

theorem number_any (B lim : Nat) (v : Value) (bs : List UInt8) (width : Nat) (w : World) (hw1 : 1 ≤ width) (hw8 : width ≤ 8) (hlim : lim ≤ B)
    (hc : w.cell? ⟨B, 0, none⟩ = some v) (hf : w.frozen? ⟨B, 0, none⟩ = false) (hr : restAt w lim v bs) :
    Calls Tryz.prog 250 #[.pointer (some ⟨B, 0, none⟩), .int .i64 width] w fun e w' => e = .returned (.int .i64 (takeNum bs width)) ∧ ∃ v', w'.cell? ⟨B, 0, none⟩ = some v' ∧ w'.frozen? ⟨B, 0, none⟩ = false ∧ restAt w' lim v' (dropNum bs width) ∧ But B w w' := by
  obtain ⟨ao, cap, rfl, h1, h2, h3⟩ := hr
  unfold takeNum dropNum
  by_cases hlt : bs.length < width
  · rw [if_pos hlt, if_pos hlt]
    refine (number_short B ao bs.length cap width w hlt hw8 hc hf).mono ?_
    rintro e w' ⟨rfl, rfl⟩
    exact ⟨rfl, _, World.cell?_setCell_same _ _ _ hc, by simpa using hf, ⟨none, 0, rfl, Nat.le_refl _, by simp [maxLen], .inl rfl⟩, But.setCell w ⟨B, 0, none⟩ _⟩
  · rw [if_neg hlt, if_neg hlt]
    rcases h3 with rfl | ⟨g, off, rfl, hg, hb⟩
    · simp at hlt; omega
    refine (number_long B g off cap bs width w hw1 hw8 (by omega) h1 h2 hc hf hb).mono ?_
    rintro e w' ⟨rfl, ao, rfl, hao⟩
    refine ⟨rfl, _, World.cell?_setCell_same _ _ _ hc, by simpa using hf, ⟨ao, cap - width, by simp, by simp; omega, by omega, ?_⟩, But.setCell w ⟨B, 0, none⟩ _⟩
    by_cases he : bs.length = width
    · exact .inl (by simp [he])
    · refine .inr ⟨g, off + width, hao he, hg, fun j hj => ?_⟩
      rw [World.cell?_setCell_other _ _ _ _ (by intro h; have := congrArg Addr.block h; simp at this; omega)]
      have hj2 : width + j < bs.length := by rw [List.length_drop] at hj; omega
      have := hb (width + j) hj2
      rw [Nat.add_assoc, this, List.getElem_drop]

end Go.Proofs.YtdcainmlcpafbaaGreatDoor
