import Derived.Test.YtdcainmlcpafbaaGreatDoorG5
set_option linter.unusedSimpArgs false
set_option linter.unusedVariables false
namespace Go.Proofs.YtdcainmlcpafbaaGreatDoor
open Go.RowKit

theorem lent_len (xs : List Value) (c : Value) : (lent xs c).length = xs.length + 3 := by simp [lent]
theorem lent_low {xs : List Value} {c : Value} {j : Nat} (h : j < xs.length) : (lent xs c)[j]? = xs[j]? := by
  unfold lent
  rw [List.getElem?_append_left h]
theorem lent_high {xs : List Value} {c : Value} {j : Nat} (h : xs.length ≤ j) (h3 : j < xs.length + 3) : (lent xs c)[j]? = some c := by
  unfold lent
  rw [List.getElem?_append_right h]
  obtain h | h | h : j - xs.length = 0 ∨ j - xs.length = 1 ∨ j - xs.length = 2 := by omega
  all_goals rw [h]; rfl
theorem grown_trans {a b c : World} {r : Option Nat} (h : a.grownBy b r) (k : b.grownBy c r) : a.grownBy c r :=
  ⟨k.os.trans h.os, k.tape.trans h.tape, k.output.trans h.output, Nat.le_trans h.size k.size, fun i hi hn => (k.block i (Nat.lt_of_lt_of_le hi h.size) hn).trans (h.block i hi hn)⟩

set_option maxHeartbeats 4000000 in
set_option maxRecDepth 20000 in
theorem wholeBytes_any (s : ByteArray) (base g : Nat) (w : World) (hs : s.size ≤ 2000000) (how : w.ownsRow base 5 1 (.slice (some ⟨g, 0, none⟩) (s.size + 3) (s.size + 3)) (s.size + 3) (lent (Lib.byteCells s.data.toList) (.int .u8 77))) :
    Calls Tryz.prog 107 #[.slice (some ⟨g, 0, none⟩) s.size (s.size + 3), .string s] w fun e w' => e = .returned (.bool true) ∧ w.grownBy w' (some g) := by
  have hxl : (Lib.byteCells s.data.toList).length = s.size := by rw [Lib.byteCells_length]; exact Array.length_toList
  have hba : bytesAt w (.slice (some ⟨g, 0, none⟩) s.size (s.size + 3)) s.data.toList := by
    refine ⟨some ⟨g, 0, none⟩, s.size + 3, by rw [Array.length_toList]; rfl, by rw [Array.length_toList]; show s.size ≤ _; omega, by unfold maxLen; omega, .inr ⟨g, 0, rfl, fun j hj => ?_⟩⟩
    have hj' : j < s.size := by simpa using hj
    rw [Nat.zero_add, how.cellAt j (by omega), lent_low (by rw [hxl]; exact hj')]
    simp [Lib.byteCells, hj']
  have hconv := conv_bytes hba
  rw [strOf_data] at hconv
  clear hba
  have HO0 : Hid (w.ownsRow base 5 1 (.slice (some ⟨g, 0, none⟩) (s.size + 3) (s.size + 3)) (s.size + 3) (lent (Lib.byteCells s.data.toList) (.int .u8 77))) := how
  clear how
  go_enter Tryz.func107, Tryz.ntmps107
  go_wp2
  go_loopw [7, 8] (fun okx ix wr => ∃ (t : Nat) (ys : List Value), t ≤ s.size + 3 ∧ okx = .bool true ∧ ix = .int .i64 t ∧ wr.ownsRow base 5 1 (.slice (some ⟨g, 0, none⟩) (s.size + 3) (s.size + 3)) (s.size + 3) ys ∧ (∀ j, t ≤ j → ys[j]? = (lent (Lib.byteCells s.data.toList) (.int .u8 77))[j]?) ∧ w.grownBy wr (some g)) (fun _ ix _ => s.size + 3 - (intOf ix).toNat)
  case atStart => exact ⟨0, _, by omega, rfl, rfl, HO0.out, fun j _ => rfl, World.grownBy.refl _ _⟩
  case round =>
    obtain ⟨t, ys, ht, rfl, rfl, ho, hy, hgr⟩ := hrel
    have HO : Hid (wr.ownsRow base 5 1 (.slice (some ⟨g, 0, none⟩) (s.size + 3) (s.size + 3)) (s.size + 3) ys) := ho
    have HY : Hid _ := hy
    have HG : Hid _ := hgr
    have hyl : ys.length = s.size + 3 := by simpa using ho.1
    clear ho hy hgr HO0
    by_cases htl : t < s.size + 3
    · have hct := HO.out.cellAt t (by omega)
      have hft := HO.out.frozenAt t
      have htl2 : (t : Int) < (s.size : Int) + 3 := by omega
      have hrow := HY.out t (Nat.le_refl _)
      obtain ⟨ho2, hg2⟩ := HO.out.stored t (.int .u8 200)
      have HO2 : Hid _ := ho2
      have HG2 : Hid _ := hg2
      clear ho2 hg2
      by_cases htn : t < s.size
      · rw [hrow, lent_low (by omega)] at hct
        rw [List.getElem?_eq_getElem (by omega)] at hct
        have htn2 : (t : Int) < (s.size : Int) := by omega
        clear hrow
        go_wp2
        go_roundw
        case rel =>
          refine ⟨t + 1, _, by omega, rfl, by go_num, HO2.out, fun j hj => ?_, grown_trans HG.out ⟨HG2.out.os, HG2.out.tape, HG2.out.output, HG2.out.size, HG2.out.block⟩⟩
          rw [List.getElem?_set_ne (by omega)]; exact HY.out j (by omega)
        case measure => simp [intOf]; omega
      · rw [hrow, lent_high (by omega) (by omega)] at hct
        have htn2 : ¬ (t : Int) < (s.size : Int) := by omega
        clear hrow
        go_wp2
        go_roundw
        case rel =>
          refine ⟨t + 1, _, by omega, rfl, by go_num, HO2.out, fun j hj => ?_, grown_trans HG.out ⟨HG2.out.os, HG2.out.tape, HG2.out.output, HG2.out.size, HG2.out.block⟩⟩
          rw [List.getElem?_set_ne (by omega)]; exact HY.out j (by omega)
        case measure => simp [intOf]; omega
    · obtain rfl : t = s.size + 3 := by omega
      go_wp2
      go_ret
      exact ⟨rfl, HG.out⟩

set_option maxHeartbeats 4000000 in
set_option maxRecDepth 20000 in
theorem wholeInts_some (ad : Addr) (zs : List Int) (cp base g : Nat) (w : World) (hs : zs.length ≤ 2000000) (hz : intsAt w (some ad) zs) (hne : zs ≠ [] → ad.block ≠ g) (how : w.ownsRow base 3 1 (.slice (some ⟨g, 0, none⟩) (zs.length + 3) (zs.length + 3)) (zs.length + 3) (lent (zs.map (Value.int .i64)) (.int .i64 77))) :
    Calls Tryz.prog 101 #[.slice (some ⟨g, 0, none⟩) zs.length (zs.length + 3), .slice (some ad) zs.length cp] w fun e w' => e = .returned (.bool true) ∧ w.grownBy w' (some g) := by
  have hxl : (zs.map (Value.int .i64)).length = zs.length := List.length_map ..
  have hnil := run_eql_slice_nil (P := Tryz.prog) w 59 3 (some ad) zs.length cp Tryz.underlying59
  have HZ : Hid (intsAt w (some ad) zs) := hz
  clear hz
  have HO0 : Hid (w.ownsRow base 3 1 (.slice (some ⟨g, 0, none⟩) (zs.length + 3) (zs.length + 3)) (zs.length + 3) (lent (zs.map (Value.int .i64)) (.int .i64 77))) := how
  clear how
  go_enter Tryz.func101, Tryz.ntmps101
  go_wp2
  go_loopw [7, 8] (fun okx ix wr => ∃ (t : Nat) (ys : List Value), t ≤ zs.length + 3 ∧ okx = .bool true ∧ ix = .int .i64 t ∧ wr.ownsRow base 3 1 (.slice (some ⟨g, 0, none⟩) (zs.length + 3) (zs.length + 3)) (zs.length + 3) ys ∧ (∀ j, t ≤ j → ys[j]? = (lent (zs.map (Value.int .i64)) (.int .i64 77))[j]?) ∧ w.grownBy wr (some g)) (fun _ ix _ => zs.length + 3 - (intOf ix).toNat)
  case atStart => exact ⟨0, _, by omega, rfl, rfl, HO0.out, fun j _ => rfl, World.grownBy.refl _ _⟩
  case round =>
    obtain ⟨t, ys, ht, rfl, rfl, ho, hy, hgr⟩ := hrel
    have HO : Hid (wr.ownsRow base 3 1 (.slice (some ⟨g, 0, none⟩) (zs.length + 3) (zs.length + 3)) (zs.length + 3) ys) := ho
    have HY : Hid _ := hy
    have HG : Hid _ := hgr
    have hyl : ys.length = zs.length + 3 := by simpa using ho.1
    clear ho hy hgr HO0
    by_cases htl : t < zs.length + 3
    · have hct := HO.out.cellAt t (by omega)
      have hft := HO.out.frozenAt t
      have htl2 : (t : Int) < (zs.length : Int) + 3 := by omega
      have hrow := HY.out t (Nat.le_refl _)
      obtain ⟨ho2, hg2⟩ := HO.out.stored t (.int .i64 (-5))
      have HO2 : Hid _ := ho2
      have HG2 : Hid _ := hg2
      clear ho2 hg2
      by_cases htn : t < zs.length
      · rw [hrow, lent_low (by omega)] at hct
        rw [List.getElem?_map, List.getElem?_eq_getElem htn, Option.map_some] at hct
        obtain ⟨gl, off, hgl, hgl2, hgl3⟩ : ∃ gl off, (some ad : Option Addr) = some ⟨gl, off, none⟩ ∧ gl < w.heap.size ∧ ∀ j (h : j < zs.length), w.cell? ⟨gl, off + j, none⟩ = some (.int .i64 zs[j]) := by
          rcases HZ.out with h | ⟨gl, off, h1, h2, h3⟩
          · rw [h] at htn; simp at htn
          · exact ⟨gl, off, h1, h2, h3⟩
        obtain rfl : ad = ⟨gl, off, none⟩ := by simpa using hgl
        have hcl : wr.cell? ⟨gl, off + t, none⟩ = some (.int .i64 zs[t]) := (World.cell?_of_block (w := w) (a := ⟨gl, off + t, none⟩) (HG.out.block gl hgl2 (by have h9 := hne (by intro h0; rw [h0] at htn; simp at htn); simpa using h9))).trans (hgl3 t htn)
        clear hgl hgl3
        generalize zs[t] = ZT at *
        have htn2 : (t : Int) < (zs.length : Int) := by omega
        clear hrow
        go_wp2
        go_quiet (fail)
        go_wp2
        go_roundw
        case rel =>
          refine ⟨t + 1, _, by omega, rfl, by go_num, HO2.out, fun j hj => ?_, grown_trans HG.out ⟨HG2.out.os, HG2.out.tape, HG2.out.output, HG2.out.size, HG2.out.block⟩⟩
          rw [List.getElem?_set_ne (by omega)]; exact HY.out j (by omega)
        case measure => simp [intOf]; omega
      · rw [hrow, lent_high (by omega) (by omega)] at hct
        have htn2 : ¬ (t : Int) < (zs.length : Int) := by omega
        clear hrow
        go_wp2
        go_quiet (fail)
        go_wp2
        go_roundw
        case rel =>
          refine ⟨t + 1, _, by omega, rfl, by go_num, HO2.out, fun j hj => ?_, grown_trans HG.out ⟨HG2.out.os, HG2.out.tape, HG2.out.output, HG2.out.size, HG2.out.block⟩⟩
          rw [List.getElem?_set_ne (by omega)]; exact HY.out j (by omega)
        case measure => simp [intOf]; omega
    · obtain rfl : t = zs.length + 3 := by omega
      go_wp2
      go_ret
      exact ⟨rfl, HG.out⟩

set_option maxRecDepth 20000 in
theorem lentInts_nil (c : Nat) (w : World) : Calls Tryz.prog 97 #[.slice none 0 c] w fun e w' => e = .returned (.slice none 0 0) ∧ w' = w := by
  have hnil := run_eql_slice_nil (P := Tryz.prog) w 59 3 none 0 c Tryz.underlying59
  go_enter Tryz.func97, Tryz.ntmps97
  go_wp2
  go_ret
  exact ⟨rfl, rfl⟩
set_option maxRecDepth 20000 in
theorem wholeInts_nil (v : Value) (c : Nat) (w : World) : Calls Tryz.prog 101 #[v, .slice none 0 c] w fun e w' => e = .returned (.bool true) ∧ w' = w := by
  have hnil := run_eql_slice_nil (P := Tryz.prog) w 59 3 none 0 c Tryz.underlying59
  go_enter Tryz.func101, Tryz.ntmps101
  go_wp2
  go_ret
  exact ⟨rfl, rfl⟩
end Go.Proofs.YtdcainmlcpafbaaGreatDoor
