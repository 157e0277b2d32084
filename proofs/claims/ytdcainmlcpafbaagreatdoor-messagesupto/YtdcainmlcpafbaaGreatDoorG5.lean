import Derived.Test.YtdcainmlcpafbaaGreatDoorG4
import Derived.Lib.LazyBuf
import Derived.Lib.BufferWrite
import Derived.Laws.CopyOwn
set_option linter.unusedSimpArgs false
set_option linter.unusedVariables false
namespace Go.Proofs.YtdcainmlcpafbaaGreatDoor
open Go.RowKit

set_option maxRecDepth 20000 in
theorem num_any (n : Int) (w : World) : Calls Tryz.prog 99 #[.int .i64 n] w fun e w' => e = .returned (.int .i64 n) ∧ w' = w := by
  go_enter Tryz.func99, Tryz.ntmps99
  go_wp2
  go_ret
  exact ⟨rfl, rfl⟩
theorem full_row {w : World} {base : Nat} {e : TypeId} {g n : Nat} {xs : List Value} (h : w.ownsRow base e 1 (.slice (some ⟨g, 0, none⟩) n n) n xs) : base ≤ g ∧ w.heap[g]? = some (.cells xs.toArray e (0, 0)) ∧ xs.length = n ∧ n ≤ maxLen := by
  obtain ⟨h0, h1⟩ := h
  rcases h1 with ⟨h1, _⟩ | ⟨g', cap, cur, h1, h2, h3, h4, h5, h6, h7⟩
  · cases h1
  · cases h1
    have h8 : cur.toList = xs := by rw [← h7, List.take_of_length_le (by simp; omega)]
    refine ⟨h2, ?_, by omega, h5⟩
    rw [h3, ← h8]
theorem row_full {w : World} {base : Nat} {e : TypeId} {g n : Nat} {xs : List Value} (h1 : base ≤ g) (h2 : w.heap[g]? = some (.cells xs.toArray e (0, 0))) (h3 : xs.length = n) (h4 : n ≤ maxLen) : w.ownsRow base e 1 (.slice (some ⟨g, 0, none⟩) n n) n xs :=
  ⟨by omega, .inr ⟨g, n, xs.toArray, rfl, h1, h2, Nat.le_refl _, h4, by simp; omega, by rw [List.take_of_length_le (by simp; omega)]⟩⟩

theorem setRow_grown (w : World) (g : Nat) (cs : Array Value) : w.grownBy (w.setRow g cs) (some g) :=
  ⟨rfl, rfl, rfl, by simp [World.setRow], fun k hk hne => setRow_other w g k cs (fun h => hne (by rw [h]))⟩
theorem wpList_copy_str {P : Program} {w : World} {ops : Array Oper} {rest : List Oper} {o : Oper} {a : Act} {Q : Exit → Act → World → Prop} (hgd : o.guard = none) (d s : Operand) (dT sT : TypeId)
    (ho : o.op = .call { callee := .builtin .copy, args := #[d, s], argTypes := #[dT, sT] }) (elem : TypeId) (hu : P.underlying dT = some (.slice elem)) (hsz : (P.info? elem).map (·.size) = some 1)
    (base g n : Nat) (t : ByteArray) (xs : List Value) (hd : a.eval d = .slice (some ⟨g, 0, none⟩) n n) (hs : a.eval s = .string t) (hown : w.ownsRow base elem 1 (.slice (some ⟨g, 0, none⟩) n n) n xs) (hle : t.size ≤ n)
    (h : ∀ w', w'.ownsRow base elem 1 (.slice (some ⟨g, 0, none⟩) n n) n (splice xs 0 (Lib.byteCells t.data.toList)) → w.grownBy w' (some g) → wpList P ops Q rest (a.put o.dst (goInt t.size)) w') : wpList P ops Q (o :: rest) a w := by
  refine wpList_plain hgd fun K hK => ?_
  obtain ⟨h1, h2, h3, h4⟩ := full_row hown
  have hlen : (Lib.byteCells t.data.toList).length = t.size := by rw [Lib.byteCells_length]; exact Array.length_toList
  have hrun := Lib.run_copy_row_string (P := P) w dT sT o.type elem g 0 n n t xs.toArray elem hu hsz h2 hle (by simp; omega)
  have he : (List.take 0 xs.toArray.toList ++ Lib.byteCells t.data.toList ++ List.drop (0 + t.size) xs.toArray.toList) = splice xs 0 (Lib.byteCells t.data.toList) := by
    unfold splice
    rw [hlen]
    simp
  rw [he] at hrun
  unfold Oper.wp
  simp only [execOp, ho, resolve, invoke, builtin, Sem.run_bind, Sem.run_pure, Result.andThen_ok, List.map_toArray, List.map_cons, List.map_nil, hd, hs, hrun]
  exact hK _ _ (h _ (row_full h1 (setRow_heap w g xs.toArray _ elem _ h2) (by rw [length_splice _ _ _ (by rw [hlen]; omega)]; exact h3) h4) (setRow_grown w g _))
theorem wpList_copy_ints {P : Program} {w : World} {ops : Array Oper} {rest : List Oper} {o : Oper} {a : Act} {Q : Exit → Act → World → Prop} (hgd : o.guard = none) (d s : Operand) (dT sT : TypeId)
    (ho : o.op = .call { callee := .builtin .copy, args := #[d, s], argTypes := #[dT, sT] }) (elem : TypeId) (hu : P.underlying dT = some (.slice elem)) (hsz : (P.info? elem).map (·.size) = some 1)
    (base g n : Nat) (p : Option Addr) (cp : Nat) (xs cs : List Value) (hd : a.eval d = .slice (some ⟨g, 0, none⟩) n n) (hs : a.eval s = .slice p cs.length cp) (hown : w.ownsRow base elem 1 (.slice (some ⟨g, 0, none⟩) n n) n xs) (hle : cs.length ≤ n)
    (hsrc : cs = [] ∨ ∃ ad, p = some ad ∧ ∀ j v, cs[j]? = some v → w.cell? (ad.add j) = some v) (h1c : ∀ v ∈ cs, v.oneCell' = true)
    (h : ∀ w', w'.ownsRow base elem 1 (.slice (some ⟨g, 0, none⟩) n n) n (splice xs 0 cs) → w.grownBy w' (some g) → wpList P ops Q rest (a.put o.dst (goInt cs.length)) w') : wpList P ops Q (o :: rest) a w := by
  obtain ⟨h1, h2, h3, h4⟩ := full_row hown
  rcases hsrc with rfl | ⟨ad, rfl, hsrc⟩
  · refine wpList_copy_nothing hgd d s dT sT ho elem hu hsz (some ⟨g, 0, none⟩) p n n 0 cp hd hs (by simp) ?_
    refine h w ?_ (World.grownBy.refl _ _)
    have : splice xs 0 ([] : List Value) = xs := by simp [splice]
    rw [this]; exact hown
  · refine wpList_copy_own hgd d s dT sT ho elem hu hsz g 0 n n ad cs.length cp hd hs xs.toArray elem h2 cs (Nat.min_eq_left hle).symm hsrc (by simp; omega) h1c ?_
    have he : (List.take 0 xs.toArray.toList ++ (cs ++ List.drop (0 + cs.length) xs.toArray.toList)) = splice xs 0 cs := by simp [splice]
    rw [he]
    exact h _ (row_full h1 (setRow_heap w g xs.toArray _ elem _ h2) (by rw [length_splice _ _ _ (by omega)]; exact h3) h4) (setRow_grown w g _)
theorem splice_at {xs cs : List Value} {n : Nat} (h : xs.length = n) (h2 : cs.length ≤ n) (j : Nat) (hj : j < cs.length) : (splice xs 0 cs)[j]? = cs[j]? := by
  simp [splice, List.getElem?_append_left hj]
theorem below_grown {B g : Nat} {w0 w w' : World} (h : Below B w0 w) (hg : w.grownBy w' (some g)) (hB : B ≤ g) (hs : B ≤ w.heap.size) : Below B w0 w' :=
  h.trans ⟨hg.os, hg.tape, hg.output, hg.size, fun k hk => hg.block k (by omega) (by simp; omega)⟩
/-- A list that was lent: xs, and three more behind it. -/
def lent (xs : List Value) (c : Value) : List Value := xs ++ [c, c, c]
theorem lent_of {xs ys : List Value} {c : Value} {n : Nat} (h : ys.length = n + 3) (h0 : xs.length = n) (h1 : ∀ j, j < n → ys[j]? = xs[j]?) (h2 : ∀ j, n ≤ j → j < n + 3 → ys[j]? = some c) : ys = lent xs c := by
  apply List.ext_getElem?
  intro j
  unfold lent
  by_cases hj : j < n
  · rw [h1 j hj, List.getElem?_append_left (by omega)]
  · by_cases hj3 : j < n + 3
    · rw [h2 j (by omega) hj3, List.getElem?_append_right (by omega)]
      obtain h | h | h : j - xs.length = 0 ∨ j - xs.length = 1 ∨ j - xs.length = 2 := by omega
      all_goals rw [h]; rfl
    · rw [List.getElem?_eq_none (by omega), List.getElem?_eq_none (by simp; omega)]

set_option maxHeartbeats 2000000 in
set_option maxRecDepth 20000 in
theorem lentBytes_any (s : ByteArray) (w : World) (hs : s.size ≤ 2000000) :
    Calls Tryz.prog 102 #[.string s] w fun e w' => e = .returned (.slice (some ⟨w.heap.size, 0, none⟩) s.size (s.size + 3)) ∧ w'.ownsRow w.heap.size 5 1 (.slice (some ⟨w.heap.size, 0, none⟩) (s.size + 3) (s.size + 3)) (s.size + 3) (lent (Lib.byteCells s.data.toList) (.int .u8 77)) ∧ Below w.heap.size w w' := by
  obtain ⟨i0, hi0, hz0, hz1, hz2⟩ := info_parts info5
  have hxl : (Lib.byteCells s.data.toList).length = s.size := by rw [Lib.byteCells_length]; exact Array.length_toList
  go_enter Tryz.func102, Tryz.ntmps102
  go_wp2_with (refine wpList_make_full _ rfl _ _ 148 rfl w.heap.size 5 i0 (.int .u8 0) 1 Tryz.underlying148 hi0 hz0 hz1 .i64 .i64 _ _ (s.size + 3) rfl rfl (by go_num) (by go_num) (by rw [hz2]; omega) (by unfold maxLen; omega) (Nat.le_refl _) ?_)
  intro w1 ho1 hg1
  generalize (madeCells #[Value.int IntKind.u8 0] (s.size + 3)).toList = ys0 at ho1
  have hsp : ys0.length = s.size + 3 := by simpa using ho1.1
  have HO1 : Hid _ := ho1
  have HB1 : Hid (Below w.heap.size w w1) := ⟨hg1.os, hg1.tape, hg1.output, hg1.size, fun k hk => hg1.block k hk (by simp)⟩
  clear ho1 hg1
  go_wp2_with (refine wpList_copy_str (by rfl) _ _ 148 9 (by rfl) 5 Tryz.underlying148 (by rw [hi0]; simp [hz1]) w.heap.size w.heap.size (s.size + 3) s _ (by rfl) (by rfl) HO1.out (by omega) ?_)
  intro w2 ho2 hg2
  have hb2 : Below w.heap.size w w2 := below_grown HB1.out hg2 (Nat.le_refl _) HB1.out.size
  have HO2 : Hid _ := ho2
  have HB2 : Hid _ := hb2
  have HC : Hid (∀ j, j < s.size → (splice ys0 0 (Lib.byteCells s.data.toList))[j]? = (Lib.byteCells s.data.toList)[j]?) := fun j hj => splice_at hsp (by omega) j (by omega)
  clear ho2 hb2 hg2 HO1 HB1 hsp
  go_wp2
  go_loopw [5] (fun ix wr => ∃ (t : Nat) (ys : List Value), s.size ≤ t ∧ t ≤ s.size + 3 ∧ ix = .int .i64 t ∧ wr.ownsRow w.heap.size 5 1 (.slice (some ⟨w.heap.size, 0, none⟩) (s.size + 3) (s.size + 3)) (s.size + 3) ys ∧ (∀ j, j < s.size → ys[j]? = (Lib.byteCells s.data.toList)[j]?) ∧ (∀ j, s.size ≤ j → j < t → ys[j]? = some (.int .u8 77)) ∧ Below w.heap.size w wr) (fun ix _ => s.size + 3 - (intOf ix).toNat)
  case atStart => exact ⟨s.size, _, by omega, by omega, rfl, HO2.out, HC.out, fun j h1 h2 => by omega, HB2.out⟩
  case round =>
    obtain ⟨t, ys, ht1, ht2, rfl, ho, hy1, hy2, hb⟩ := hrel
    have HO : Hid (wr.ownsRow w.heap.size 5 1 (.slice (some ⟨w.heap.size, 0, none⟩) (s.size + 3) (s.size + 3)) (s.size + 3) ys) := ho
    have HY1 : Hid _ := hy1
    have HY2 : Hid _ := hy2
    have HB : Hid _ := hb
    have hyl : ys.length = s.size + 3 := by simpa using ho.1
    have hlt := hb.size
    clear ho hy1 hy2 hb
    by_cases htl : t < s.size + 3
    · have hct := HO.out.cellAt t (by omega)
      rw [List.getElem?_eq_getElem (by omega)] at hct
      have hft := HO.out.frozenAt t
      have htl2 : (t : Int) < (s.size : Int) + 3 := by omega
      go_wp2
      obtain ⟨ho2, hg2⟩ := HO.out.stored t (.int .u8 77)
      go_roundw
      case rel =>
        refine ⟨t + 1, _, by omega, by omega, by go_num, ho2, fun j hj => ?_, fun j h1 h2 => ?_, below_grown HB.out hg2 (Nat.le_refl _) HB.out.size⟩
        · rw [List.getElem?_set_ne (by omega)]; exact HY1.out j hj
        · by_cases hjt : j = t
          · subst hjt; rw [List.getElem?_set_self (by omega)]
          · rw [List.getElem?_set_ne (by omega)]; exact HY2.out j h1 (by omega)
      case measure => simp [intOf]; omega
    · obtain rfl : t = s.size + 3 := by omega
      go_wp2
      go_ret
      refine ⟨rfl, ?_, HB.out⟩
      have he := lent_of hyl hxl HY1.out (fun j h1 h2 => HY2.out j h1 (by omega))
      rw [← he]
      exact HO.out

set_option maxHeartbeats 2000000 in
set_option maxRecDepth 20000 in
theorem lentInts_some (ad : Addr) (zs : List Int) (cp : Nat) (w : World) (hs : zs.length ≤ 2000000) (hz : intsAt w (some ad) zs) :
    Calls Tryz.prog 97 #[.slice (some ad) zs.length cp] w fun e w' => e = .returned (.slice (some ⟨w.heap.size, 0, none⟩) zs.length (zs.length + 3)) ∧ w'.ownsRow w.heap.size 3 1 (.slice (some ⟨w.heap.size, 0, none⟩) (zs.length + 3) (zs.length + 3)) (zs.length + 3) (lent (zs.map (Value.int .i64)) (.int .i64 77)) ∧ Below w.heap.size w w' := by
  obtain ⟨i0, hi0, hz0, hz1, hz2⟩ := info_parts info3
  have hxl : (zs.map (Value.int .i64)).length = zs.length := List.length_map ..
  have hnil := run_eql_slice_nil (P := Tryz.prog) w 59 3 (some ad) zs.length cp Tryz.underlying59
  have HZ : Hid (intsAt w (some ad) zs) := hz
  clear hz
  go_enter Tryz.func97, Tryz.ntmps97
  go_wp2_with (refine wpList_make_full _ rfl _ _ 59 rfl w.heap.size 3 i0 (.int .i64 0) 1 Tryz.underlying59 hi0 hz0 hz1 .i64 .i64 _ _ (zs.length + 3) rfl rfl (by go_num) (by go_num) (by rw [hz2]; omega) (by unfold maxLen; omega) (Nat.le_refl _) ?_)
  intro w1 ho1 hg1
  generalize (madeCells #[Value.int IntKind.i64 0] (zs.length + 3)).toList = ys0 at ho1
  have hsp : ys0.length = zs.length + 3 := by simpa using ho1.1
  have HO1 : Hid _ := ho1
  have HB1 : Hid (Below w.heap.size w w1) := ⟨hg1.os, hg1.tape, hg1.output, hg1.size, fun k hk => hg1.block k hk (by simp)⟩
  clear ho1 hg1
  go_wp2_with (refine wpList_copy_ints (by rfl) _ _ 59 59 (by rfl) 3 Tryz.underlying59 (by rw [hi0]; simp [hz1]) w.heap.size w.heap.size (zs.length + 3) (some ad) cp _ (zs.map (Value.int .i64)) (by rfl) ?cx HO1.out (by omega) ?cy ?cz ?_)
  case cx => simp [Act.eval]
  case cy =>
    rcases HZ.out with rfl | ⟨g, off, h1, h2, h3⟩
    · exact .inl rfl
    · cases h1
      refine .inr ⟨_, rfl, fun j v hv => ?_⟩
      rw [Go.WideShapes.add_plain]
      have hj : j < zs.length := by have := (List.getElem?_eq_some_iff.1 hv).1; simpa using this
      have : v = .int .i64 zs[j] := by simp [hj] at hv; exact hv.symm
      rw [this]
      exact (HB1.out.cell (by exact h2)).trans (h3 j hj)
  case cz =>
    intro v hv
    obtain ⟨z, _, rfl⟩ := List.mem_map.1 hv
    rfl
  intro w2 ho2 hg2
  have hb2 : Below w.heap.size w w2 := below_grown HB1.out hg2 (Nat.le_refl _) HB1.out.size
  have HO2 : Hid _ := ho2
  have HB2 : Hid _ := hb2
  have HC : Hid (∀ j, j < zs.length → (splice ys0 0 (zs.map (Value.int .i64)))[j]? = (zs.map (Value.int .i64))[j]?) := fun j hj => splice_at hsp (by omega) j (by omega)
  clear ho2 hb2 hg2 HO1 HB1 hsp
  go_wp2
  go_loopw [5] (fun ix wr => ∃ (t : Nat) (ys : List Value), zs.length ≤ t ∧ t ≤ zs.length + 3 ∧ ix = .int .i64 t ∧ wr.ownsRow w.heap.size 3 1 (.slice (some ⟨w.heap.size, 0, none⟩) (zs.length + 3) (zs.length + 3)) (zs.length + 3) ys ∧ (∀ j, j < zs.length → ys[j]? = (zs.map (Value.int .i64))[j]?) ∧ (∀ j, zs.length ≤ j → j < t → ys[j]? = some (.int .i64 77)) ∧ Below w.heap.size w wr) (fun ix _ => zs.length + 3 - (intOf ix).toNat)
  case atStart => exact ⟨zs.length, _, by omega, by omega, rfl, HO2.out, HC.out, fun j h1 h2 => by omega, HB2.out⟩
  case round =>
    obtain ⟨t, ys, ht1, ht2, rfl, ho, hy1, hy2, hb⟩ := hrel
    have HO : Hid (wr.ownsRow w.heap.size 3 1 (.slice (some ⟨w.heap.size, 0, none⟩) (zs.length + 3) (zs.length + 3)) (zs.length + 3) ys) := ho
    have HY1 : Hid _ := hy1
    have HY2 : Hid _ := hy2
    have HB : Hid _ := hb
    have hyl : ys.length = zs.length + 3 := by simpa using ho.1
    have hlt := hb.size
    clear ho hy1 hy2 hb
    by_cases htl : t < zs.length + 3
    · have hct := HO.out.cellAt t (by omega)
      rw [List.getElem?_eq_getElem (by omega)] at hct
      have hft := HO.out.frozenAt t
      have htl2 : (t : Int) < (zs.length : Int) + 3 := by omega
      go_wp2
      obtain ⟨ho2, hg2⟩ := HO.out.stored t (.int .i64 77)
      go_roundw
      case rel =>
        refine ⟨t + 1, _, by omega, by omega, by go_num, ho2, fun j hj => ?_, fun j h1 h2 => ?_, below_grown HB.out hg2 (Nat.le_refl _) HB.out.size⟩
        · rw [List.getElem?_set_ne (by omega)]; exact HY1.out j hj
        · by_cases hjt : j = t
          · subst hjt; rw [List.getElem?_set_self (by omega)]
          · rw [List.getElem?_set_ne (by omega)]; exact HY2.out j h1 (by omega)
      case measure => simp [intOf]; omega
    · obtain rfl : t = zs.length + 3 := by omega
      go_wp2
      go_ret
      refine ⟨rfl, ?_, HB.out⟩
      have he := lent_of hyl hxl HY1.out (fun j h1 h2 => HY2.out j h1 (by omega))
      rw [← he]
      exact HO.out

end Go.Proofs.YtdcainmlcpafbaaGreatDoor
