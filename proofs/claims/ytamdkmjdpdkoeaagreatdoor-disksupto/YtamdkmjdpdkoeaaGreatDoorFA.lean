import Derived.Test.YtamdkmjdpdkoeaaGreatDoorE1
import Derived.Test.YtamdkmjdpdkoeaaGreatDoorE5
import Derived.Test.YtamdkmjdpdkoeaaGreatDoorA9
set_option linter.unusedSimpArgs false
set_option linter.unusedVariables false
namespace Go.Proofs.YtamdkmjdpdkoeaaGreatDoor
open Go.RowKit

/-- A file: its name, its bytes, how many of them are safe. -/
structure FD where
  n : List UInt8
  d : List UInt8
  s : Nat
def FD.cells (f : FD) : List Value := [.string (strOf f.n), .string (strOf f.d), .int .i64 (f.s : Int)]
theorem strEqB (a b : List UInt8) : ((strOf a).toList == (strOf b).toList) = (a == b) := by
  rw [← beq_toListBytes]
  show ((⟨a⟩ : Array UInt8) == ⟨b⟩) = (a == b)
  simp
theorem file_len (fs : List FD) : (fs.flatMap FD.cells).length = fs.length * 3 := by
  induction fs with
  | nil => rfl
  | cons f fs ih => rw [List.flatMap_cons, List.length_append, ih]; simp [FD.cells]; omega
theorem file_at : ∀ (fs : List FD) (i : Nat) (h : i < fs.length) (k : Nat) (hk : k < 3), (fs.flatMap FD.cells)[i * 3 + k]? = some (fs[i].cells.getD k undef) := by
  intro fs
  induction fs with
  | nil => intro i h; simp at h
  | cons f fs ih =>
    intro i h k hk
    rw [List.flatMap_cons]
    have hlen : f.cells.length = 3 := rfl
    match i with
    | 0 =>
      rw [List.getElem?_append_left (by rw [hlen]; omega)]
      simp only [Nat.zero_mul, Nat.zero_add, List.getElem_cons_zero]
      rw [List.getD_eq_getElem?_getD, List.getElem?_eq_getElem (by rw [hlen]; exact hk)]
      rfl
    | i + 1 =>
      rw [List.getElem?_append_right (by rw [hlen]; omega), hlen, show (i + 1) * 3 + k - 3 = i * 3 + k by omega]
      exact ih i (by simpa using h) k hk
/-- A disk's state in memory: where its files stand, and for how many steps it goes on. -/
structure DS (ty e : TypeId) (low : Nat) (w : World) (S : Nat) (v : Value) (fs : List FD) (left : Int) : Prop where
  st : w.heap[S]? = some (.cells #[v, .int .i64 left] ty (0, 0))
  row : w.ownsRow low e 3 v fs.length (fs.flatMap FD.cells)
section
variable {ty e : TypeId} {low : Nat} {w : World} {S : Nat} {v : Value} {fs : List FD} {left : Int}
theorem DS.lt (h : DS ty e low w S v fs left) : S < w.heap.size := (Array.getElem?_eq_some_iff.1 h.st).1
theorem DS.cell (h : DS ty e low w S v fs left) (i : Nat) : w.cell? ⟨S, i, none⟩ = #[v, .int .i64 left][i]? := by simp [World.cell?, h.st]
theorem DS.free (h : DS ty e low w S v fs left) (i : Nat) : w.frozen? ⟨S, i, none⟩ = false := by simp [World.frozen?, h.st]
theorem DS.off (h : DS ty e low w S v fs left) (hne : ty ≠ e) : v.ownBlock ≠ some S := by
  intro hh
  rcases h.row.2 with ⟨rfl, _⟩ | ⟨g, cap, cur, rfl, _, hg, _⟩
  · simp [Value.ownBlock] at hh
  · simp [Value.ownBlock] at hh
    subst hh
    rw [h.st] at hg
    simp at hg
    exact hne hg.2
theorem DS.kept (h : DS ty e low w S v fs left) {w' : World} (h1 : w'.heap[S]? = w.heap[S]?) (h2 : ∀ g, v.ownBlock = some g → w'.heap[g]? = w.heap[g]?) : DS ty e low w' S v fs left := by
  refine ⟨h1.trans h.st, h.row.1, ?_⟩
  rcases h.row.2 with h0 | ⟨g, cap, cur, hv, hb, hg, h3⟩
  · exact .inl h0
  · exact .inr ⟨g, cap, cur, hv, hb, (h2 g (by rw [hv]; rfl)).trans hg, h3⟩
theorem heap_setCell_same (w : World) (S : Nat) (cur : Array Value) (t : TypeId) (i : Nat) (u : Value) (h : w.heap[S]? = some (.cells cur t (0, 0))) : (w.setCell ⟨S, i, none⟩ u).heap[S]? = some (.cells (cur.setIfInBounds i u) t (0, 0)) := by
  obtain ⟨hl, he⟩ := Array.getElem?_eq_some_iff.1 h
  simp [World.setCell, Array.getElem_modify, he, hl]
theorem DS.relay (h : DS ty e low w S v fs left) (hne : ty ≠ e) (l : Int) : DS ty e low (w.setCell ⟨S, 1, none⟩ (.int .i64 l)) S v fs l := by
  have hoff := h.off hne
  refine ⟨by rw [heap_setCell_same w S _ _ 1 _ h.st]; rfl, h.row.1, ?_⟩
  rcases h.row.2 with h0 | ⟨g, cap, cur, hv, hb, hg, h3⟩
  · exact .inl h0
  · refine .inr ⟨g, cap, cur, hv, hb, ?_, h3⟩
    rw [Below.heap_setCell _ _ _ _ (by intro hh; apply hoff; rw [hv, hh]; rfl)]
    exact hg
end

set_option maxRecDepth 20000 in
set_option maxHeartbeats 1000000 in
theorem astep_any (low S : Nat) (v : Value) (fs : List FD) (left : Int) (w : World) (h : DS 98 107 low w S v fs left) (hb : -9223372036854775808 ≤ left ∧ left ≤ 9223372036854775807) :
    Calls Tryz.prog 76 #[.pointer (some ⟨S, 0, none⟩)] w fun r w' => r = .returned (.bool (decide (left ≠ 0))) ∧ w' = if 0 < left then w.setCell ⟨S, 1, none⟩ (.int .i64 (left - 1)) else w := by
  have c1 := h.cell 1
  have f1 := h.free 1
  simp at c1
  clear h
  by_cases h0 : left = 0
  · subst h0
    go_enter Tryz.func76, Tryz.ntmps76
    go_wp2
    go_ret
    exact ⟨rfl, rfl⟩
  · have q0 : (left == 0) = false := by simpa using h0
    by_cases h1 : 0 < left
    · have HP : Hid (decide (left ≠ 0) = true ∧ (if 0 < left then w.setCell ⟨S, 1, none⟩ (.int .i64 (left - 1)) else w) = w.setCell ⟨S, 1, none⟩ (.int .i64 (left - 1))) := ⟨by simpa using h0, if_pos h1⟩
      go_enter Tryz.func76, Tryz.ntmps76
      go_wp2
      go_ret
      exact ⟨rfl, rfl⟩
    · have HP : Hid (decide (left ≠ 0) = true ∧ (if 0 < left then w.setCell ⟨S, 1, none⟩ (.int .i64 (left - 1)) else w) = w) := ⟨by simpa using h0, if_neg h1⟩
      go_enter Tryz.func76, Tryz.ntmps76
      go_wp2
      go_ret
      exact ⟨rfl, rfl⟩

set_option maxRecDepth 20000 in
set_option maxHeartbeats 1000000 in
theorem rstep_any (low S : Nat) (v : Value) (fs : List FD) (left : Int) (w : World) (h : DS 105 109 low w S v fs left) (hb : -9223372036854775808 ≤ left ∧ left ≤ 9223372036854775807) :
    Calls Tryz.prog 78 #[.pointer (some ⟨S, 0, none⟩)] w fun r w' => r = .returned (.bool (decide (left ≠ 0))) ∧ w' = if 0 < left then w.setCell ⟨S, 1, none⟩ (.int .i64 (left - 1)) else w := by
  have c1 := h.cell 1
  have f1 := h.free 1
  simp at c1
  clear h
  by_cases h0 : left = 0
  · subst h0
    go_enter Tryz.func78, Tryz.ntmps78
    go_wp2
    go_ret
    exact ⟨rfl, rfl⟩
  · have q0 : (left == 0) = false := by simpa using h0
    by_cases h1 : 0 < left
    · have HP : Hid (decide (left ≠ 0) = true ∧ (if 0 < left then w.setCell ⟨S, 1, none⟩ (.int .i64 (left - 1)) else w) = w.setCell ⟨S, 1, none⟩ (.int .i64 (left - 1))) := ⟨by simpa using h0, if_pos h1⟩
      go_enter Tryz.func78, Tryz.ntmps78
      go_wp2
      go_ret
      exact ⟨rfl, rfl⟩
    · have HP : Hid (decide (left ≠ 0) = true ∧ (if 0 < left then w.setCell ⟨S, 1, none⟩ (.int .i64 (left - 1)) else w) = w) := ⟨by simpa using h0, if_neg h1⟩
      go_enter Tryz.func78, Tryz.ntmps78
      go_wp2
      go_ret
      exact ⟨rfl, rfl⟩


theorem info76 : (Tryz.prog.info? 107).map (fun i => (i.zero, i.size, i.bytes)) = some (some (.agg #[.string ⟨#[]⟩, .string ⟨#[]⟩, .int .i64 0]), 3, 40) := by kernel_rfl
theorem info78 : (Tryz.prog.info? 109).map (fun i => (i.zero, i.size, i.bytes)) = some (some (.agg #[.string ⟨#[]⟩, .string ⟨#[]⟩, .int .i64 0]), 3, 40) := by kernel_rfl
theorem row3 {w : World} {base e n : Nat} {v : Value} {xs : List Value} (h : w.ownsRow base e 3 v n xs) : ∃ a c, v = .slice a n c ∧ (n = 0 ∨ ∃ g, a = some ⟨g, 0, none⟩ ∧ base ≤ g ∧ g < w.heap.size ∧ ∀ j u, xs[j]? = some u → w.cell? ⟨g, j, none⟩ = some u) := by
  rcases h.2 with ⟨rfl, rfl⟩ | ⟨g, cap, cur, rfl, hb, hg, _⟩
  · exact ⟨none, 0, rfl, .inl rfl⟩
  · refine ⟨_, cap, rfl, .inr ⟨g, rfl, hb, (h.lt g rfl).2, fun j u hj => ?_⟩⟩
    have := h.cells (g := g) rfl j u hj
    rw [Go.WideShapes.add_plain] at this
    simpa using this
/-- Where a file of a name stands. -/
def fIdx (fs : List FD) (nm : List UInt8) : Option Nat := fs.findIdx? (fun f => f.n == nm)
def fNum (fs : List FD) (nm : List UInt8) : Int := match fIdx fs nm with
  | none => -1
  | some i => (i : Int)
theorem fIdx_some {fs : List FD} {nm : List UInt8} {t : Nat} (h : t < fs.length) (h1 : (fs[t].n == nm) = true) (h2 : ∀ j (hj : j < fs.length), j < t → (fs[j].n == nm) = false) : fIdx fs nm = some t := by
  unfold fIdx
  rw [List.findIdx?_eq_some_iff_getElem]
  refine ⟨h, h1, fun j hj => ?_⟩
  rw [h2 j (by omega) hj]
  simp
theorem fIdx_none {fs : List FD} {nm : List UInt8} (h2 : ∀ j (hj : j < fs.length), (fs[j].n == nm) = false) : fIdx fs nm = none := by
  unfold fIdx
  rw [List.findIdx?_eq_none_iff]
  intro f hf
  obtain ⟨j, hj, rfl⟩ := List.getElem_of_mem hf
  exact h2 j hj
set_option maxHeartbeats 2000000 in
set_option maxRecDepth 20000 in
theorem find_any (low S : Nat) (v : Value) (fs : List FD) (left : Int) (nm : List UInt8) (w : World) (h : DS 98 107 low w S v fs left) (hl : fs.length ≤ 4611686018427387904) :
    Calls Tryz.prog 77 #[.pointer (some ⟨S, 0, none⟩), .string (strOf nm)] w fun r w' => r = .returned (.int .i64 (fNum fs nm)) ∧ w' = w := by
  have c0 := h.cell 0
  simp at c0
  obtain ⟨a, c, rfl, hrow⟩ := row3 h.row
  have HR : Hid _ := hrow
  clear h hrow
  go_enter Tryz.func77, Tryz.ntmps77
  go_wp2
  go_loop [11, 5] (fun ix _ => ∃ t : Nat, t ≤ fs.length ∧ ix = .int .i64 t ∧ ∀ j (hj : j < fs.length), j < t → (fs[j].n == nm) = false) (fun ix _ => fs.length - (intOf ix).toNat)
  case atStart => exact ⟨0, by omega, rfl, fun j hj h0 => by omega⟩
  case round =>
    obtain ⟨t, ht, rfl, hno⟩ := hrel
    have HNo : Hid _ := hno
    clear hno
    by_cases htl : t < fs.length
    · obtain ⟨g, rfl, _, _, hcc⟩ := HR.out.resolve_left (by omega)
      have j0 := hcc _ _ (file_at fs t htl 0 (by omega))
      simp [FD.cells] at j0
      have htl2 : (t : Int) < (fs.length : Int) := by omega
      clear hcc
      cases hq : (fs[t].n == nm) with
      | true =>
        have q := strEqB fs[t].n nm
        rw [hq] at q
        have HF : Hid (fNum fs nm = (t : Int)) := by unfold Hid fNum; rw [fIdx_some htl hq HNo.out]
        clear hq
        generalize fs[t].n = nt at *
        go_wp2
        go_ret
        exact ⟨ret_int HF.out.symm, rfl⟩
      | false =>
        have q := strEqB fs[t].n nm
        rw [hq] at q
        have HQ : Hid ((fs[t].n == nm) = false) := hq
        clear hq
        generalize fs[t].n = nt at j0 q
        go_wp2
        go_round
        case rel =>
          refine ⟨t + 1, by omega, by go_num, fun j hj hjt => ?_⟩
          by_cases he : j = t
          · subst he; exact HQ.out
          · exact HNo.out j hj (by omega)
        case measure => simp [intOf]; omega
    · have HF : Hid (fNum fs nm = -1) := by unfold Hid fNum; rw [fIdx_none (fun j hj => HNo.out j hj (by omega))]
      go_wp2
      go_ret
      exact ⟨ret_int HF.out.symm, rfl⟩
def wOut (fs : List FD) (nm : List UInt8) : List FD := fs.filter (fun f => f.n != nm)
theorem wOut_take (fs : List FD) (nm : List UInt8) (t : Nat) (h : t < fs.length) : wOut (fs.take (t + 1)) nm = if (fs[t].n == nm) = true then wOut (fs.take t) nm else wOut (fs.take t) nm ++ [fs[t]] := by
  unfold wOut
  rw [List.take_succ_eq_append_getElem h, List.filter_append]
  cases hq : (fs[t].n == nm) <;> simp [hq, bne]
theorem wOut_len (fs : List FD) (nm : List UInt8) (t : Nat) : (wOut (fs.take t) nm).length ≤ t := by
  unfold wOut
  exact Nat.le_trans (List.length_filter_le _ _) (by rw [List.length_take]; omega)

set_option maxHeartbeats 4000000 in
set_option maxRecDepth 20000 in
theorem awithout_any (low S : Nat) (v : Value) (fs : List FD) (left : Int) (nm : List UInt8) (w : World) (h : DS 98 107 low w S v fs left) (hl : fs.length ≤ 3000000000) :
    Calls Tryz.prog 80 #[.pointer (some ⟨S, 0, none⟩), .string (strOf nm)] w fun r w' => ∃ v', r = .returned v' ∧ w'.ownsRow w.heap.size 107 3 v' (wOut fs nm).length ((wOut fs nm).flatMap FD.cells) ∧ Below w.heap.size w w' := by
  obtain ⟨i0, hi0, hz0, hz1, hz2⟩ := info_parts info76
  have c0 := h.cell 0
  simp at c0
  have hS := h.lt
  obtain ⟨a, c, rfl, hrow⟩ := row3 h.row
  have HR : Hid _ := hrow
  have HT : Hid (fs.take fs.length = fs) := List.take_length
  clear h hrow
  go_enter Tryz.func80, Tryz.ntmps80
  go_wp2
  go_loopw [5, 13, 7] (fun lx ix _ wr => ∃ t : Nat, t ≤ fs.length ∧ ix = .int .i64 t ∧ wr.ownsRow w.heap.size 107 3 lx (wOut (fs.take t) nm).length ((wOut (fs.take t) nm).flatMap FD.cells) ∧ Below w.heap.size w wr) (fun _ ix _ _ => fs.length - (intOf ix).toNat)
  case atStart => exact ⟨0, by omega, rfl, World.ownsRow_nil _ _ _ _, Below.refl _ _⟩
  case round =>
    obtain ⟨t, ht, rfl, ho, hb⟩ := hrel
    have HO : Hid (wr.ownsRow w.heap.size 107 3 u5 (wOut (fs.take t) nm).length ((wOut (fs.take t) nm).flatMap FD.cells)) := ho
    have HB : Hid (Below w.heap.size w wr) := hb
    have hc := (hb.cell (p := ⟨S, 0, none⟩) hS).trans c0
    have hbs := hb.size
    obtain ⟨la, lc, rfl⟩ : ∃ la lc, u5 = .slice la (wOut (fs.take t) nm).length lc := by
      obtain ⟨x, y, h1, _⟩ := row3 ho
      exact ⟨x, y, h1⟩
    clear ho hb
    have hwl := wOut_len fs nm t
    by_cases htl : t < fs.length
    · obtain ⟨g, rfl, _, hgl, hcc⟩ := HR.out.resolve_left (by omega)
      have j0 := (HB.out.cell (p := ⟨g, t * 3 + 0, none⟩) hgl).trans (hcc _ _ (file_at fs t htl 0 (by omega)))
      have j1 := (HB.out.cell (p := ⟨g, t * 3 + 1, none⟩) hgl).trans (hcc _ _ (file_at fs t htl 1 (by omega)))
      have j2 := (HB.out.cell (p := ⟨g, t * 3 + 2, none⟩) hgl).trans (hcc _ _ (file_at fs t htl 2 (by omega)))
      simp [FD.cells] at j0 j1 j2
      have htl2 : (t : Int) < (fs.length : Int) := by omega
      have HW : Hid _ := wOut_take fs nm t htl
      clear hcc
      generalize fs[t] = F at *
      cases hq : (F.n == nm) with
      | true =>
        have q := strEqB F.n nm
        rw [hq] at q
        have HW2 : Hid (wOut (fs.take (t + 1)) nm = wOut (fs.take t) nm) := by unfold Hid; rw [HW.out, hq]; rfl
        clear hq HW
        go_wp2
        go_roundw
        case rel => exact ⟨t + 1, by omega, by go_num, by rw [HW2.out]; exact HO.out.alloc _, HB.out.alloc hbs _⟩
        case measure => simp [intOf]; omega
      | false =>
        have q := strEqB F.n nm
        rw [hq] at q
        have HW2 : Hid (wOut (fs.take (t + 1)) nm = wOut (fs.take t) nm ++ [F]) := by unfold Hid; rw [HW.out, hq]; rfl
        clear hq HW
        go_wp2_with (at_builtin; go_loud (refine wpList_append_own _ rfl _ _ 96 rfl w.heap.size 107 i0 (.agg #[.string ⟨#[]⟩, .string ⟨#[]⟩, .int .i64 0]) 3 40 Tryz.underlying96 hi0 hz0 hz1 hz2 rfl (by decide) _ (wOut (fs.take t) nm).length ((wOut (fs.take t) nm).flatMap FD.cells) rfl (World.ownsRow.alloc (World.ownsRow.alloc HO.out _) _) ⟨wr.heap.size + 1, 0, none⟩ 1 1 [Value.string (strOf F.n), Value.string (strOf F.d), Value.int IntKind.i64 (F.s : Int)] rfl rfl ?c1 ?c2 ?c3 ?c4 ?c5 ?_))
        case c1 =>
          intro j u hu
          rw [Go.WideShapes.add_plain]
          refine (World.cell?_alloc_at _ _ _ _ (by simp)).trans ?_
          simpa using hu
        case c2 => intro u hu; simp at hu; rcases hu with rfl | rfl | rfl <;> rfl
        case c3 => unfold maxLen; omega
        case c4 => omega
        case c5 => simp; omega
        intro v' w9 ho' hg' _
        obtain ⟨xa, xc, rfl⟩ : ∃ la lc, v' = .slice la ((wOut (fs.take t) nm).length + 1) lc := by
          obtain ⟨x, y, h1, _⟩ := row3 ho'
          exact ⟨x, y, h1⟩
        have HN : Hid (w9.ownsRow w.heap.size 107 3 (.slice xa ((wOut (fs.take t) nm).length + 1) xc) (wOut (fs.take (t + 1)) nm).length ((wOut (fs.take (t + 1)) nm).flatMap FD.cells)) := by
          unfold Hid
          rw [HW2.out, List.length_append, List.flatMap_append]
          simp only [List.length_cons, List.length_nil, List.flatMap_cons, List.flatMap_nil, List.append_nil]
          exact ho'
        have hb9 : Below w.heap.size w w9 := ((HB.out.alloc hbs _).alloc (by simp; omega) _).grown hg' (by simp; omega) (fun g hg => (World.ownsRow.lt HO.out g hg).1)
        have HB9 : Hid _ := hb9
        clear ho' hg' hb9
        go_wp2
        go_roundw
        case rel => exact ⟨t + 1, by omega, by go_num, HN.out, HB9.out⟩
        case measure => simp [intOf]; omega
    · obtain rfl : t = fs.length := by omega
      have HO2 : Hid (wr.ownsRow w.heap.size 107 3 (.slice la (wOut (fs.take fs.length) nm).length lc) (wOut fs nm).length ((wOut fs nm).flatMap FD.cells)) := by have := HO.out; unfold Hid; rw [HT.out] at this ⊢; exact this
      clear HO
      go_wp2
      go_ret
      exact ⟨_, rfl, HO2.out, HB.out⟩

set_option maxHeartbeats 4000000 in
set_option maxRecDepth 20000 in
theorem rwithout_any (low S : Nat) (v : Value) (fs : List FD) (left : Int) (nm : List UInt8) (w : World) (h : DS 105 109 low w S v fs left) (hl : fs.length ≤ 3000000000) :
    Calls Tryz.prog 81 #[.pointer (some ⟨S, 0, none⟩), .string (strOf nm)] w fun r w' => ∃ v', r = .returned v' ∧ w'.ownsRow w.heap.size 109 3 v' (wOut fs nm).length ((wOut fs nm).flatMap FD.cells) ∧ Below w.heap.size w w' := by
  obtain ⟨i0, hi0, hz0, hz1, hz2⟩ := info_parts info78
  have c0 := h.cell 0
  simp at c0
  have hS := h.lt
  obtain ⟨a, c, rfl, hrow⟩ := row3 h.row
  have HR : Hid _ := hrow
  have HT : Hid (fs.take fs.length = fs) := List.take_length
  clear h hrow
  go_enter Tryz.func81, Tryz.ntmps81
  go_wp2
  go_loopw [5, 6] (fun lx ix wr => ∃ t : Nat, t ≤ fs.length ∧ ix = .int .i64 t ∧ wr.ownsRow w.heap.size 109 3 lx (wOut (fs.take t) nm).length ((wOut (fs.take t) nm).flatMap FD.cells) ∧ Below w.heap.size w wr) (fun _ ix _ => fs.length - (intOf ix).toNat)
  case atStart => exact ⟨0, by omega, rfl, World.ownsRow_nil _ _ _ _, Below.refl _ _⟩
  case round =>
    obtain ⟨t, ht, rfl, ho, hb⟩ := hrel
    have HO : Hid (wr.ownsRow w.heap.size 109 3 u5 (wOut (fs.take t) nm).length ((wOut (fs.take t) nm).flatMap FD.cells)) := ho
    have HB : Hid (Below w.heap.size w wr) := hb
    have hc := (hb.cell (p := ⟨S, 0, none⟩) hS).trans c0
    have hbs := hb.size
    obtain ⟨la, lc, rfl⟩ : ∃ la lc, u5 = .slice la (wOut (fs.take t) nm).length lc := by
      obtain ⟨x, y, h1, _⟩ := row3 ho
      exact ⟨x, y, h1⟩
    clear ho hb
    have hwl := wOut_len fs nm t
    by_cases htl : t < fs.length
    · obtain ⟨g, rfl, _, hgl, hcc⟩ := HR.out.resolve_left (by omega)
      have j0 := (HB.out.cell (p := ⟨g, t * 3 + 0, none⟩) hgl).trans (hcc _ _ (file_at fs t htl 0 (by omega)))
      have j1 := (HB.out.cell (p := ⟨g, t * 3 + 1, none⟩) hgl).trans (hcc _ _ (file_at fs t htl 1 (by omega)))
      have j2 := (HB.out.cell (p := ⟨g, t * 3 + 2, none⟩) hgl).trans (hcc _ _ (file_at fs t htl 2 (by omega)))
      simp [FD.cells] at j0 j1 j2
      have htl2 : (t : Int) < (fs.length : Int) := by omega
      have HW : Hid _ := wOut_take fs nm t htl
      clear hcc
      generalize fs[t] = F at *
      cases hq : (F.n == nm) with
      | true =>
        have q := strEqB F.n nm
        rw [hq] at q
        have HW2 : Hid (wOut (fs.take (t + 1)) nm = wOut (fs.take t) nm) := by unfold Hid; rw [HW.out, hq]; rfl
        clear hq HW
        go_wp2
        go_roundw
        case rel => exact ⟨t + 1, by omega, by go_num, by rw [HW2.out]; exact HO.out, HB.out⟩
        case measure => simp [intOf]; omega
      | false =>
        have q := strEqB F.n nm
        rw [hq] at q
        have HW2 : Hid (wOut (fs.take (t + 1)) nm = wOut (fs.take t) nm ++ [F]) := by unfold Hid; rw [HW.out, hq]; rfl
        clear hq HW
        go_wp2_with (at_builtin; go_loud (refine wpList_append_own _ rfl _ _ 103 rfl w.heap.size 109 i0 (.agg #[.string ⟨#[]⟩, .string ⟨#[]⟩, .int .i64 0]) 3 40 Tryz.underlying103 hi0 hz0 hz1 hz2 rfl (by decide) _ (wOut (fs.take t) nm).length ((wOut (fs.take t) nm).flatMap FD.cells) rfl (World.ownsRow.alloc HO.out _) ⟨wr.heap.size, 0, none⟩ 1 1 [Value.string (strOf F.n), Value.string (strOf F.d), Value.int IntKind.i64 (F.s : Int)] rfl rfl ?c1 ?c2 ?c3 ?c4 ?c5 ?_))
        case c1 =>
          intro j u hu
          rw [Go.WideShapes.add_plain]
          refine (World.cell?_alloc_at _ _ _ _ (by simp)).trans ?_
          simpa using hu
        case c2 => intro u hu; simp at hu; rcases hu with rfl | rfl | rfl <;> rfl
        case c3 => unfold maxLen; omega
        case c4 => omega
        case c5 => simp; omega
        intro v' w9 ho' hg' _
        obtain ⟨xa, xc, rfl⟩ : ∃ la lc, v' = .slice la ((wOut (fs.take t) nm).length + 1) lc := by
          obtain ⟨x, y, h1, _⟩ := row3 ho'
          exact ⟨x, y, h1⟩
        have HN : Hid (w9.ownsRow w.heap.size 109 3 (.slice xa ((wOut (fs.take t) nm).length + 1) xc) (wOut (fs.take (t + 1)) nm).length ((wOut (fs.take (t + 1)) nm).flatMap FD.cells)) := by
          unfold Hid
          rw [HW2.out, List.length_append, List.flatMap_append]
          simp only [List.length_cons, List.length_nil, List.flatMap_cons, List.flatMap_nil, List.append_nil]
          exact ho'
        have hb9 : Below w.heap.size w w9 := (HB.out.alloc hbs _).grown hg' (by simp; omega) (fun g hg => (World.ownsRow.lt HO.out g hg).1)
        have HB9 : Hid _ := hb9
        clear ho' hg' hb9
        go_wp2
        go_roundw
        case rel => exact ⟨t + 1, by omega, by go_num, HN.out, HB9.out⟩
        case measure => simp [intOf]; omega
    · obtain rfl : t = fs.length := by omega
      have HO2 : Hid (wr.ownsRow w.heap.size 109 3 (.slice la (wOut (fs.take fs.length) nm).length lc) (wOut fs nm).length ((wOut fs nm).flatMap FD.cells)) := by have := HO.out; unfold Hid; rw [HT.out] at this ⊢; exact this
      clear HO
      go_wp2
      go_ret
      exact ⟨_, rfl, HO2.out, HB.out⟩


/-- All blocks but those of A are as they were. -/
structure Kpt (A : Nat → Prop) (w w' : World) : Prop where
  os : w'.os = w.os
  tape : w'.tape = w.tape
  output : w'.output = w.output
  size : w.heap.size ≤ w'.heap.size
  block : ∀ k, k < w.heap.size → ¬ A k → w'.heap[k]? = w.heap[k]?
theorem Kpt.refl (A : Nat → Prop) (w : World) : Kpt A w w := ⟨rfl, rfl, rfl, Nat.le_refl _, fun _ _ _ => rfl⟩
theorem Kpt.of_below {A : Nat → Prop} {w w' : World} (h : Below w.heap.size w w') : Kpt A w w' := ⟨h.os, h.tape, h.output, h.size, fun k hk _ => h.block k hk⟩
theorem Kpt.trans {A B : Nat → Prop} {w w1 w2 : World} (h : Kpt A w w1) (k : Kpt B w1 w2) (hB : ∀ b, b < w.heap.size → B b → A b) : Kpt A w w2 :=
  ⟨k.os.trans h.os, k.tape.trans h.tape, k.output.trans h.output, Nat.le_trans h.size k.size, fun b hb hA => (k.block b (Nat.lt_of_lt_of_le hb h.size) (fun hh => hA (hB b hb hh))).trans (h.block b hb hA)⟩
theorem Kpt.set (w : World) (S i : Nat) (u : Value) : Kpt (fun b => b = S) w (w.setCell ⟨S, i, none⟩ u) :=
  have h := But.setCell w ⟨S, i, none⟩ u
  ⟨h.os, h.tape, h.output, Nat.le_of_eq h.size.symm, fun k _ hk => h.block k hk⟩
theorem grown_set (w : World) (a : Addr) (u : Value) : w.grownBy (w.setCell a u) (some a.block) :=
  have h := But.setCell w a u
  ⟨h.os, h.tape, h.output, Nat.le_of_eq h.size.symm, fun k _ hk => h.block k (fun e => hk (by rw [e]))⟩
theorem row_low {w : World} {base base' : Nat} {e : TypeId} {size : Nat} {v : Value} {n : Nat} {xs : List Value} (h : w.ownsRow base e size v n xs) (hb : base' ≤ base) : w.ownsRow base' e size v n xs := by
  refine ⟨h.1, ?_⟩
  rcases h.2 with h0 | ⟨g, cap, cur, h1, h2, h3⟩
  · exact .inl h0
  · exact .inr ⟨g, cap, cur, h1, Nat.le_trans hb h2, h3⟩
/-- What a step on a disk leaves behind. -/
def Did (ty e : TypeId) (low : Nat) (w : World) (S : Nat) (v : Value) (fs' : List FD) (left' : Int) (w' : World) : Prop :=
  ∃ v', DS ty e low w' S v' fs' left' ∧ Kpt (fun b => b = S ∨ some b = v.ownBlock) w w' ∧ ∀ g, v'.ownBlock = some g → v.ownBlock = some g ∨ w.heap.size ≤ g
theorem DS.store {ty e : TypeId} {low low' : Nat} {w2 : World} {R : Nat} {v v2 : Value} {fs2 : List FD} {left : Int} (hst : w2.heap[R]? = some (.cells #[v, .int .i64 left] ty (0, 0))) (ho : w2.ownsRow low' e 3 v2 fs2.length (fs2.flatMap FD.cells)) (hlow : low ≤ low') (hne : v2.ownBlock ≠ some R) :
    DS ty e low (w2.setCell ⟨R, 0, none⟩ v2) R v2 fs2 left := by
  refine ⟨by rw [heap_setCell_same w2 R _ _ 0 _ hst]; rfl, ?_⟩
  refine (row_low ho hlow).kept (grown_set w2 ⟨R, 0, none⟩ v2) ?_
  by_cases hn : v2.ownBlock = none
  · exact .inl hn
  · exact .inr hne
theorem DS.later {ty e : TypeId} {low : Nat} {w w' : World} {S : Nat} {v : Value} {fs : List FD} {left : Int} (h : DS ty e low w S v fs left) (hb : Below w.heap.size w w') : DS ty e low w' S v fs left :=
  h.kept (hb.block S h.lt) (fun g hg => hb.block g (h.row.lt g hg).2)
def fGet (fs : List FD) (nm : List UInt8) : Option FD := fs.find? (fun f => f.n == nm)
theorem fGet_some {fs : List FD} {nm : List UInt8} {t : Nat} (h : t < fs.length) (h1 : (fs[t].n == nm) = true) (h2 : ∀ j (hj : j < fs.length), j < t → (fs[j].n == nm) = false) : fGet fs nm = some fs[t] := by
  unfold fGet
  rw [List.find?_eq_some_iff_getElem]
  refine ⟨h1, t, h, rfl, fun j hj => ?_⟩
  rw [h2 j (by omega) hj]
  rfl
theorem fGet_none {fs : List FD} {nm : List UInt8} (h2 : ∀ j (hj : j < fs.length), (fs[j].n == nm) = false) : fGet fs nm = none := by
  unfold fGet
  rw [List.find?_eq_none]
  intro f hf
  obtain ⟨j, hj, rfl⟩ := List.getElem_of_mem hf
  rw [h2 j hj]
  simp
def FD.val (f : FD) : Value := .agg #[.string (strOf f.n), .string (strOf f.d), .int .i64 (f.s : Int)]
def noFile : FD := ⟨[], [], 0⟩
def fBox (o : Option FD) : FD := o.getD noFile
set_option maxHeartbeats 4000000 in
set_option maxRecDepth 20000 in
theorem file_any (low S : Nat) (v : Value) (fs : List FD) (left : Int) (nm : List UInt8) (w : World) (h : DS 105 109 low w S v fs left) (hl : fs.length ≤ 4611686018427387904) :
    Calls Tryz.prog 43 #[.pointer (some ⟨S, 0, none⟩), .string (strOf nm)] w fun r w' => r = .returned (.tuple #[.agg #[.string (strOf (fBox (fGet fs nm)).n), .string (strOf (fBox (fGet fs nm)).d), .int .i64 ((fBox (fGet fs nm)).s : Int)], .bool (fGet fs nm).isSome]) ∧ Below w.heap.size w w' := by
  have hS := h.lt
  have c0 : (w.alloc (Obj.cells #[Value.string ⟨#[]⟩, Value.string ⟨#[]⟩, Value.int IntKind.i64 0] 109)).cell? ⟨S, 0, none⟩ = some v := (World.cell?_alloc_past _ _ _ hS).trans (by rw [h.cell 0]; rfl)
  have hz : ∀ i, (w.alloc (Obj.cells #[Value.string ⟨#[]⟩, Value.string ⟨#[]⟩, Value.int IntKind.i64 0] 109)).cell? ⟨w.heap.size, i, none⟩ = #[Value.string ⟨#[]⟩, Value.string ⟨#[]⟩, Value.int IntKind.i64 0][i]? := fun i => World.cell?_alloc_at _ _ _ _ rfl
  have hzf : ∀ i, (w.alloc (Obj.cells #[Value.string ⟨#[]⟩, Value.string ⟨#[]⟩, Value.int IntKind.i64 0] 109)).frozen? ⟨w.heap.size, i, none⟩ = false := fun i => by simp
  have hb0 := (Below.refl w.heap.size w).alloc (Nat.le_refl _) (Obj.cells #[Value.string ⟨#[]⟩, Value.string ⟨#[]⟩, Value.int IntKind.i64 0] 109)
  obtain ⟨a, c, rfl, hrow⟩ := row3 h.row
  have HR : Hid _ := hrow
  clear h hrow
  go_enter Tryz.func43, Tryz.ntmps43
  go_wp2
  generalize (w.alloc (Obj.cells #[Value.string ⟨#[]⟩, Value.string ⟨#[]⟩, Value.int IntKind.i64 0] 109)) = W0 at *
  go_loop [6] (fun ix => ∃ t : Nat, t ≤ fs.length ∧ ix = .int .i64 t ∧ ∀ j (hj : j < fs.length), j < t → (fs[j].n == nm) = false) (fun ix => fs.length - (intOf ix).toNat)
  case atStart => exact ⟨0, by omega, rfl, fun j hj h0 => by omega⟩
  case round =>
    obtain ⟨t, ht, rfl, hno⟩ := hrel
    have HNo : Hid _ := hno
    clear hno
    by_cases htl : t < fs.length
    · obtain ⟨g, rfl, _, hgl, hcc⟩ := HR.out.resolve_left (by omega)
      have j0 := (hb0.cell (p := ⟨g, t * 3 + 0, none⟩) hgl).trans (hcc _ _ (file_at fs t htl 0 (by omega)))
      have j1 := (hb0.cell (p := ⟨g, t * 3 + 1, none⟩) hgl).trans (hcc _ _ (file_at fs t htl 1 (by omega)))
      have j2 := (hb0.cell (p := ⟨g, t * 3 + 2, none⟩) hgl).trans (hcc _ _ (file_at fs t htl 2 (by omega)))
      simp [FD.cells] at j0 j1 j2
      have htl2 : (t : Int) < (fs.length : Int) := by omega
      clear hcc
      cases hq : (fs[t].n == nm) with
      | true =>
        have q := strEqB fs[t].n nm
        rw [hq] at q
        have HF : Hid (fGet fs nm = some fs[t]) := fGet_some htl hq HNo.out
        clear hq
        generalize fs[t] = F at *
        have e0 := hz 0
        have e1 := hz 1
        have e2 := hz 2
        simp at e0 e1 e2
        have hbF : ∀ x0 x1 x2, Below w.heap.size w (((W0.setCell ⟨w.heap.size, 0, none⟩ x0).setCell ⟨w.heap.size, 1, none⟩ x1).setCell ⟨w.heap.size, 2, none⟩ x2) := fun x0 x1 x2 => Below.setCell (Below.setCell (Below.setCell hb0 (Nat.le_refl _) _) (Nat.le_refl _) _) (Nat.le_refl _) _
        have HBF : Hid _ := hbF
        clear hbF hz
        go_wp2
        exact bodyPost_ret (v := .tuple #[.agg #[.string (strOf F.n), .string (strOf F.d), .int .i64 (F.s : Int)], .bool true]) (by simp [results, Tryz.results43, go_sem, e0, e1, e2]) rfl ⟨by rw [HF.out]; rfl, HBF.out _ _ _⟩
      | false =>
        have q := strEqB fs[t].n nm
        rw [hq] at q
        have HQ : Hid ((fs[t].n == nm) = false) := hq
        clear hq
        generalize fs[t] = F at j0 j1 j2 q
        go_wp2
        go_round
        case rel =>
          refine ⟨t + 1, by omega, by go_num, fun j hj hjt => ?_⟩
          by_cases he : j = t
          · subst he; exact HQ.out
          · exact HNo.out j hj (by omega)
        case measure => simp [intOf]; omega
    · have HF : Hid (fGet fs nm = none) := fGet_none (fun j hj => HNo.out j hj (by omega))
      have e0 := hz 0
      have e1 := hz 1
      have e2 := hz 2
      simp at e0 e1 e2
      have hbF : ∀ x0 x1 x2, Below w.heap.size w (((W0.setCell ⟨w.heap.size, 0, none⟩ x0).setCell ⟨w.heap.size, 1, none⟩ x1).setCell ⟨w.heap.size, 2, none⟩ x2) := fun x0 x1 x2 => Below.setCell (Below.setCell (Below.setCell hb0 (Nat.le_refl _) _) (Nat.le_refl _) _) (Nat.le_refl _) _
      have HBF : Hid _ := hbF
      clear hbF hz
      go_wp2
      exact bodyPost_ret (v := .tuple #[.agg #[.string ⟨#[]⟩, .string ⟨#[]⟩, .int .i64 0], .bool false]) (by simp [results, Tryz.results43, go_sem, e0, e1, e2]) rfl ⟨by rw [HF.out]; rfl, HBF.out _ _ _⟩
set_option maxHeartbeats 4000000 in
set_option maxRecDepth 20000 in
theorem put_any (low R : Nat) (v : Value) (fs : List FD) (left : Int) (f : FD) (w : World) (h : DS 105 109 low w R v fs left) (hl : fs.length ≤ 3000000000) (hlow : low ≤ w.heap.size) :
    Calls Tryz.prog 79 #[.pointer (some ⟨R, 0, none⟩), .agg #[.string (strOf f.n), .string (strOf f.d), .int .i64 (f.s : Int)]] w fun r w' => r = .returned (.tuple #[]) ∧ Did 105 109 low w R v (wOut fs f.n ++ [f]) left w' := by
  obtain ⟨i0, hi0, hz0, hz1, hz2⟩ := info_parts info78
  have hR := h.lt
  have hb0 := (Below.refl w.heap.size w).alloc (Nat.le_refl _) (Obj.cells #[Value.string (strOf f.n), Value.string (strOf f.d), Value.int IntKind.i64 (f.s : Int)] 109)
  have hbx : ∀ i, (w.alloc (Obj.cells #[Value.string (strOf f.n), Value.string (strOf f.d), Value.int IntKind.i64 (f.s : Int)] 109)).cell? ⟨w.heap.size, i, none⟩ = #[Value.string (strOf f.n), Value.string (strOf f.d), Value.int IntKind.i64 (f.s : Int)][i]? := fun i => World.cell?_alloc_at _ _ _ _ rfl
  have hs0 : (w.alloc (Obj.cells #[Value.string (strOf f.n), Value.string (strOf f.d), Value.int IntKind.i64 (f.s : Int)] 109)).heap.size = w.heap.size + 1 := by simp
  have h0 := h.later hb0
  go_enter Tryz.func79, Tryz.ntmps79
  go_wp2_with fail
  generalize (w.alloc (Obj.cells #[Value.string (strOf f.n), Value.string (strOf f.d), Value.int IntKind.i64 (f.s : Int)] 109)) = W0 at *
  refine (rwithout_any low R v fs left f.n W0 h0 hl).mono ?_
  rintro r w1 ⟨v1, rfl, ho1, hb1⟩
  have hbx1 : ∀ i, w1.cell? ⟨w.heap.size, i, none⟩ = #[Value.string (strOf f.n), Value.string (strOf f.d), Value.int IntKind.i64 (f.s : Int)][i]? := fun i => (hb1.cell (by show w.heap.size < _; omega)).trans (hbx i)
  have hst1 : w1.heap[R]? = some (.cells #[v, .int .i64 left] 105 (0, 0)) := (hb1.block R (by omega)).trans ((hb0.block R hR).trans h.st)
  have hbw1 : Below w.heap.size w w1 := hb0.trans (hb1.mono (by omega))
  have hs1 := hb1.size
  obtain ⟨a1, c1, rfl, _⟩ := row3 ho1
  have hwl : (wOut fs f.n).length ≤ fs.length := List.length_filter_le _ _
  have HO : Hid (w1.ownsRow W0.heap.size 109 3 (.slice a1 (wOut fs f.n).length c1) (wOut fs f.n).length ((wOut fs f.n).flatMap FD.cells)) := ho1
  have HB1 : Hid (Below w.heap.size w w1) := hbw1
  have HST : Hid _ := hst1
  clear h h0 hbx hb0 hb1 ho1 hbw1 hst1
  go_wp2_with (at_builtin; go_loud (refine wpList_append_own _ rfl _ _ 103 rfl W0.heap.size 109 i0 (.agg #[.string ⟨#[]⟩, .string ⟨#[]⟩, .int .i64 0]) 3 40 Tryz.underlying103 hi0 hz0 hz1 hz2 rfl (by decide) _ (wOut fs f.n).length ((wOut fs f.n).flatMap FD.cells) rfl (World.ownsRow.alloc HO.out _) ⟨w1.heap.size, 0, none⟩ 1 1 [Value.string (strOf f.n), Value.string (strOf f.d), Value.int IntKind.i64 (f.s : Int)] rfl rfl ?c1 ?c2 ?c3 ?c4 ?c5 ?_))
  case c1 =>
    intro j u hu
    rw [Go.WideShapes.add_plain]
    refine (World.cell?_alloc_at _ _ _ _ (by simp)).trans ?_
    simpa using hu
  case c2 => intro u hu; simp at hu; rcases hu with rfl | rfl | rfl <;> rfl
  case c3 => unfold maxLen; omega
  case c4 => omega
  case c5 => simp; omega
  intro v2 w2 ho2 hg2 _
  rw [← hs0] at ho2
  obtain ⟨xa, xc, rfl⟩ : ∃ la lc, v2 = .slice la ((wOut fs f.n).length + 1) lc := by
    obtain ⟨x, y, h1, _⟩ := row3 ho2
    exact ⟨x, y, h1⟩
  have hoff1 : ∀ g, Value.ownBlock (.slice a1 (wOut fs f.n).length c1) = some g → W0.heap.size ≤ g := fun g hg => (World.ownsRow.lt HO.out g hg).1
  have hst2 : w2.heap[R]? = some (.cells #[v, .int .i64 left] 105 (0, 0)) := (hg2.block R (by simp; omega) (fun hh => by have := hoff1 R hh.symm; omega)).trans ((heap_alloc_old w1 _ (by omega)).trans HST.out)
  have hw2 : w1.heap.size + 1 ≤ w2.heap.size := by have := hg2.size; simpa using this
  have hcell : w2.cell? ⟨R, 0, none⟩ = some v := by simp [World.cell?, hst2]
  have hfz : w2.frozen? ⟨R, 0, none⟩ = false := by simp [World.frozen?, hst2]
  have HDid : Hid (Did 105 109 low w R v (wOut fs f.n ++ [f]) left (w2.setCell ⟨R, 0, none⟩ (.slice xa ((wOut fs f.n).length + 1) xc))) := by
    have hlt2 : ∀ g, Value.ownBlock (.slice xa ((wOut fs f.n).length + 1) xc) = some g → W0.heap.size ≤ g := fun g hg => (World.ownsRow.lt ho2 g hg).1
    refine ⟨.slice xa ((wOut fs f.n).length + 1) xc, ?_, ?_, fun g hg => .inr (by have := hlt2 g hg; omega)⟩
    · refine DS.store (low' := W0.heap.size) hst2 ?_ (by omega) (fun hh => by have := hlt2 R hh; omega)
      rw [List.length_append, List.flatMap_append]
      simp only [List.length_cons, List.length_nil, List.flatMap_cons, List.flatMap_nil, List.append_nil]
      exact ho2
    · have hb := HB1.out
      have k1 : Kpt (fun b => b = R ∨ some b = v.ownBlock) w w2 := ⟨hg2.os.trans hb.os, hg2.tape.trans hb.tape, hg2.output.trans hb.output, by have := hb.size; omega, fun k hk _ => (hg2.block k (by simp; omega) (fun hh => by have := hoff1 k hh.symm; omega)).trans ((heap_alloc_old w1 _ (by omega)).trans (hb.block k hk))⟩
      exact k1.trans (Kpt.set w2 R 0 _) (fun b _ hb => .inl hb)
  clear ho2 hg2 hst2 hbx1 HO
  go_wp2
  refine bodyPost_end (v := .tuple #[]) (by simp [results, Tryz.results79, go_sem]) rfl ?_
  exact ⟨rfl, HDid.out⟩
end Go.Proofs.YtamdkmjdpdkoeaaGreatDoor
