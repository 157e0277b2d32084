import Derived.Test.YtdcainmlcpafbaaGreatDoorE1
import Derived.Test.YtdcainmlcpafbaaGreatDoorE5
import Derived.Test.YtdcainmlcpafbaaGreatDoorA9
import Derived.Deep.RegionHeld3
import Derived.Laws.OwnMore
set_option linter.unusedSimpArgs false
set_option linter.unusedVariables false
namespace Go.Proofs.YtdcainmlcpafbaaGreatDoor
open Go.RowKit

/-- A file: its name, its bytes, how many of them are safe. -/
structure FD where
  n : List UInt8
  d : List UInt8
  s : Nat
def FD.cells (f : FD) : List Value := [.string (strOf f.n), .string (strOf f.d), .int .i64 (f.s : Int)]
theorem strEqB (a b : List UInt8) : ((strOf a).toList == (strOf b).toList) = (a == b) := by
  rw [← beq_toListBytes]
  show ((⟨a⟩ : Array UInt8) == ⟨b⟩) = (a == b)
  simp
theorem file_len (fs : List FD) : (fs.flatMap FD.cells).length = fs.length * 3 := by
  induction fs with
  | nil => rfl
  | cons f fs ih => rw [List.flatMap_cons, List.length_append, ih]; simp [FD.cells]; omega
theorem file_at : ∀ (fs : List FD) (i : Nat) (h : i < fs.length) (k : Nat) (hk : k < 3), (fs.flatMap FD.cells)[i * 3 + k]? = some (fs[i].cells.getD k undef) := by
  intro fs
  induction fs with
  | nil => intro i h; simp at h
  | cons f fs ih =>
    intro i h k hk
    rw [List.flatMap_cons]
    have hlen : f.cells.length = 3 := rfl
    match i with
    | 0 =>
      rw [List.getElem?_append_left (by rw [hlen]; omega)]
      simp only [Nat.zero_mul, Nat.zero_add, List.getElem_cons_zero]
      rw [List.getD_eq_getElem?_getD, List.getElem?_eq_getElem (by rw [hlen]; exact hk)]
      rfl
    | i + 1 =>
      rw [List.getElem?_append_right (by rw [hlen]; omega), hlen, show (i + 1) * 3 + k - 3 = i * 3 + k by omega]
      exact ih i (by simpa using h) k hk
/-- A disk's state in memory: where its files stand, and for how many steps it goes on. -/
structure DS (ty e : TypeId) (low : Nat) (w : World) (S : Nat) (v : Value) (fs : List FD) (left : Int) : Prop where
  st : w.heap[S]? = some (.cells #[v, .int .i64 left] ty (0, 0))
  row : w.ownsRow low e 3 v fs.length (fs.flatMap FD.cells)
section
variable {ty e : TypeId} {low : Nat} {w : World} {S : Nat} {v : Value} {fs : List FD} {left : Int}
theorem DS.lt (h : DS ty e low w S v fs left) : S < w.heap.size := (Array.getElem?_eq_some_iff.1 h.st).1
theorem DS.cell (h : DS ty e low w S v fs left) (i : Nat) : w.cell? ⟨S, i, none⟩ = #[v, .int .i64 left][i]? := by simp [World.cell?, h.st]
theorem DS.free (h : DS ty e low w S v fs left) (i : Nat) : w.frozen? ⟨S, i, none⟩ = false := by simp [World.frozen?, h.st]
theorem DS.off (h : DS ty e low w S v fs left) (hne : ty ≠ e) : v.ownBlock ≠ some S := by
  intro hh
  rcases h.row.2 with ⟨rfl, _⟩ | ⟨g, cap, cur, rfl, _, hg, _⟩
  · simp [Value.ownBlock] at hh
  · simp [Value.ownBlock] at hh
    subst hh
    rw [h.st] at hg
    simp at hg
    exact hne hg.2
theorem DS.kept (h : DS ty e low w S v fs left) {w' : World} (h1 : w'.heap[S]? = w.heap[S]?) (h2 : ∀ g, v.ownBlock = some g → w'.heap[g]? = w.heap[g]?) : DS ty e low w' S v fs left := by
  refine ⟨h1.trans h.st, h.row.1, ?_⟩
  rcases h.row.2 with h0 | ⟨g, cap, cur, hv, hb, hg, h3⟩
  · exact .inl h0
  · exact .inr ⟨g, cap, cur, hv, hb, (h2 g (by rw [hv]; rfl)).trans hg, h3⟩
theorem heap_setCell_same (w : World) (S : Nat) (cur : Array Value) (t : TypeId) (i : Nat) (u : Value) (h : w.heap[S]? = some (.cells cur t (0, 0))) : (w.setCell ⟨S, i, none⟩ u).heap[S]? = some (.cells (cur.setIfInBounds i u) t (0, 0)) := by
  obtain ⟨hl, he⟩ := Array.getElem?_eq_some_iff.1 h
  simp [World.setCell, Array.getElem_modify, he, hl]
theorem DS.relay (h : DS ty e low w S v fs left) (hne : ty ≠ e) (l : Int) : DS ty e low (w.setCell ⟨S, 1, none⟩ (.int .i64 l)) S v fs l := by
  have hoff := h.off hne
  refine ⟨by rw [heap_setCell_same w S _ _ 1 _ h.st]; rfl, h.row.1, ?_⟩
  rcases h.row.2 with h0 | ⟨g, cap, cur, hv, hb, hg, h3⟩
  · exact .inl h0
  · refine .inr ⟨g, cap, cur, hv, hb, ?_, h3⟩
    rw [Below.heap_setCell _ _ _ _ (by intro hh; apply hoff; rw [hv, hh]; rfl)]
    exact hg
end

set_option maxRecDepth 20000 in
set_option maxHeartbeats 1000000 in
theorem astep_any (low S : Nat) (v : Value) (fs : List FD) (left : Int) (w : World) (h : DS 98 107 low w S v fs left) (hb : -9223372036854775808 ≤ left ∧ left ≤ 9223372036854775807) :
    Calls Tryz.prog 76 #[.pointer (some ⟨S, 0, none⟩)] w fun r w' => r = .returned (.bool (decide (left ≠ 0))) ∧ w' = if 0 < left then w.setCell ⟨S, 1, none⟩ (.int .i64 (left - 1)) else w := by
  have c1 := h.cell 1
  have f1 := h.free 1
  simp at c1
  clear h
  by_cases h0 : left = 0
  · subst h0
    go_enter Tryz.func76, Tryz.ntmps76
    go_wp2
    go_ret
    exact ⟨rfl, rfl⟩
  · have q0 : (left == 0) = false := by simpa using h0
    by_cases h1 : 0 < left
    · have HP : Hid (decide (left ≠ 0) = true ∧ (if 0 < left then w.setCell ⟨S, 1, none⟩ (.int .i64 (left - 1)) else w) = w.setCell ⟨S, 1, none⟩ (.int .i64 (left - 1))) := ⟨by simpa using h0, if_pos h1⟩
      go_enter Tryz.func76, Tryz.ntmps76
      go_wp2
      go_ret
      exact ⟨rfl, rfl⟩
    · have HP : Hid (decide (left ≠ 0) = true ∧ (if 0 < left then w.setCell ⟨S, 1, none⟩ (.int .i64 (left - 1)) else w) = w) := ⟨by simpa using h0, if_neg h1⟩
      go_enter Tryz.func76, Tryz.ntmps76
      go_wp2
      go_ret
      exact ⟨rfl, rfl⟩

set_option maxRecDepth 20000 in
set_option maxHeartbeats 1000000 in
theorem rstep_any (low S : Nat) (v : Value) (fs : List FD) (left : Int) (w : World) (h : DS 105 109 low w S v fs left) (hb : -9223372036854775808 ≤ left ∧ left ≤ 9223372036854775807) :
    Calls Tryz.prog 78 #[.pointer (some ⟨S, 0, none⟩)] w fun r w' => r = .returned (.bool (decide (left ≠ 0))) ∧ w' = if 0 < left then w.setCell ⟨S, 1, none⟩ (.int .i64 (left - 1)) else w := by
  have c1 := h.cell 1
  have f1 := h.free 1
  simp at c1
  clear h
  by_cases h0 : left = 0
  · subst h0
    go_enter Tryz.func78, Tryz.ntmps78
    go_wp2
    go_ret
    exact ⟨rfl, rfl⟩
  · have q0 : (left == 0) = false := by simpa using h0
    by_cases h1 : 0 < left
    · have HP : Hid (decide (left ≠ 0) = true ∧ (if 0 < left then w.setCell ⟨S, 1, none⟩ (.int .i64 (left - 1)) else w) = w.setCell ⟨S, 1, none⟩ (.int .i64 (left - 1))) := ⟨by simpa using h0, if_pos h1⟩
      go_enter Tryz.func78, Tryz.ntmps78
      go_wp2
      go_ret
      exact ⟨rfl, rfl⟩
    · have HP : Hid (decide (left ≠ 0) = true ∧ (if 0 < left then w.setCell ⟨S, 1, none⟩ (.int .i64 (left - 1)) else w) = w) := ⟨by simpa using h0, if_neg h1⟩
      go_enter Tryz.func78, Tryz.ntmps78
      go_wp2
      go_ret
      exact ⟨rfl, rfl⟩


theorem info76 : (Tryz.prog.info? 107).map (fun i => (i.zero, i.size, i.bytes)) = some (some (.agg #[.string ⟨#[]⟩, .string ⟨#[]⟩, .int .i64 0]), 3, 40) := by kernel_rfl
theorem info78 : (Tryz.prog.info? 109).map (fun i => (i.zero, i.size, i.bytes)) = some (some (.agg #[.string ⟨#[]⟩, .string ⟨#[]⟩, .int .i64 0]), 3, 40) := by kernel_rfl
theorem row3 {w : World} {base e n : Nat} {v : Value} {xs : List Value} (h : w.ownsRow base e 3 v n xs) : ∃ a c, v = .slice a n c ∧ (n = 0 ∨ ∃ g, a = some ⟨g, 0, none⟩ ∧ base ≤ g ∧ g < w.heap.size ∧ ∀ j u, xs[j]? = some u → w.cell? ⟨g, j, none⟩ = some u) := by
  rcases h.2 with ⟨rfl, rfl⟩ | ⟨g, cap, cur, rfl, hb, hg, _⟩
  · exact ⟨none, 0, rfl, .inl rfl⟩
  · refine ⟨_, cap, rfl, .inr ⟨g, rfl, hb, (h.lt g rfl).2, fun j u hj => ?_⟩⟩
    have := h.cells (g := g) rfl j u hj
    rw [Go.WideShapes.add_plain] at this
    simpa using this
/-- Where a file of a name stands. -/
def fIdx (fs : List FD) (nm : List UInt8) : Option Nat := fs.findIdx? (fun f => f.n == nm)
def fNum (fs : List FD) (nm : List UInt8) : Int := match fIdx fs nm with
  | none => -1
  | some i => (i : Int)
theorem fIdx_some {fs : List FD} {nm : List UInt8} {t : Nat} (h : t < fs.length) (h1 : (fs[t].n == nm) = true) (h2 : ∀ j (hj : j < fs.length), j < t → (fs[j].n == nm) = false) : fIdx fs nm = some t := by
  unfold fIdx
  rw [List.findIdx?_eq_some_iff_getElem]
  refine ⟨h, h1, fun j hj => ?_⟩
  rw [h2 j (by omega) hj]
  simp
theorem fIdx_none {fs : List FD} {nm : List UInt8} (h2 : ∀ j (hj : j < fs.length), (fs[j].n == nm) = false) : fIdx fs nm = none := by
  unfold fIdx
  rw [List.findIdx?_eq_none_iff]
  intro f hf
  obtain ⟨j, hj, rfl⟩ := List.getElem_of_mem hf
  exact h2 j hj
set_option maxHeartbeats 2000000 in
set_option maxRecDepth 20000 in
theorem find_any (low S : Nat) (v : Value) (fs : List FD) (left : Int) (nm : List UInt8) (w : World) (h : DS 98 107 low w S v fs left) (hl : fs.length ≤ 4611686018427387904) :
    Calls Tryz.prog 77 #[.pointer (some ⟨S, 0, none⟩), .string (strOf nm)] w fun r w' => r = .returned (.int .i64 (fNum fs nm)) ∧ w' = w := by
  have c0 := h.cell 0
  simp at c0
  obtain ⟨a, c, rfl, hrow⟩ := row3 h.row
  have HR : Hid _ := hrow
  clear h hrow
  go_enter Tryz.func77, Tryz.ntmps77
  go_wp2
  go_loop [11, 5] (fun ix _ => ∃ t : Nat, t ≤ fs.length ∧ ix = .int .i64 t ∧ ∀ j (hj : j < fs.length), j < t → (fs[j].n == nm) = false) (fun ix _ => fs.length - (intOf ix).toNat)
  case atStart => exact ⟨0, by omega, rfl, fun j hj h0 => by omega⟩
  case round =>
    obtain ⟨t, ht, rfl, hno⟩ := hrel
    have HNo : Hid _ := hno
    clear hno
    by_cases htl : t < fs.length
    · obtain ⟨g, rfl, _, _, hcc⟩ := HR.out.resolve_left (by omega)
      have j0 := hcc _ _ (file_at fs t htl 0 (by omega))
      simp [FD.cells] at j0
      have htl2 : (t : Int) < (fs.length : Int) := by omega
      clear hcc
      cases hq : (fs[t].n == nm) with
      | true =>
        have q := strEqB fs[t].n nm
        rw [hq] at q
        have HF : Hid (fNum fs nm = (t : Int)) := by unfold Hid fNum; rw [fIdx_some htl hq HNo.out]
        clear hq
        generalize fs[t].n = nt at *
        go_wp2
        go_ret
        exact ⟨ret_int HF.out.symm, rfl⟩
      | false =>
        have q := strEqB fs[t].n nm
        rw [hq] at q
        have HQ : Hid ((fs[t].n == nm) = false) := hq
        clear hq
        generalize fs[t].n = nt at j0 q
        go_wp2
        go_round
        case rel =>
          refine ⟨t + 1, by omega, by go_num, fun j hj hjt => ?_⟩
          by_cases he : j = t
          · subst he; exact HQ.out
          · exact HNo.out j hj (by omega)
        case measure => simp [intOf]; omega
    · have HF : Hid (fNum fs nm = -1) := by unfold Hid fNum; rw [fIdx_none (fun j hj => HNo.out j hj (by omega))]
      go_wp2
      go_ret
      exact ⟨ret_int HF.out.symm, rfl⟩
def wOut (fs : List FD) (nm : List UInt8) : List FD := fs.filter (fun f => f.n != nm)
theorem wOut_take (fs : List FD) (nm : List UInt8) (t : Nat) (h : t < fs.length) : wOut (fs.take (t + 1)) nm = if (fs[t].n == nm) = true then wOut (fs.take t) nm else wOut (fs.take t) nm ++ [fs[t]] := by
  unfold wOut
  rw [List.take_succ_eq_append_getElem h, List.filter_append]
  cases hq : (fs[t].n == nm) <;> simp [hq, bne]
theorem wOut_len (fs : List FD) (nm : List UInt8) (t : Nat) : (wOut (fs.take t) nm).length ≤ t := by
  unfold wOut
  exact Nat.le_trans (List.length_filter_le _ _) (by rw [List.length_take]; omega)

set_option maxHeartbeats 4000000 in
set_option maxRecDepth 20000 in
theorem awithout_any (low S : Nat) (v : Value) (fs : List FD) (left : Int) (nm : List UInt8) (w : World) (h : DS 98 107 low w S v fs left) (hl : fs.length ≤ 3000000000) :
    Calls Tryz.prog 80 #[.pointer (some ⟨S, 0, none⟩), .string (strOf nm)] w fun r w' => ∃ v', r = .returned v' ∧ w'.ownsRow w.heap.size 107 3 v' (wOut fs nm).length ((wOut fs nm).flatMap FD.cells) ∧ Below w.heap.size w w' := by
  obtain ⟨i0, hi0, hz0, hz1, hz2⟩ := info_parts info76
  have c0 := h.cell 0
  simp at c0
  have hS := h.lt
  obtain ⟨a, c, rfl, hrow⟩ := row3 h.row
  have HR : Hid _ := hrow
  have HT : Hid (fs.take fs.length = fs) := List.take_length
  clear h hrow
  go_enter Tryz.func80, Tryz.ntmps80
  go_wp2
  go_loopw [5, 13, 7] (fun lx ix _ wr => ∃ t : Nat, t ≤ fs.length ∧ ix = .int .i64 t ∧ wr.ownsRow w.heap.size 107 3 lx (wOut (fs.take t) nm).length ((wOut (fs.take t) nm).flatMap FD.cells) ∧ Below w.heap.size w wr) (fun _ ix _ _ => fs.length - (intOf ix).toNat)
  case atStart => exact ⟨0, by omega, rfl, World.ownsRow_nil _ _ _ _, Below.refl _ _⟩
  case round =>
    obtain ⟨t, ht, rfl, ho, hb⟩ := hrel
    have HO : Hid (wr.ownsRow w.heap.size 107 3 u5 (wOut (fs.take t) nm).length ((wOut (fs.take t) nm).flatMap FD.cells)) := ho
    have HB : Hid (Below w.heap.size w wr) := hb
    have hc := (hb.cell (p := ⟨S, 0, none⟩) hS).trans c0
    have hbs := hb.size
    obtain ⟨la, lc, rfl⟩ : ∃ la lc, u5 = .slice la (wOut (fs.take t) nm).length lc := by
      obtain ⟨x, y, h1, _⟩ := row3 ho
      exact ⟨x, y, h1⟩
    clear ho hb
    have hwl := wOut_len fs nm t
    by_cases htl : t < fs.length
    · obtain ⟨g, rfl, _, hgl, hcc⟩ := HR.out.resolve_left (by omega)
      have j0 := (HB.out.cell (p := ⟨g, t * 3 + 0, none⟩) hgl).trans (hcc _ _ (file_at fs t htl 0 (by omega)))
      have j1 := (HB.out.cell (p := ⟨g, t * 3 + 1, none⟩) hgl).trans (hcc _ _ (file_at fs t htl 1 (by omega)))
      have j2 := (HB.out.cell (p := ⟨g, t * 3 + 2, none⟩) hgl).trans (hcc _ _ (file_at fs t htl 2 (by omega)))
      simp [FD.cells] at j0 j1 j2
      have htl2 : (t : Int) < (fs.length : Int) := by omega
      have HW : Hid _ := wOut_take fs nm t htl
      clear hcc
      generalize fs[t] = F at *
      cases hq : (F.n == nm) with
      | true =>
        have q := strEqB F.n nm
        rw [hq] at q
        have HW2 : Hid (wOut (fs.take (t + 1)) nm = wOut (fs.take t) nm) := by unfold Hid; rw [HW.out, hq]; rfl
        clear hq HW
        go_wp2
        go_roundw
        case rel => exact ⟨t + 1, by omega, by go_num, by rw [HW2.out]; exact HO.out.alloc _, HB.out.alloc hbs _⟩
        case measure => simp [intOf]; omega
      | false =>
        have q := strEqB F.n nm
        rw [hq] at q
        have HW2 : Hid (wOut (fs.take (t + 1)) nm = wOut (fs.take t) nm ++ [F]) := by unfold Hid; rw [HW.out, hq]; rfl
        clear hq HW
        go_wp2_with (at_builtin; go_loud (refine wpList_append_own _ rfl _ _ 96 rfl w.heap.size 107 i0 (.agg #[.string ⟨#[]⟩, .string ⟨#[]⟩, .int .i64 0]) 3 40 Tryz.underlying96 hi0 hz0 hz1 hz2 rfl (by decide) _ (wOut (fs.take t) nm).length ((wOut (fs.take t) nm).flatMap FD.cells) rfl (World.ownsRow.alloc (World.ownsRow.alloc HO.out _) _) ⟨wr.heap.size + 1, 0, none⟩ 1 1 [Value.string (strOf F.n), Value.string (strOf F.d), Value.int IntKind.i64 (F.s : Int)] rfl rfl ?c1 ?c2 ?c3 ?c4 ?c5 ?_))
        case c1 =>
          intro j u hu
          rw [Go.WideShapes.add_plain]
          refine (World.cell?_alloc_at _ _ _ _ (by simp)).trans ?_
          simpa using hu
        case c2 => intro u hu; simp at hu; rcases hu with rfl | rfl | rfl <;> rfl
        case c3 => unfold maxLen; omega
        case c4 => omega
        case c5 => simp; omega
        intro v' w9 ho' hg' _
        obtain ⟨xa, xc, rfl⟩ : ∃ la lc, v' = .slice la ((wOut (fs.take t) nm).length + 1) lc := by
          obtain ⟨x, y, h1, _⟩ := row3 ho'
          exact ⟨x, y, h1⟩
        have HN : Hid (w9.ownsRow w.heap.size 107 3 (.slice xa ((wOut (fs.take t) nm).length + 1) xc) (wOut (fs.take (t + 1)) nm).length ((wOut (fs.take (t + 1)) nm).flatMap FD.cells)) := by
          unfold Hid
          rw [HW2.out, List.length_append, List.flatMap_append]
          simp only [List.length_cons, List.length_nil, List.flatMap_cons, List.flatMap_nil, List.append_nil]
          exact ho'
        have hb9 : Below w.heap.size w w9 := ((HB.out.alloc hbs _).alloc (by simp; omega) _).grown hg' (by simp; omega) (fun g hg => (World.ownsRow.lt HO.out g hg).1)
        have HB9 : Hid _ := hb9
        clear ho' hg' hb9
        go_wp2
        go_roundw
        case rel => exact ⟨t + 1, by omega, by go_num, HN.out, HB9.out⟩
        case measure => simp [intOf]; omega
    · obtain rfl : t = fs.length := by omega
      have HO2 : Hid (wr.ownsRow w.heap.size 107 3 (.slice la (wOut (fs.take fs.length) nm).length lc) (wOut fs nm).length ((wOut fs nm).flatMap FD.cells)) := by have := HO.out; unfold Hid; rw [HT.out] at this ⊢; exact this
      clear HO
      go_wp2
      go_ret
      exact ⟨_, rfl, HO2.out, HB.out⟩

set_option maxHeartbeats 4000000 in
set_option maxRecDepth 20000 in
theorem rwithout_any (low S : Nat) (v : Value) (fs : List FD) (left : Int) (nm : List UInt8) (w : World) (h : DS 105 109 low w S v fs left) (hl : fs.length ≤ 3000000000) :
    Calls Tryz.prog 81 #[.pointer (some ⟨S, 0, none⟩), .string (strOf nm)] w fun r w' => ∃ v', r = .returned v' ∧ w'.ownsRow w.heap.size 109 3 v' (wOut fs nm).length ((wOut fs nm).flatMap FD.cells) ∧ Below w.heap.size w w' := by
  obtain ⟨i0, hi0, hz0, hz1, hz2⟩ := info_parts info78
  have c0 := h.cell 0
  simp at c0
  have hS := h.lt
  obtain ⟨a, c, rfl, hrow⟩ := row3 h.row
  have HR : Hid _ := hrow
  have HT : Hid (fs.take fs.length = fs) := List.take_length
  clear h hrow
  go_enter Tryz.func81, Tryz.ntmps81
  go_wp2
  go_loopw [5, 6] (fun lx ix wr => ∃ t : Nat, t ≤ fs.length ∧ ix = .int .i64 t ∧ wr.ownsRow w.heap.size 109 3 lx (wOut (fs.take t) nm).length ((wOut (fs.take t) nm).flatMap FD.cells) ∧ Below w.heap.size w wr) (fun _ ix _ => fs.length - (intOf ix).toNat)
  case atStart => exact ⟨0, by omega, rfl, World.ownsRow_nil _ _ _ _, Below.refl _ _⟩
  case round =>
    obtain ⟨t, ht, rfl, ho, hb⟩ := hrel
    have HO : Hid (wr.ownsRow w.heap.size 109 3 u5 (wOut (fs.take t) nm).length ((wOut (fs.take t) nm).flatMap FD.cells)) := ho
    have HB : Hid (Below w.heap.size w wr) := hb
    have hc := (hb.cell (p := ⟨S, 0, none⟩) hS).trans c0
    have hbs := hb.size
    obtain ⟨la, lc, rfl⟩ : ∃ la lc, u5 = .slice la (wOut (fs.take t) nm).length lc := by
      obtain ⟨x, y, h1, _⟩ := row3 ho
      exact ⟨x, y, h1⟩
    clear ho hb
    have hwl := wOut_len fs nm t
    by_cases htl : t < fs.length
    · obtain ⟨g, rfl, _, hgl, hcc⟩ := HR.out.resolve_left (by omega)
      have j0 := (HB.out.cell (p := ⟨g, t * 3 + 0, none⟩) hgl).trans (hcc _ _ (file_at fs t htl 0 (by omega)))
      have j1 := (HB.out.cell (p := ⟨g, t * 3 + 1, none⟩) hgl).trans (hcc _ _ (file_at fs t htl 1 (by omega)))
      have j2 := (HB.out.cell (p := ⟨g, t * 3 + 2, none⟩) hgl).trans (hcc _ _ (file_at fs t htl 2 (by omega)))
      simp [FD.cells] at j0 j1 j2
      have htl2 : (t : Int) < (fs.length : Int) := by omega
      have HW : Hid _ := wOut_take fs nm t htl
      clear hcc
      generalize fs[t] = F at *
      cases hq : (F.n == nm) with
      | true =>
        have q := strEqB F.n nm
        rw [hq] at q
        have HW2 : Hid (wOut (fs.take (t + 1)) nm = wOut (fs.take t) nm) := by unfold Hid; rw [HW.out, hq]; rfl
        clear hq HW
        go_wp2
        go_roundw
        case rel => exact ⟨t + 1, by omega, by go_num, by rw [HW2.out]; exact HO.out, HB.out⟩
        case measure => simp [intOf]; omega
      | false =>
        have q := strEqB F.n nm
        rw [hq] at q
        have HW2 : Hid (wOut (fs.take (t + 1)) nm = wOut (fs.take t) nm ++ [F]) := by unfold Hid; rw [HW.out, hq]; rfl
        clear hq HW
        go_wp2_with (at_builtin; go_loud (refine wpList_append_own _ rfl _ _ 103 rfl w.heap.size 109 i0 (.agg #[.string ⟨#[]⟩, .string ⟨#[]⟩, .int .i64 0]) 3 40 Tryz.underlying103 hi0 hz0 hz1 hz2 rfl (by decide) _ (wOut (fs.take t) nm).length ((wOut (fs.take t) nm).flatMap FD.cells) rfl (World.ownsRow.alloc HO.out _) ⟨wr.heap.size, 0, none⟩ 1 1 [Value.string (strOf F.n), Value.string (strOf F.d), Value.int IntKind.i64 (F.s : Int)] rfl rfl ?c1 ?c2 ?c3 ?c4 ?c5 ?_))
        case c1 =>
          intro j u hu
          rw [Go.WideShapes.add_plain]
          refine (World.cell?_alloc_at _ _ _ _ (by simp)).trans ?_
          simpa using hu
        case c2 => intro u hu; simp at hu; rcases hu with rfl | rfl | rfl <;> rfl
        case c3 => unfold maxLen; omega
        case c4 => omega
        case c5 => simp; omega
        intro v' w9 ho' hg' _
        obtain ⟨xa, xc, rfl⟩ : ∃ la lc, v' = .slice la ((wOut (fs.take t) nm).length + 1) lc := by
          obtain ⟨x, y, h1, _⟩ := row3 ho'
          exact ⟨x, y, h1⟩
        have HN : Hid (w9.ownsRow w.heap.size 109 3 (.slice xa ((wOut (fs.take t) nm).length + 1) xc) (wOut (fs.take (t + 1)) nm).length ((wOut (fs.take (t + 1)) nm).flatMap FD.cells)) := by
          unfold Hid
          rw [HW2.out, List.length_append, List.flatMap_append]
          simp only [List.length_cons, List.length_nil, List.flatMap_cons, List.flatMap_nil, List.append_nil]
          exact ho'
        have hb9 : Below w.heap.size w w9 := (HB.out.alloc hbs _).grown hg' (by simp; omega) (fun g hg => (World.ownsRow.lt HO.out g hg).1)
        have HB9 : Hid _ := hb9
        clear ho' hg' hb9
        go_wp2
        go_roundw
        case rel => exact ⟨t + 1, by omega, by go_num, HN.out, HB9.out⟩
        case measure => simp [intOf]; omega
    · obtain rfl : t = fs.length := by omega
      have HO2 : Hid (wr.ownsRow w.heap.size 109 3 (.slice la (wOut (fs.take fs.length) nm).length lc) (wOut fs nm).length ((wOut fs nm).flatMap FD.cells)) := by have := HO.out; unfold Hid; rw [HT.out] at this ⊢; exact this
      clear HO
      go_wp2
      go_ret
      exact ⟨_, rfl, HO2.out, HB.out⟩


/-- All blocks but those of A are as they were. -/
structure Kpt (A : Nat → Prop) (w w' : World) : Prop where
  os : w'.os = w.os
  tape : w'.tape = w.tape
  output : w'.output = w.output
  size : w.heap.size ≤ w'.heap.size
  block : ∀ k, k < w.heap.size → ¬ A k → w'.heap[k]? = w.heap[k]?
theorem Kpt.refl (A : Nat → Prop) (w : World) : Kpt A w w := ⟨rfl, rfl, rfl, Nat.le_refl _, fun _ _ _ => rfl⟩
theorem Kpt.of_below {A : Nat → Prop} {w w' : World} (h : Below w.heap.size w w') : Kpt A w w' := ⟨h.os, h.tape, h.output, h.size, fun k hk _ => h.block k hk⟩
theorem Kpt.trans {A B : Nat → Prop} {w w1 w2 : World} (h : Kpt A w w1) (k : Kpt B w1 w2) (hB : ∀ b, b < w.heap.size → B b → A b) : Kpt A w w2 :=
  ⟨k.os.trans h.os, k.tape.trans h.tape, k.output.trans h.output, Nat.le_trans h.size k.size, fun b hb hA => (k.block b (Nat.lt_of_lt_of_le hb h.size) (fun hh => hA (hB b hb hh))).trans (h.block b hb hA)⟩
theorem Kpt.set (w : World) (S i : Nat) (u : Value) : Kpt (fun b => b = S) w (w.setCell ⟨S, i, none⟩ u) :=
  have h := But.setCell w ⟨S, i, none⟩ u
  ⟨h.os, h.tape, h.output, Nat.le_of_eq h.size.symm, fun k _ hk => h.block k hk⟩
theorem grown_set (w : World) (a : Addr) (u : Value) : w.grownBy (w.setCell a u) (some a.block) :=
  have h := But.setCell w a u
  ⟨h.os, h.tape, h.output, Nat.le_of_eq h.size.symm, fun k _ hk => h.block k (fun e => hk (by rw [e]))⟩
theorem row_low {w : World} {base base' : Nat} {e : TypeId} {size : Nat} {v : Value} {n : Nat} {xs : List Value} (h : w.ownsRow base e size v n xs) (hb : base' ≤ base) : w.ownsRow base' e size v n xs := by
  refine ⟨h.1, ?_⟩
  rcases h.2 with h0 | ⟨g, cap, cur, h1, h2, h3⟩
  · exact .inl h0
  · exact .inr ⟨g, cap, cur, h1, Nat.le_trans hb h2, h3⟩
/-- What a step on a disk leaves behind. -/
def Did (ty e : TypeId) (low : Nat) (w : World) (S : Nat) (v : Value) (fs' : List FD) (left' : Int) (w' : World) : Prop :=
  ∃ v', DS ty e low w' S v' fs' left' ∧ Kpt (fun b => b = S ∨ some b = v.ownBlock) w w' ∧ ∀ g, v'.ownBlock = some g → v.ownBlock = some g ∨ w.heap.size ≤ g
theorem DS.store {ty e : TypeId} {low low' : Nat} {w2 : World} {R : Nat} {v v2 : Value} {fs2 : List FD} {left : Int} (hst : w2.heap[R]? = some (.cells #[v, .int .i64 left] ty (0, 0))) (ho : w2.ownsRow low' e 3 v2 fs2.length (fs2.flatMap FD.cells)) (hlow : low ≤ low') (hne : v2.ownBlock ≠ some R) :
    DS ty e low (w2.setCell ⟨R, 0, none⟩ v2) R v2 fs2 left := by
  refine ⟨by rw [heap_setCell_same w2 R _ _ 0 _ hst]; rfl, ?_⟩
  refine (row_low ho hlow).kept (grown_set w2 ⟨R, 0, none⟩ v2) ?_
  by_cases hn : v2.ownBlock = none
  · exact .inl hn
  · exact .inr hne
theorem DS.later {ty e : TypeId} {low : Nat} {w w' : World} {S : Nat} {v : Value} {fs : List FD} {left : Int} (h : DS ty e low w S v fs left) (hb : Below w.heap.size w w') : DS ty e low w' S v fs left :=
  h.kept (hb.block S h.lt) (fun g hg => hb.block g (h.row.lt g hg).2)
def fGet (fs : List FD) (nm : List UInt8) : Option FD := fs.find? (fun f => f.n == nm)
theorem fGet_some {fs : List FD} {nm : List UInt8} {t : Nat} (h : t < fs.length) (h1 : (fs[t].n == nm) = true) (h2 : ∀ j (hj : j < fs.length), j < t → (fs[j].n == nm) = false) : fGet fs nm = some fs[t] := by
  unfold fGet
  rw [List.find?_eq_some_iff_getElem]
  refine ⟨h1, t, h, rfl, fun j hj => ?_⟩
  rw [h2 j (by omega) hj]
  rfl
theorem fGet_none {fs : List FD} {nm : List UInt8} (h2 : ∀ j (hj : j < fs.length), (fs[j].n == nm) = false) : fGet fs nm = none := by
  unfold fGet
  rw [List.find?_eq_none]
  intro f hf
  obtain ⟨j, hj, rfl⟩ := List.getElem_of_mem hf
  rw [h2 j hj]
  simp
def FD.val (f : FD) : Value := .agg #[.string (strOf f.n), .string (strOf f.d), .int .i64 (f.s : Int)]
def noFile : FD := ⟨[], [], 0⟩
def fBox (o : Option FD) : FD := o.getD noFile
set_option maxHeartbeats 4000000 in
set_option maxRecDepth 20000 in
theorem file_any (low S : Nat) (v : Value) (fs : List FD) (left : Int) (nm : List UInt8) (w : World) (h : DS 105 109 low w S v fs left) (hl : fs.length ≤ 4611686018427387904) :
    Calls Tryz.prog 43 #[.pointer (some ⟨S, 0, none⟩), .string (strOf nm)] w fun r w' => r = .returned (.tuple #[.agg #[.string (strOf (fBox (fGet fs nm)).n), .string (strOf (fBox (fGet fs nm)).d), .int .i64 ((fBox (fGet fs nm)).s : Int)], .bool (fGet fs nm).isSome]) ∧ Below w.heap.size w w' := by
  have hS := h.lt
  have c0 : (w.alloc (Obj.cells #[Value.string ⟨#[]⟩, Value.string ⟨#[]⟩, Value.int IntKind.i64 0] 109)).cell? ⟨S, 0, none⟩ = some v := (World.cell?_alloc_past _ _ _ hS).trans (by rw [h.cell 0]; rfl)
  have hz : ∀ i, (w.alloc (Obj.cells #[Value.string ⟨#[]⟩, Value.string ⟨#[]⟩, Value.int IntKind.i64 0] 109)).cell? ⟨w.heap.size, i, none⟩ = #[Value.string ⟨#[]⟩, Value.string ⟨#[]⟩, Value.int IntKind.i64 0][i]? := fun i => World.cell?_alloc_at _ _ _ _ rfl
  have hzf : ∀ i, (w.alloc (Obj.cells #[Value.string ⟨#[]⟩, Value.string ⟨#[]⟩, Value.int IntKind.i64 0] 109)).frozen? ⟨w.heap.size, i, none⟩ = false := fun i => by simp
  have hb0 := (Below.refl w.heap.size w).alloc (Nat.le_refl _) (Obj.cells #[Value.string ⟨#[]⟩, Value.string ⟨#[]⟩, Value.int IntKind.i64 0] 109)
  obtain ⟨a, c, rfl, hrow⟩ := row3 h.row
  have HR : Hid _ := hrow
  clear h hrow
  go_enter Tryz.func43, Tryz.ntmps43
  go_wp2
  generalize (w.alloc (Obj.cells #[Value.string ⟨#[]⟩, Value.string ⟨#[]⟩, Value.int IntKind.i64 0] 109)) = W0 at *
  go_loop [6] (fun ix => ∃ t : Nat, t ≤ fs.length ∧ ix = .int .i64 t ∧ ∀ j (hj : j < fs.length), j < t → (fs[j].n == nm) = false) (fun ix => fs.length - (intOf ix).toNat)
  case atStart => exact ⟨0, by omega, rfl, fun j hj h0 => by omega⟩
  case round =>
    obtain ⟨t, ht, rfl, hno⟩ := hrel
    have HNo : Hid _ := hno
    clear hno
    by_cases htl : t < fs.length
    · obtain ⟨g, rfl, _, hgl, hcc⟩ := HR.out.resolve_left (by omega)
      have j0 := (hb0.cell (p := ⟨g, t * 3 + 0, none⟩) hgl).trans (hcc _ _ (file_at fs t htl 0 (by omega)))
      have j1 := (hb0.cell (p := ⟨g, t * 3 + 1, none⟩) hgl).trans (hcc _ _ (file_at fs t htl 1 (by omega)))
      have j2 := (hb0.cell (p := ⟨g, t * 3 + 2, none⟩) hgl).trans (hcc _ _ (file_at fs t htl 2 (by omega)))
      simp [FD.cells] at j0 j1 j2
      have htl2 : (t : Int) < (fs.length : Int) := by omega
      clear hcc
      cases hq : (fs[t].n == nm) with
      | true =>
        have q := strEqB fs[t].n nm
        rw [hq] at q
        have HF : Hid (fGet fs nm = some fs[t]) := fGet_some htl hq HNo.out
        clear hq
        generalize fs[t] = F at *
        have e0 := hz 0
        have e1 := hz 1
        have e2 := hz 2
        simp at e0 e1 e2
        have hbF : ∀ x0 x1 x2, Below w.heap.size w (((W0.setCell ⟨w.heap.size, 0, none⟩ x0).setCell ⟨w.heap.size, 1, none⟩ x1).setCell ⟨w.heap.size, 2, none⟩ x2) := fun x0 x1 x2 => Below.setCell (Below.setCell (Below.setCell hb0 (Nat.le_refl _) _) (Nat.le_refl _) _) (Nat.le_refl _) _
        have HBF : Hid _ := hbF
        clear hbF hz
        go_wp2
        exact bodyPost_ret (v := .tuple #[.agg #[.string (strOf F.n), .string (strOf F.d), .int .i64 (F.s : Int)], .bool true]) (by simp [results, Tryz.results43, go_sem, e0, e1, e2]) rfl ⟨by rw [HF.out]; rfl, HBF.out _ _ _⟩
      | false =>
        have q := strEqB fs[t].n nm
        rw [hq] at q
        have HQ : Hid ((fs[t].n == nm) = false) := hq
        clear hq
        generalize fs[t] = F at j0 j1 j2 q
        go_wp2
        go_round
        case rel =>
          refine ⟨t + 1, by omega, by go_num, fun j hj hjt => ?_⟩
          by_cases he : j = t
          · subst he; exact HQ.out
          · exact HNo.out j hj (by omega)
        case measure => simp [intOf]; omega
    · have HF : Hid (fGet fs nm = none) := fGet_none (fun j hj => HNo.out j hj (by omega))
      have e0 := hz 0
      have e1 := hz 1
      have e2 := hz 2
      simp at e0 e1 e2
      have hbF : ∀ x0 x1 x2, Below w.heap.size w (((W0.setCell ⟨w.heap.size, 0, none⟩ x0).setCell ⟨w.heap.size, 1, none⟩ x1).setCell ⟨w.heap.size, 2, none⟩ x2) := fun x0 x1 x2 => Below.setCell (Below.setCell (Below.setCell hb0 (Nat.le_refl _) _) (Nat.le_refl _) _) (Nat.le_refl _) _
      have HBF : Hid _ := hbF
      clear hbF hz
      go_wp2
      exact bodyPost_ret (v := .tuple #[.agg #[.string ⟨#[]⟩, .string ⟨#[]⟩, .int .i64 0], .bool false]) (by simp [results, Tryz.results43, go_sem, e0, e1, e2]) rfl ⟨by rw [HF.out]; rfl, HBF.out _ _ _⟩
set_option maxHeartbeats 4000000 in
set_option maxRecDepth 20000 in
theorem put_any (low R : Nat) (v : Value) (fs : List FD) (left : Int) (f : FD) (w : World) (h : DS 105 109 low w R v fs left) (hl : fs.length ≤ 3000000000) (hlow : low ≤ w.heap.size) :
    Calls Tryz.prog 79 #[.pointer (some ⟨R, 0, none⟩), .agg #[.string (strOf f.n), .string (strOf f.d), .int .i64 (f.s : Int)]] w fun r w' => r = .returned (.tuple #[]) ∧ Did 105 109 low w R v (wOut fs f.n ++ [f]) left w' := by
  obtain ⟨i0, hi0, hz0, hz1, hz2⟩ := info_parts info78
  have hR := h.lt
  have hb0 := (Below.refl w.heap.size w).alloc (Nat.le_refl _) (Obj.cells #[Value.string (strOf f.n), Value.string (strOf f.d), Value.int IntKind.i64 (f.s : Int)] 109)
  have hbx : ∀ i, (w.alloc (Obj.cells #[Value.string (strOf f.n), Value.string (strOf f.d), Value.int IntKind.i64 (f.s : Int)] 109)).cell? ⟨w.heap.size, i, none⟩ = #[Value.string (strOf f.n), Value.string (strOf f.d), Value.int IntKind.i64 (f.s : Int)][i]? := fun i => World.cell?_alloc_at _ _ _ _ rfl
  have hs0 : (w.alloc (Obj.cells #[Value.string (strOf f.n), Value.string (strOf f.d), Value.int IntKind.i64 (f.s : Int)] 109)).heap.size = w.heap.size + 1 := by simp
  have h0 := h.later hb0
  go_enter Tryz.func79, Tryz.ntmps79
  go_wp2_with fail
  generalize (w.alloc (Obj.cells #[Value.string (strOf f.n), Value.string (strOf f.d), Value.int IntKind.i64 (f.s : Int)] 109)) = W0 at *
  refine (rwithout_any low R v fs left f.n W0 h0 hl).mono ?_
  rintro r w1 ⟨v1, rfl, ho1, hb1⟩
  have hbx1 : ∀ i, w1.cell? ⟨w.heap.size, i, none⟩ = #[Value.string (strOf f.n), Value.string (strOf f.d), Value.int IntKind.i64 (f.s : Int)][i]? := fun i => (hb1.cell (by show w.heap.size < _; omega)).trans (hbx i)
  have hst1 : w1.heap[R]? = some (.cells #[v, .int .i64 left] 105 (0, 0)) := (hb1.block R (by omega)).trans ((hb0.block R hR).trans h.st)
  have hbw1 : Below w.heap.size w w1 := hb0.trans (hb1.mono (by omega))
  have hs1 := hb1.size
  obtain ⟨a1, c1, rfl, _⟩ := row3 ho1
  have hwl : (wOut fs f.n).length ≤ fs.length := List.length_filter_le _ _
  have HO : Hid (w1.ownsRow W0.heap.size 109 3 (.slice a1 (wOut fs f.n).length c1) (wOut fs f.n).length ((wOut fs f.n).flatMap FD.cells)) := ho1
  have HB1 : Hid (Below w.heap.size w w1) := hbw1
  have HST : Hid _ := hst1
  clear h h0 hbx hb0 hb1 ho1 hbw1 hst1
  go_wp2_with (at_builtin; go_loud (refine wpList_append_own _ rfl _ _ 103 rfl W0.heap.size 109 i0 (.agg #[.string ⟨#[]⟩, .string ⟨#[]⟩, .int .i64 0]) 3 40 Tryz.underlying103 hi0 hz0 hz1 hz2 rfl (by decide) _ (wOut fs f.n).length ((wOut fs f.n).flatMap FD.cells) rfl (World.ownsRow.alloc HO.out _) ⟨w1.heap.size, 0, none⟩ 1 1 [Value.string (strOf f.n), Value.string (strOf f.d), Value.int IntKind.i64 (f.s : Int)] rfl rfl ?c1 ?c2 ?c3 ?c4 ?c5 ?_))
  case c1 =>
    intro j u hu
    rw [Go.WideShapes.add_plain]
    refine (World.cell?_alloc_at _ _ _ _ (by simp)).trans ?_
    simpa using hu
  case c2 => intro u hu; simp at hu; rcases hu with rfl | rfl | rfl <;> rfl
  case c3 => unfold maxLen; omega
  case c4 => omega
  case c5 => simp; omega
  intro v2 w2 ho2 hg2 _
  rw [← hs0] at ho2
  obtain ⟨xa, xc, rfl⟩ : ∃ la lc, v2 = .slice la ((wOut fs f.n).length + 1) lc := by
    obtain ⟨x, y, h1, _⟩ := row3 ho2
    exact ⟨x, y, h1⟩
  have hoff1 : ∀ g, Value.ownBlock (.slice a1 (wOut fs f.n).length c1) = some g → W0.heap.size ≤ g := fun g hg => (World.ownsRow.lt HO.out g hg).1
  have hst2 : w2.heap[R]? = some (.cells #[v, .int .i64 left] 105 (0, 0)) := (hg2.block R (by simp; omega) (fun hh => by have := hoff1 R hh.symm; omega)).trans ((heap_alloc_old w1 _ (by omega)).trans HST.out)
  have hw2 : w1.heap.size + 1 ≤ w2.heap.size := by have := hg2.size; simpa using this
  have hcell : w2.cell? ⟨R, 0, none⟩ = some v := by simp [World.cell?, hst2]
  have hfz : w2.frozen? ⟨R, 0, none⟩ = false := by simp [World.frozen?, hst2]
  have HDid : Hid (Did 105 109 low w R v (wOut fs f.n ++ [f]) left (w2.setCell ⟨R, 0, none⟩ (.slice xa ((wOut fs f.n).length + 1) xc))) := by
    have hlt2 : ∀ g, Value.ownBlock (.slice xa ((wOut fs f.n).length + 1) xc) = some g → W0.heap.size ≤ g := fun g hg => (World.ownsRow.lt ho2 g hg).1
    refine ⟨.slice xa ((wOut fs f.n).length + 1) xc, ?_, ?_, fun g hg => .inr (by have := hlt2 g hg; omega)⟩
    · refine DS.store (low' := W0.heap.size) hst2 ?_ (by omega) (fun hh => by have := hlt2 R hh; omega)
      rw [List.length_append, List.flatMap_append]
      simp only [List.length_cons, List.length_nil, List.flatMap_cons, List.flatMap_nil, List.append_nil]
      exact ho2
    · have hb := HB1.out
      have k1 : Kpt (fun b => b = R ∨ some b = v.ownBlock) w w2 := ⟨hg2.os.trans hb.os, hg2.tape.trans hb.tape, hg2.output.trans hb.output, by have := hb.size; omega, fun k hk _ => (hg2.block k (by simp; omega) (fun hh => by have := hoff1 k hh.symm; omega)).trans ((heap_alloc_old w1 _ (by omega)).trans (hb.block k hk))⟩
      exact k1.trans (Kpt.set w2 R 0 _) (fun b _ hb => .inl hb)
  clear ho2 hg2 hst2 hbx1 HO
  go_wp2
  refine bodyPost_end (v := .tuple #[]) (by simp [results, Tryz.results79, go_sem]) rfl ?_
  exact ⟨rfl, HDid.out⟩

def stepL (left : Int) : Int := if 0 < left then left - 1 else left
theorem step_did {ty e : TypeId} {low : Nat} {w : World} {S : Nat} {v : Value} {fs : List FD} {left : Int} (h : DS ty e low w S v fs left) (hne : ty ≠ e) (w' : World) (hw : w' = if 0 < left then w.setCell ⟨S, 1, none⟩ (.int .i64 (left - 1)) else w) :
    DS ty e low w' S v fs (stepL left) ∧ Kpt (fun b => b = S) w w' ∧ w'.heap.size = w.heap.size := by
  unfold stepL
  by_cases h0 : 0 < left
  · rw [if_pos h0] at hw ⊢
    subst hw
    exact ⟨h.relay hne _, Kpt.set _ _ _ _, (But.setCell w ⟨S, 1, none⟩ _).size⟩
  · rw [if_neg h0] at hw ⊢
    subst hw
    exact ⟨h, Kpt.refl _ _, rfl⟩
theorem Did.pre {ty e : TypeId} {low S : Nat} {w w1 w' : World} {v : Value} {fs' : List FD} {left' : Int} (hk : Kpt (fun b => b = S) w w1) (h : Did ty e low w1 S v fs' left' w') : Did ty e low w S v fs' left' w' := by
  obtain ⟨v', h1, h2, h3⟩ := h
  refine ⟨v', h1, ?_, fun g hg => ?_⟩
  · refine ⟨h2.os.trans hk.os, h2.tape.trans hk.tape, h2.output.trans hk.output, Nat.le_trans hk.size h2.size, fun k hk1 hA => ?_⟩
    exact (h2.block k (Nat.lt_of_lt_of_le hk1 hk.size) hA).trans (hk.block k hk1 (fun hh => hA (.inl hh)))
  · rcases h3 g hg with h4 | h4
    · exact .inl h4
    · exact .inr (Nat.le_trans hk.size h4)
theorem Did.same {ty e : TypeId} {low S : Nat} {w w' : World} {v : Value} {fs : List FD} {left : Int} (h : DS ty e low w' S v fs left) (hk : Kpt (fun b => b = S) w w') : Did ty e low w S v fs left w' :=
  ⟨v, h, ⟨hk.os, hk.tape, hk.output, hk.size, fun k h1 h2 => hk.block k h1 (fun hh => h2 (.inl hh))⟩, fun g hg => .inl hg⟩
def rApp (fs : List FD) (nm dt : List UInt8) : List FD := wOut fs nm ++ [⟨nm, (fBox (fGet fs nm)).d ++ dt, (fBox (fGet fs nm)).s⟩]
def rSyn (fs : List FD) (nm : List UInt8) : List FD := match fGet fs nm with
  | none => fs
  | some f => wOut fs nm ++ [⟨nm, f.d, f.d.length⟩]
def rRen (fs : List FD) (a b : List UInt8) : List FD := match fGet fs a with
  | none => fs
  | some f => wOut (wOut fs a) b ++ [⟨b, f.d, f.s⟩]

set_option maxHeartbeats 4000000 in
set_option maxRecDepth 20000 in
theorem rappend_zero (low R : Nat) (v : Value) (fs : List FD) (nm dt : List UInt8) (w : World) (h : DS 105 109 low w R v fs 0) (hl : fs.length ≤ 3000000000) :
    Calls Tryz.prog 33 #[.pointer (some ⟨R, 0, none⟩), .string (strOf nm), .string (strOf dt)] w fun r w' => r = .returned (.bool false) ∧ Did 105 109 low w R v fs (stepL 0) w' := by
  go_enter Tryz.func33, Tryz.ntmps33
  go_wp2_with fail
  refine (rstep_any low R v fs 0 w h (by omega)).mono ?_
  rintro r w1 ⟨rfl, hw1⟩
  obtain ⟨h1, hk1, hs1⟩ := step_did h (by decide) w1 hw1
  clear hw1
  rw [show decide ((0 : Int) ≠ 0) = false from rfl]
  have HD : Hid _ := Did.same h1 hk1
  clear h1 hk1 h
  go_wp2
  go_ret
  exact ⟨rfl, HD.out⟩

set_option maxHeartbeats 4000000 in
set_option maxRecDepth 20000 in
theorem rappend_go (low R : Nat) (v : Value) (fs : List FD) (left : Int) (nm dt : List UInt8) (w : World) (h : DS 105 109 low w R v fs left) (h0 : left ≠ 0) (hb : -9223372036854775808 ≤ left ∧ left ≤ 9223372036854775807) (hl : fs.length ≤ 3000000000) (hlow : low ≤ w.heap.size) (hcat : (fBox (fGet fs nm)).d.length + dt.length ≤ 3000000000) :
    Calls Tryz.prog 33 #[.pointer (some ⟨R, 0, none⟩), .string (strOf nm), .string (strOf dt)] w fun r w' => r = .returned (.bool true) ∧ Did 105 109 low w R v (rApp fs nm dt) (stepL left) w' := by
  go_enter Tryz.func33, Tryz.ntmps33
  go_wp2_with fail
  refine (rstep_any low R v fs left w h hb).mono ?_
  rintro r w1 ⟨rfl, hw1⟩
  obtain ⟨h1, hk1, hs1⟩ := step_did h (by decide) w1 hw1
  clear hw1
  rw [show decide (left ≠ 0) = true by simpa using h0]
  clear h
  go_wp2_with fail
  refine (file_any low R v fs (stepL left) nm w1 h1 (by omega)).mono ?_
  rintro r w2 ⟨rfl, hb2⟩
  have h2 := h1.later hb2
  have HA : Hid (rApp fs nm dt = wOut fs nm ++ [⟨nm, (fBox (fGet fs nm)).d ++ dt, (fBox (fGet fs nm)).s⟩]) := rfl
  generalize fBox (fGet fs nm) = F at *
  generalize (fGet fs nm).isSome = FB at *
  have hsz : (strOf F.d).size + (strOf dt).size ≤ 3000000000 := by rw [strOf_size, strOf_size]; exact hcat
  have hb3 := (Below.refl w2.heap.size w2).alloc (Nat.le_refl _) (Obj.cells #[Value.string (strOf F.n), Value.string (strOf F.d), Value.int IntKind.i64 (F.s : Int)] 109)
  have bc : ∀ i, (w2.alloc (Obj.cells #[Value.string (strOf F.n), Value.string (strOf F.d), Value.int IntKind.i64 (F.s : Int)] 109)).cell? ⟨w2.heap.size, i, none⟩ = #[Value.string (strOf F.n), Value.string (strOf F.d), Value.int IntKind.i64 (F.s : Int)][i]? := fun i => World.cell?_alloc_at _ _ _ _ rfl
  have bf : ∀ i, (w2.alloc (Obj.cells #[Value.string (strOf F.n), Value.string (strOf F.d), Value.int IntKind.i64 (F.s : Int)] 109)).frozen? ⟨w2.heap.size, i, none⟩ = false := fun i => by simp
  have h3 := h2.later hb3
  have hk3 : Kpt (fun b => b = R) w (w2.alloc (Obj.cells #[Value.string (strOf F.n), Value.string (strOf F.d), Value.int IntKind.i64 (F.s : Int)] 109)) := (hk1.trans (A := fun b => b = R) (Kpt.of_below (A := fun b => b = R) hb2) (fun _ _ hh => hh)).trans (Kpt.of_below (A := fun b => b = R) hb3) (fun _ _ hh => hh)
  have hlow3 : low ≤ (w2.alloc (Obj.cells #[Value.string (strOf F.n), Value.string (strOf F.d), Value.int IntKind.i64 (F.s : Int)] 109)).heap.size := by have := hk3.size; omega
  have hRlt := h1.lt
  have hs12 := hb2.size
  clear h1 h2 hk1 hb3
  have HK3 : Hid (Kpt (fun b => b = R) w (w2.alloc (Obj.cells #[Value.string (strOf F.n), Value.string (strOf F.d), Value.int IntKind.i64 (F.s : Int)] 109))) := hk3
  have H3 : Hid (DS 105 109 low (w2.alloc (Obj.cells #[Value.string (strOf F.n), Value.string (strOf F.d), Value.int IntKind.i64 (F.s : Int)] 109)) R v fs (stepL left)) := h3
  clear hk3 h3
  go_wp2_with fail
  rw [strOf_append]
  refine (put_any low R v fs (stepL left) ⟨nm, F.d ++ dt, F.s⟩ (w2.alloc (Obj.cells #[Value.string (strOf F.n), Value.string (strOf F.d), Value.int IntKind.i64 (F.s : Int)] 109)) H3.out hl hlow3).mono ?_
  rintro r w5 ⟨rfl, hd⟩
  have HD : Hid (Did 105 109 low w R v (rApp fs nm dt) (stepL left) w5) := by unfold Hid; rw [HA.out]; exact Did.pre HK3.out hd
  clear hd bc
  go_wp2
  go_ret
  exact ⟨rfl, HD.out⟩

set_option maxHeartbeats 4000000 in
set_option maxRecDepth 20000 in
theorem rremove_zero (low R : Nat) (v : Value) (fs : List FD) (nm : List UInt8) (w : World) (h : DS 105 109 low w R v fs 0) (hl : fs.length ≤ 3000000000) :
    Calls Tryz.prog 39 #[.pointer (some ⟨R, 0, none⟩), .string (strOf nm)] w fun r w' => r = .returned (.bool false) ∧ Did 105 109 low w R v fs (stepL 0) w' := by
  go_enter Tryz.func39, Tryz.ntmps39
  go_wp2_with fail
  refine (rstep_any low R v fs 0 w h (by omega)).mono ?_
  rintro r w1 ⟨rfl, hw1⟩
  obtain ⟨h1, hk1, hs1⟩ := step_did h (by decide) w1 hw1
  clear hw1
  rw [show decide ((0 : Int) ≠ 0) = false from rfl]
  have HD : Hid _ := Did.same h1 hk1
  clear h1 hk1 h
  go_wp2
  go_ret
  exact ⟨rfl, HD.out⟩

set_option maxHeartbeats 4000000 in
set_option maxRecDepth 20000 in
theorem rremove_go (low R : Nat) (v : Value) (fs : List FD) (left : Int) (nm : List UInt8) (w : World) (h : DS 105 109 low w R v fs left) (h0 : left ≠ 0) (hb : -9223372036854775808 ≤ left ∧ left ≤ 9223372036854775807) (hl : fs.length ≤ 3000000000) (hlow : low ≤ w.heap.size) :
    Calls Tryz.prog 39 #[.pointer (some ⟨R, 0, none⟩), .string (strOf nm)] w fun r w' => r = .returned (.bool true) ∧ Did 105 109 low w R v (wOut fs nm) (stepL left) w' := by
  go_enter Tryz.func39, Tryz.ntmps39
  go_wp2_with fail
  refine (rstep_any low R v fs left w h hb).mono ?_
  rintro r w1 ⟨rfl, hw1⟩
  obtain ⟨h1, hk1, hs1⟩ := step_did h (by decide) w1 hw1
  clear hw1
  rw [show decide (left ≠ 0) = true by simpa using h0]
  clear h
  go_wp2_with fail
  refine (rwithout_any low R v fs (stepL left) nm w1 h1 hl).mono ?_
  rintro r w2 ⟨v2, rfl, ho2, hb2⟩
  obtain ⟨a2, c2, rfl, _⟩ := row3 ho2
  have h2 := h1.later hb2
  have hR := h1.lt
  have cR := h2.cell 0
  have fR := h2.free 0
  simp at cR
  have hlt2 : ∀ g, Value.ownBlock (.slice a2 (wOut fs nm).length c2) = some g → w1.heap.size ≤ g := fun g hg => (World.ownsRow.lt ho2 g hg).1
  have HF : Hid (Did 105 109 low w R v (wOut fs nm) (stepL left) (w2.setCell ⟨R, 0, none⟩ (.slice a2 (wOut fs nm).length c2))) := Did.pre hk1 ⟨_, DS.store (low := low) h2.st ho2 (by omega) (fun hh => by have := hlt2 R hh; omega), ((Kpt.of_below (A := fun b => b = R ∨ some b = v.ownBlock) hb2).trans (Kpt.set w2 R 0 (.slice a2 (wOut fs nm).length c2)) (fun b _ hb => .inl hb)), fun g hg => .inr (hlt2 g hg)⟩
  clear h1 h2 ho2 hb2 hlt2
  go_wp2
  go_ret
  exact ⟨rfl, HF.out⟩

set_option maxHeartbeats 4000000 in
set_option maxRecDepth 20000 in
theorem rsync_zero (low R : Nat) (v : Value) (fs : List FD) (nm : List UInt8) (w : World) (h : DS 105 109 low w R v fs 0) (hl : fs.length ≤ 3000000000) :
    Calls Tryz.prog 35 #[.pointer (some ⟨R, 0, none⟩), .string (strOf nm)] w fun r w' => r = .returned (.bool false) ∧ Did 105 109 low w R v fs (stepL 0) w' := by
  go_enter Tryz.func35, Tryz.ntmps35
  go_wp2_with fail
  refine (rstep_any low R v fs 0 w h (by omega)).mono ?_
  rintro r w1 ⟨rfl, hw1⟩
  obtain ⟨h1, hk1, hs1⟩ := step_did h (by decide) w1 hw1
  clear hw1
  rw [show decide ((0 : Int) ≠ 0) = false from rfl]
  go_wp2_with fail
  refine (file_any low R v fs (stepL 0) nm w1 h1 (by omega)).mono ?_
  rintro r w2 ⟨rfl, hb2⟩
  generalize fBox (fGet fs nm) = F at *
  generalize (fGet fs nm).isSome = FB at *
  have hd := Did.same ((h1.later hb2).later ((Below.refl w2.heap.size w2).alloc (Nat.le_refl _) (Obj.cells #[Value.string (strOf F.n), Value.string (strOf F.d), Value.int IntKind.i64 (F.s : Int)] 109))) ((hk1.trans (A := fun b => b = R) (Kpt.of_below (A := fun b => b = R) hb2) (fun _ _ hh => hh)).trans (Kpt.of_below (A := fun b => b = R) ((Below.refl w2.heap.size w2).alloc (Nat.le_refl _) (Obj.cells #[Value.string (strOf F.n), Value.string (strOf F.d), Value.int IntKind.i64 (F.s : Int)] 109))) (fun _ _ hh => hh))
  have HD : Hid _ := hd
  clear hd h1 hk1 h hb2
  go_wp2
  go_ret
  exact ⟨rfl, HD.out⟩

set_option maxHeartbeats 4000000 in
set_option maxRecDepth 20000 in
theorem rsync_go (low R : Nat) (v : Value) (fs : List FD) (left : Int) (nm : List UInt8) (w : World) (h : DS 105 109 low w R v fs left) (h0 : left ≠ 0) (hb : -9223372036854775808 ≤ left ∧ left ≤ 9223372036854775807) (hl : fs.length ≤ 3000000000) (hlow : low ≤ w.heap.size) (hdl : (fBox (fGet fs nm)).d.length ≤ 3000000000) :
    Calls Tryz.prog 35 #[.pointer (some ⟨R, 0, none⟩), .string (strOf nm)] w fun r w' => r = .returned (.bool true) ∧ Did 105 109 low w R v (rSyn fs nm) (stepL left) w' := by
  go_enter Tryz.func35, Tryz.ntmps35
  go_wp2_with fail
  refine (rstep_any low R v fs left w h hb).mono ?_
  rintro r w1 ⟨rfl, hw1⟩
  obtain ⟨h1, hk1, hs1⟩ := step_did h (by decide) w1 hw1
  clear hw1
  rw [show decide (left ≠ 0) = true by simpa using h0]
  clear h
  go_wp2_with fail
  refine (file_any low R v fs (stepL left) nm w1 h1 (by omega)).mono ?_
  rintro r w2 ⟨rfl, hb2⟩
  have h2 := h1.later hb2
  cases hg : fGet fs nm with
  | none =>
    have HR : Hid (rSyn fs nm = fs) := by unfold Hid rSyn; rw [hg]
    clear hg
    have hd := Did.same ((h1.later hb2).later ((Below.refl w2.heap.size w2).alloc (Nat.le_refl _) (Obj.cells #[Value.string (strOf (fBox none).n), Value.string (strOf (fBox none).d), Value.int IntKind.i64 ((fBox none).s : Int)] 109))) ((hk1.trans (A := fun b => b = R) (Kpt.of_below (A := fun b => b = R) hb2) (fun _ _ hh => hh)).trans (Kpt.of_below (A := fun b => b = R) ((Below.refl w2.heap.size w2).alloc (Nat.le_refl _) (Obj.cells #[Value.string (strOf (fBox none).n), Value.string (strOf (fBox none).d), Value.int IntKind.i64 ((fBox none).s : Int)] 109))) (fun _ _ hh => hh))
    have HD : Hid (Did 105 109 low w R v (rSyn fs nm) (stepL left) (w2.alloc (Obj.cells #[Value.string (strOf (fBox none).n), Value.string (strOf (fBox none).d), Value.int IntKind.i64 ((fBox none).s : Int)] 109))) := by unfold Hid; rw [HR.out]; exact hd
    clear hd h1 h2 hk1 hb2
    go_wp2
    go_ret
    exact ⟨rfl, HD.out⟩
  | some F =>
    simp only [fBox, Option.getD_some, Option.isSome_some]
    have hb3 := (Below.refl w2.heap.size w2).alloc (Nat.le_refl _) (Obj.cells #[Value.string (strOf F.n), Value.string (strOf F.d), Value.int IntKind.i64 (F.s : Int)] 109)
    have bc : ∀ i, (w2.alloc (Obj.cells #[Value.string (strOf F.n), Value.string (strOf F.d), Value.int IntKind.i64 (F.s : Int)] 109)).cell? ⟨w2.heap.size, i, none⟩ = #[Value.string (strOf F.n), Value.string (strOf F.d), Value.int IntKind.i64 (F.s : Int)][i]? := fun i => World.cell?_alloc_at _ _ _ _ rfl
    have bf : ∀ i, (w2.alloc (Obj.cells #[Value.string (strOf F.n), Value.string (strOf F.d), Value.int IntKind.i64 (F.s : Int)] 109)).frozen? ⟨w2.heap.size, i, none⟩ = false := fun i => by simp
    have h3 := h2.later hb3
    have hk3 : Kpt (fun b => b = R) w (w2.alloc (Obj.cells #[Value.string (strOf F.n), Value.string (strOf F.d), Value.int IntKind.i64 (F.s : Int)] 109)) := (hk1.trans (A := fun b => b = R) (Kpt.of_below (A := fun b => b = R) hb2) (fun _ _ hh => hh)).trans (Kpt.of_below (A := fun b => b = R) hb3) (fun _ _ hh => hh)
    have hlow3 : low ≤ (w2.alloc (Obj.cells #[Value.string (strOf F.n), Value.string (strOf F.d), Value.int IntKind.i64 (F.s : Int)] 109)).heap.size := by have := hk3.size; omega
    have hRlt := h1.lt
    have hs12 := hb2.size
    clear h1 h2 hk1 hb3
    have HK3 : Hid (Kpt (fun b => b = R) w (w2.alloc (Obj.cells #[Value.string (strOf F.n), Value.string (strOf F.d), Value.int IntKind.i64 (F.s : Int)] 109))) := hk3
    have H3 : Hid (DS 105 109 low (w2.alloc (Obj.cells #[Value.string (strOf F.n), Value.string (strOf F.d), Value.int IntKind.i64 (F.s : Int)] 109)) R v fs (stepL left)) := h3
    clear hk3 h3
    have HR : Hid (rSyn fs nm = wOut fs nm ++ [⟨nm, F.d, F.d.length⟩]) := by unfold Hid rSyn; rw [hg]
    clear hg
    have hsz : (strOf F.d).size = F.d.length := strOf_size _
    go_wp2_with fail
    refine (put_any low R v fs (stepL left) ⟨nm, F.d, F.d.length⟩ (w2.alloc (Obj.cells #[Value.string (strOf F.n), Value.string (strOf F.d), Value.int IntKind.i64 (F.s : Int)] 109)) H3.out hl hlow3).mono ?_
    rintro r w5 ⟨rfl, hd⟩
    have HD : Hid (Did 105 109 low w R v (rSyn fs nm) (stepL left) w5) := by unfold Hid; rw [HR.out]; exact Did.pre HK3.out hd
    clear hd bc
    go_wp2
    go_ret
    exact ⟨rfl, HD.out⟩

set_option maxHeartbeats 4000000 in
set_option maxRecDepth 20000 in
theorem rrename_zero (low R : Nat) (v : Value) (fs : List FD) (nm dt : List UInt8) (w : World) (h : DS 105 109 low w R v fs 0) (hl : fs.length ≤ 3000000000) :
    Calls Tryz.prog 37 #[.pointer (some ⟨R, 0, none⟩), .string (strOf nm), .string (strOf dt)] w fun r w' => r = .returned (.bool false) ∧ Did 105 109 low w R v fs (stepL 0) w' := by
  go_enter Tryz.func37, Tryz.ntmps37
  go_wp2_with fail
  refine (rstep_any low R v fs 0 w h (by omega)).mono ?_
  rintro r w1 ⟨rfl, hw1⟩
  obtain ⟨h1, hk1, hs1⟩ := step_did h (by decide) w1 hw1
  clear hw1
  rw [show decide ((0 : Int) ≠ 0) = false from rfl]
  go_wp2_with fail
  refine (file_any low R v fs (stepL 0) nm w1 h1 (by omega)).mono ?_
  rintro r w2 ⟨rfl, hb2⟩
  generalize fBox (fGet fs nm) = F at *
  generalize (fGet fs nm).isSome = FB at *
  have hd := Did.same ((h1.later hb2).later ((Below.refl w2.heap.size w2).alloc (Nat.le_refl _) (Obj.cells #[Value.string (strOf F.n), Value.string (strOf F.d), Value.int IntKind.i64 (F.s : Int)] 109))) ((hk1.trans (A := fun b => b = R) (Kpt.of_below (A := fun b => b = R) hb2) (fun _ _ hh => hh)).trans (Kpt.of_below (A := fun b => b = R) ((Below.refl w2.heap.size w2).alloc (Nat.le_refl _) (Obj.cells #[Value.string (strOf F.n), Value.string (strOf F.d), Value.int IntKind.i64 (F.s : Int)] 109))) (fun _ _ hh => hh))
  have HD : Hid _ := hd
  clear hd h1 hk1 h hb2
  go_wp2
  go_ret
  exact ⟨rfl, HD.out⟩

set_option maxHeartbeats 4000000 in
set_option maxRecDepth 20000 in
theorem rrename_go (low R : Nat) (v : Value) (fs : List FD) (left : Int) (nm dt : List UInt8) (w : World) (h : DS 105 109 low w R v fs left) (h0 : left ≠ 0) (hb : -9223372036854775808 ≤ left ∧ left ≤ 9223372036854775807) (hl : fs.length ≤ 3000000000) (hlow : low ≤ w.heap.size) :
    Calls Tryz.prog 37 #[.pointer (some ⟨R, 0, none⟩), .string (strOf nm), .string (strOf dt)] w fun r w' => r = .returned (.bool true) ∧ Did 105 109 low w R v (rRen fs nm dt) (stepL left) w' := by
  go_enter Tryz.func37, Tryz.ntmps37
  go_wp2_with fail
  refine (rstep_any low R v fs left w h hb).mono ?_
  rintro r w1 ⟨rfl, hw1⟩
  obtain ⟨h1, hk1, hs1⟩ := step_did h (by decide) w1 hw1
  clear hw1
  rw [show decide (left ≠ 0) = true by simpa using h0]
  clear h
  go_wp2_with fail
  refine (file_any low R v fs (stepL left) nm w1 h1 (by omega)).mono ?_
  rintro r w2 ⟨rfl, hb2⟩
  have h2 := h1.later hb2
  cases hg : fGet fs nm with
  | none =>
    have HR : Hid (rRen fs nm dt = fs) := by unfold Hid rRen; rw [hg]
    clear hg
    have hd := Did.same ((h1.later hb2).later ((Below.refl w2.heap.size w2).alloc (Nat.le_refl _) (Obj.cells #[Value.string (strOf (fBox none).n), Value.string (strOf (fBox none).d), Value.int IntKind.i64 ((fBox none).s : Int)] 109))) ((hk1.trans (A := fun b => b = R) (Kpt.of_below (A := fun b => b = R) hb2) (fun _ _ hh => hh)).trans (Kpt.of_below (A := fun b => b = R) ((Below.refl w2.heap.size w2).alloc (Nat.le_refl _) (Obj.cells #[Value.string (strOf (fBox none).n), Value.string (strOf (fBox none).d), Value.int IntKind.i64 ((fBox none).s : Int)] 109))) (fun _ _ hh => hh))
    have HD : Hid (Did 105 109 low w R v (rRen fs nm dt) (stepL left) (w2.alloc (Obj.cells #[Value.string (strOf (fBox none).n), Value.string (strOf (fBox none).d), Value.int IntKind.i64 ((fBox none).s : Int)] 109))) := by unfold Hid; rw [HR.out]; exact hd
    clear hd h1 h2 hk1 hb2
    go_wp2
    go_ret
    exact ⟨rfl, HD.out⟩
  | some F =>
    simp only [fBox, Option.getD_some, Option.isSome_some]
    have hb3 := (Below.refl w2.heap.size w2).alloc (Nat.le_refl _) (Obj.cells #[Value.string (strOf F.n), Value.string (strOf F.d), Value.int IntKind.i64 (F.s : Int)] 109)
    have bc : ∀ i, (w2.alloc (Obj.cells #[Value.string (strOf F.n), Value.string (strOf F.d), Value.int IntKind.i64 (F.s : Int)] 109)).cell? ⟨w2.heap.size, i, none⟩ = #[Value.string (strOf F.n), Value.string (strOf F.d), Value.int IntKind.i64 (F.s : Int)][i]? := fun i => World.cell?_alloc_at _ _ _ _ rfl
    have bf : ∀ i, (w2.alloc (Obj.cells #[Value.string (strOf F.n), Value.string (strOf F.d), Value.int IntKind.i64 (F.s : Int)] 109)).frozen? ⟨w2.heap.size, i, none⟩ = false := fun i => by simp
    have h3 := h2.later hb3
    have hk3 : Kpt (fun b => b = R) w (w2.alloc (Obj.cells #[Value.string (strOf F.n), Value.string (strOf F.d), Value.int IntKind.i64 (F.s : Int)] 109)) := (hk1.trans (A := fun b => b = R) (Kpt.of_below (A := fun b => b = R) hb2) (fun _ _ hh => hh)).trans (Kpt.of_below (A := fun b => b = R) hb3) (fun _ _ hh => hh)
    have hlow3 : low ≤ (w2.alloc (Obj.cells #[Value.string (strOf F.n), Value.string (strOf F.d), Value.int IntKind.i64 (F.s : Int)] 109)).heap.size := by have := hk3.size; omega
    have hRlt := h1.lt
    have hs12 := hb2.size
    clear h1 h2 hk1 hb3
    have HK3 : Hid (Kpt (fun b => b = R) w (w2.alloc (Obj.cells #[Value.string (strOf F.n), Value.string (strOf F.d), Value.int IntKind.i64 (F.s : Int)] 109))) := hk3
    have H3 : Hid (DS 105 109 low (w2.alloc (Obj.cells #[Value.string (strOf F.n), Value.string (strOf F.d), Value.int IntKind.i64 (F.s : Int)] 109)) R v fs (stepL left)) := h3
    clear hk3 h3
    have HR : Hid (rRen fs nm dt = wOut (wOut fs nm) dt ++ [⟨dt, F.d, F.s⟩]) := by unfold Hid rRen; rw [hg]
    clear hg
    have hs3 : (w2.alloc (Obj.cells #[Value.string (strOf F.n), Value.string (strOf F.d), Value.int IntKind.i64 (F.s : Int)] 109)).heap.size = w2.heap.size + 1 := by simp
    go_wp2_with fail
    generalize (w2.alloc (Obj.cells #[Value.string (strOf F.n), Value.string (strOf F.d), Value.int IntKind.i64 (F.s : Int)] 109)) = W3 at *
    refine (rwithout_any low R v fs (stepL left) nm W3 H3.out hl).mono ?_
    rintro r w4 ⟨v4, rfl, ho4, hb4⟩
    obtain ⟨a4, c4, rfl, _⟩ := row3 ho4
    have h4 := H3.out.later hb4
    have cR := h4.cell 0
    have fR := h4.free 0
    simp at cR
    have hs4 := hb4.size
    have bc4 : ∀ i, (w4.setCell ⟨R, 0, none⟩ (.slice a4 (wOut fs nm).length c4)).cell? ⟨w2.heap.size, i, none⟩ = #[Value.string (strOf F.n), Value.string (strOf F.d), Value.int IntKind.i64 (F.s : Int)][i]? := fun i => (World.cell?_setCell_other _ _ _ _ (by intro hh; have := congrArg Addr.block hh; simp at this; omega)).trans ((hb4.cell (by show w2.heap.size < _; omega)).trans (bc i))
    have bf4 : ∀ i, (w4.setCell ⟨R, 0, none⟩ (.slice a4 (wOut fs nm).length c4)).frozen? ⟨w2.heap.size, i, none⟩ = false := fun i => by rw [World.frozen?_setCell]; exact (hb4.frozen (by show w2.heap.size < _; omega)).trans (bf i)
    have hlt4 : ∀ g, Value.ownBlock (.slice a4 (wOut fs nm).length c4) = some g → W3.heap.size ≤ g := fun g hg => (World.ownsRow.lt ho4 g hg).1
    have h5 : DS 105 109 low (w4.setCell ⟨R, 0, none⟩ (.slice a4 (wOut fs nm).length c4)) R (.slice a4 (wOut fs nm).length c4) (wOut fs nm) (stepL left) := DS.store (low := low) h4.st ho4 (by omega) (fun hh => by have := hlt4 R hh; omega)
    have hk5 : Kpt (fun b => b = R) w (w4.setCell ⟨R, 0, none⟩ (.slice a4 (wOut fs nm).length c4)) := (HK3.out.trans (A := fun b => b = R) (Kpt.of_below (A := fun b => b = R) hb4) (fun _ _ hh => hh)).trans (Kpt.set w4 R 0 _) (fun _ _ hh => hh)
    have hs5 : (w4.setCell ⟨R, 0, none⟩ (.slice a4 (wOut fs nm).length c4)).heap.size = w4.heap.size := (But.setCell w4 ⟨R, 0, none⟩ _).size
    have hwl : (wOut fs nm).length ≤ fs.length := List.length_filter_le _ _
    clear bc bf H3 HK3 hb4 h4
    go_wp2_with fail
    generalize (w4.setCell ⟨R, 0, none⟩ (.slice a4 (wOut fs nm).length c4)) = W5 at *
    have h6 : DS 105 109 low (W5.setCell ⟨w2.heap.size, 0, none⟩ (.string (strOf dt))) R (.slice a4 (wOut fs nm).length c4) (wOut fs nm) (stepL left) := h5.kept ((But.setCell W5 ⟨w2.heap.size, 0, none⟩ _).block R (by show R ≠ w2.heap.size; omega)) (fun g hg => (But.setCell W5 ⟨w2.heap.size, 0, none⟩ _).block g (by show g ≠ w2.heap.size; have := hlt4 g hg; omega))
    have hk6 : Kpt (fun b => b = R) w (W5.setCell ⟨w2.heap.size, 0, none⟩ (.string (strOf dt))) := hk5.trans (Kpt.set W5 w2.heap.size 0 _) (fun b hb1 hb2 => by have := hk5.size; subst hb2; omega)
    have hs6 : (W5.setCell ⟨w2.heap.size, 0, none⟩ (.string (strOf dt))).heap.size = W5.heap.size := (But.setCell W5 ⟨w2.heap.size, 0, none⟩ _).size
    refine (put_any low R _ (wOut fs nm) (stepL left) ⟨dt, F.d, F.s⟩ _ h6 (by omega) (by omega)).mono ?_
    rintro r w7 ⟨rfl, hd⟩
    have HD : Hid (Did 105 109 low w R v (rRen fs nm dt) (stepL left) w7) := by
      unfold Hid
      rw [HR.out]
      obtain ⟨v', d1, d2, d3⟩ := hd
      refine ⟨v', d1, ⟨d2.os.trans hk6.os, d2.tape.trans hk6.tape, d2.output.trans hk6.output, Nat.le_trans hk6.size d2.size, fun k hk hA => (d2.block k (by have := hk6.size; omega) (by
        rintro (hh | hh)
        · exact hA (.inl hh)
        · have := hlt4 k hh.symm; omega)).trans (hk6.block k hk (fun hh => hA (.inl hh)))⟩, fun g hg => ?_⟩
      rcases d3 g hg with d4 | d4
      · exact .inr (by have := hlt4 g d4; omega)
      · exact .inr (by have := hk6.size; omega)
    clear hd bc4 bf4
    go_wp2
    go_ret
    exact ⟨rfl, HD.out⟩


def stopL (left n : Int) : Int := if left = 0 then 0 else if n < 0 then -1 else n
set_option maxHeartbeats 2000000 in
set_option maxRecDepth 20000 in
theorem rstop_any (low R : Nat) (v : Value) (fs : List FD) (left n : Int) (w : World) (h : DS 105 109 low w R v fs left) (hb : -9223372036854775808 ≤ left ∧ left ≤ 9223372036854775807) :
    Calls Tryz.prog 45 #[.pointer (some ⟨R, 0, none⟩), .int .i64 n] w fun r w' => r = .returned (.tuple #[]) ∧ Did 105 109 low w R v fs (stopL left n) w' := by
  have c1 := h.cell 1
  have f1 := h.free 1
  simp at c1
  by_cases h0 : left = 0
  · have HD : Hid (Did 105 109 low w R v fs (stopL left n) w) := by unfold Hid stopL; rw [if_pos h0, ← h0]; exact Did.same h (Kpt.refl _ _)
    subst h0
    clear h
    go_enter Tryz.func45, Tryz.ntmps45
    go_wp2
    refine bodyPost_ret (v := .tuple #[]) (by simp [results, Tryz.results45, go_sem]) rfl ?_
    exact ⟨rfl, HD.out⟩
  · have q0 : (left == 0) = false := by simpa using h0
    have h1 := h.relay (by decide) n
    have hk1 := Kpt.set w R 1 (.int .i64 n)
    by_cases hn : n < 0
    · have HD : Hid (Did 105 109 low w R v fs (stopL left n) ((w.setCell ⟨R, 1, none⟩ (.int .i64 n)).setCell ⟨R, 1, none⟩ (.int .i64 (-1)))) := by
        unfold Hid stopL; rw [if_neg h0, if_pos hn]; exact Did.same (h1.relay (by decide) _) (hk1.trans (Kpt.set _ R 1 _) (fun _ _ hh => hh))
      clear h h1 hk1
      go_enter Tryz.func45, Tryz.ntmps45
      go_wp2
      refine bodyPost_end (v := .tuple #[]) (by simp [results, Tryz.results45, go_sem]) rfl ?_
      exact ⟨rfl, HD.out⟩
    · have HD : Hid (Did 105 109 low w R v fs (stopL left n) (w.setCell ⟨R, 1, none⟩ (.int .i64 n))) := by
        unfold Hid stopL; rw [if_neg h0, if_neg hn]; exact Did.same h1 hk1
      clear h h1 hk1
      go_enter Tryz.func45, Tryz.ntmps45
      go_wp2
      refine bodyPost_end (v := .tuple #[]) (by simp [results, Tryz.results45, go_sem]) rfl ?_
      exact ⟨rfl, HD.out⟩
set_option maxRecDepth 20000 in
theorem rnew_any (low : Nat) (w : World) :
    Calls Tryz.prog 13 #[] w fun r w' => r = .returned (.pointer (some ⟨w.heap.size, 0, none⟩)) ∧ DS 105 109 low w' w.heap.size (.slice none 0 0) [] (-1) ∧ Below w.heap.size w w' ∧ w'.heap.size = w.heap.size + 1 := by
  have HD : Hid (DS 105 109 low (w.alloc (Obj.cells #[Value.slice none 0 0, Value.int IntKind.i64 (-1)] 105)) w.heap.size (.slice none 0 0) [] (-1)) := ⟨heap_alloc_new w _, World.ownsRow_nil _ _ _ _⟩
  have hb0 := (Below.refl w.heap.size w).alloc (Nat.le_refl _) (Obj.cells #[Value.slice none 0 0, Value.int IntKind.i64 (-1)] 105)
  have hs0 : (w.alloc (Obj.cells #[Value.slice none 0 0, Value.int IntKind.i64 (-1)] 105)).heap.size = w.heap.size + 1 := by simp
  go_enter Tryz.func13, Tryz.ntmps13
  go_wp2
  go_ret
  exact ⟨rfl, HD.out, hb0, hs0⟩
/-- What a caller has of a disk: where its pointers lead. -/
structure Hands (w : World) (D H S : Nat) : Prop where
  d : w.heap[D]? = some (.cells #[.pointer (some ⟨S, 0, none⟩)] 100 (0, 0))
  h : w.heap[H]? = some (.cells #[.pointer (some ⟨S, 0, none⟩)] 102 (0, 0))
theorem Hands.cd {w : World} {D H S : Nat} (h : Hands w D H S) : w.cell? ⟨D, 0, none⟩ = some (.pointer (some ⟨S, 0, none⟩)) := by simp [World.cell?, h.d]
theorem Hands.ch {w : World} {D H S : Nat} (h : Hands w D H S) : w.cell? ⟨H, 0, none⟩ = some (.pointer (some ⟨S, 0, none⟩)) := by simp [World.cell?, h.h]
set_option maxRecDepth 20000 in
theorem anew_any (low : Nat) (w : World) :
    Calls Tryz.prog 12 #[] w fun r w' => r = .returned (.tuple #[.pointer (some ⟨w.heap.size + 1, 0, none⟩), .pointer (some ⟨w.heap.size + 2, 0, none⟩)]) ∧ DS 98 107 low w' w.heap.size (.slice none 0 0) [] (-1) ∧ Hands w' (w.heap.size + 1) (w.heap.size + 2) w.heap.size ∧ Below w.heap.size w w' ∧ w'.heap.size = w.heap.size + 3 := by
  have hb0 := (Below.refl w.heap.size w).alloc (Nat.le_refl _) (Obj.cells #[Value.slice none 0 0, Value.int IntKind.i64 (-1)] 98)
  have h0 : (w.alloc (Obj.cells #[Value.slice none 0 0, Value.int IntKind.i64 (-1)] 98)).heap[w.heap.size]? = some (.cells #[Value.slice none 0 0, Value.int IntKind.i64 (-1)] 98 (0, 0)) := heap_alloc_new w _
  have hs0 : (w.alloc (Obj.cells #[Value.slice none 0 0, Value.int IntKind.i64 (-1)] 98)).heap.size = w.heap.size + 1 := by simp
  have hP : ∀ W0 : World, W0.heap.size = w.heap.size + 1 → W0.heap[w.heap.size]? = some (.cells #[Value.slice none 0 0, Value.int IntKind.i64 (-1)] 98 (0, 0)) → Below w.heap.size w W0 →
      DS 98 107 low ((W0.alloc (Obj.cells #[Value.pointer (some ⟨w.heap.size, 0, none⟩)] 100)).alloc (Obj.cells #[Value.pointer (some ⟨w.heap.size, 0, none⟩)] 102)) w.heap.size (.slice none 0 0) [] (-1) ∧ Hands ((W0.alloc (Obj.cells #[Value.pointer (some ⟨w.heap.size, 0, none⟩)] 100)).alloc (Obj.cells #[Value.pointer (some ⟨w.heap.size, 0, none⟩)] 102)) (w.heap.size + 1) (w.heap.size + 2) w.heap.size ∧ Below w.heap.size w ((W0.alloc (Obj.cells #[Value.pointer (some ⟨w.heap.size, 0, none⟩)] 100)).alloc (Obj.cells #[Value.pointer (some ⟨w.heap.size, 0, none⟩)] 102)) ∧ ((W0.alloc (Obj.cells #[Value.pointer (some ⟨w.heap.size, 0, none⟩)] 100)).alloc (Obj.cells #[Value.pointer (some ⟨w.heap.size, 0, none⟩)] 102)).heap.size = w.heap.size + 3 := by
    intro W0 e0 e1 e2
    have s1 : (W0.alloc (Obj.cells #[Value.pointer (some ⟨w.heap.size, 0, none⟩)] 100)).heap.size = w.heap.size + 2 := by simp [e0]
    refine ⟨⟨?_, World.ownsRow_nil _ _ _ _⟩, ⟨?_, ?_⟩, (e2.alloc (by omega) _).alloc (by simp; omega) _, by simp [e0]⟩
    · exact (heap_alloc_old _ _ (by omega)).trans ((heap_alloc_old _ _ (by omega)).trans e1)
    · refine (heap_alloc_old _ _ (by omega)).trans ?_
      have := heap_alloc_new W0 (Obj.cells #[Value.pointer (some ⟨w.heap.size, 0, none⟩)] 100)
      rw [e0] at this
      exact this
    · have := heap_alloc_new (W0.alloc (Obj.cells #[Value.pointer (some ⟨w.heap.size, 0, none⟩)] 100)) (Obj.cells #[Value.pointer (some ⟨w.heap.size, 0, none⟩)] 102)
      rw [s1] at this
      exact this
  have HP := hP _ hs0 h0 hb0
  have HP' : Hid _ := HP
  clear hP HP h0 hb0
  go_enter Tryz.func12, Tryz.ntmps12
  go_wp2
  exact bodyPost_ret (v := .tuple #[.pointer (some ⟨w.heap.size + 1, 0, none⟩), .pointer (some ⟨w.heap.size + 2, 0, none⟩)]) (by simp [results, Tryz.results12, go_sem]) rfl ⟨rfl, HP'.out⟩
theorem Hands.later {w w' : World} {D H S : Nat} (h : Hands w D H S) (h1 : w'.heap[D]? = w.heap[D]?) (h2 : w'.heap[H]? = w.heap[H]?) : Hands w' D H S := ⟨h1.trans h.d, h2.trans h.h⟩
theorem fNum_bd (fs : List FD) (nm : List UInt8) : fNum fs nm = -1 ∧ fIdx fs nm = none ∨ ∃ i : Nat, fNum fs nm = (i : Int) ∧ fIdx fs nm = some i ∧ i < fs.length := by
  unfold fNum
  cases h : fIdx fs nm with
  | none => exact .inl ⟨rfl, rfl⟩
  | some i =>
    refine .inr ⟨i, rfl, rfl, ?_⟩
    unfold fIdx at h
    rw [List.findIdx?_eq_some_iff_getElem] at h
    exact h.1
theorem fGet_of_idx {fs : List FD} {nm : List UInt8} {i : Nat} (h : fIdx fs nm = some i) (hi : i < fs.length) : fGet fs nm = some fs[i] := by
  unfold fIdx at h
  rw [List.findIdx?_eq_some_iff_getElem] at h
  obtain ⟨_, h1, h2⟩ := h
  exact fGet_some hi h1 (fun j hj hjt => by have := h2 j hjt; simpa using this)
theorem fGet_of_none {fs : List FD} {nm : List UInt8} (h : fIdx fs nm = none) : fGet fs nm = none := by
  unfold fIdx at h
  rw [List.findIdx?_eq_none_iff] at h
  exact fGet_none (fun j hj => h _ (List.getElem_mem hj))
set_option maxHeartbeats 2000000 in
set_option maxRecDepth 20000 in
theorem ahas_any (low D H S : Nat) (v : Value) (fs : List FD) (left : Int) (nm : List UInt8) (w : World) (hH : Hands w D H S) (h : DS 98 107 low w S v fs left) (hl : fs.length ≤ 3000000000) :
    Calls Tryz.prog 41 #[.pointer (some ⟨D, 0, none⟩), .string (strOf nm)] w fun r w' => r = .returned (.bool (fGet fs nm).isSome) ∧ w' = w := by
  have cd := hH.cd
  clear hH
  go_enter Tryz.func41, Tryz.ntmps41
  go_wp2_with fail
  refine (find_any low S v fs left nm w h (by omega)).mono ?_
  rintro r w' ⟨rfl, hh⟩
  replace hh := hh.symm
  subst hh
  rcases fNum_bd fs nm with ⟨h1, h2⟩ | ⟨i, h1, h2, h3⟩
  · have HF : Hid ((fGet fs nm).isSome = false) := by unfold Hid; rw [fGet_of_none h2]; rfl
    rw [h1]
    clear h1 h2 h
    go_wp2
    go_ret
    exact ⟨ret_bool HF.out.symm, rfl⟩
  · have HF : Hid ((fGet fs nm).isSome = true) := by unfold Hid; rw [fGet_of_idx h2 h3]; rfl
    rw [h1]
    clear h1 h2 h
    go_wp2
    go_ret
    exact ⟨ret_bool HF.out.symm, rfl⟩
set_option maxHeartbeats 2000000 in
set_option maxRecDepth 20000 in
theorem aread_any (low D H S : Nat) (v : Value) (fs : List FD) (left : Int) (nm : List UInt8) (w : World) (hH : Hands w D H S) (h : DS 98 107 low w S v fs left) (hl : fs.length ≤ 3000000000) :
    Calls Tryz.prog 40 #[.pointer (some ⟨D, 0, none⟩), .string (strOf nm)] w fun r w' => r = .returned (.string (strOf (fBox (fGet fs nm)).d)) ∧ w' = w := by
  have cd := hH.cd
  have c0 := h.cell 0
  simp at c0
  clear hH
  go_enter Tryz.func40, Tryz.ntmps40
  go_wp2_with fail
  refine (find_any low S v fs left nm w h (by omega)).mono ?_
  rintro r w' ⟨rfl, hh⟩
  replace hh := hh.symm
  subst hh
  rcases fNum_bd fs nm with ⟨h1, h2⟩ | ⟨i, h1, h2, h3⟩
  · have HF : Hid (strOf (fBox (fGet fs nm)).d = ⟨#[]⟩) := by unfold Hid; rw [fGet_of_none h2]; rfl
    rw [h1]
    clear h1 h2 h
    go_wp2
    go_ret
    exact ⟨by rw [HF.out]; rfl, rfl⟩
  · have HF : Hid (strOf (fBox (fGet fs nm)).d = strOf fs[i].d) := by unfold Hid; rw [fGet_of_idx h2 h3]; rfl
    rw [h1]
    obtain ⟨a, c, rfl, hrow⟩ := row3 h.row
    obtain ⟨g, rfl, _, _, hcc⟩ := hrow.resolve_left (by omega)
    have j1 := hcc _ _ (file_at fs i h3 1 (by omega))
    simp [FD.cells] at j1
    have h3i : (i : Int) < (fs.length : Int) := by omega
    clear h1 h2 h hcc hrow
    go_wp2
    go_ret
    exact ⟨by rw [HF.out]; rfl, rfl⟩
set_option maxRecDepth 20000 in
theorem astopped_any (low D H S : Nat) (v : Value) (fs : List FD) (left : Int) (w : World) (hH : Hands w D H S) (h : DS 98 107 low w S v fs left) :
    Calls Tryz.prog 42 #[.pointer (some ⟨D, 0, none⟩)] w fun r w' => r = .returned (.bool (left == 0)) ∧ w' = w := by
  have cd := hH.cd
  have c1 := h.cell 1
  simp at c1
  clear hH h
  go_enter Tryz.func42, Tryz.ntmps42
  go_wp2
  go_ret
  exact ⟨rfl, rfl⟩
set_option maxHeartbeats 2000000 in
set_option maxRecDepth 20000 in
theorem astop_any (low D H S : Nat) (v : Value) (fs : List FD) (left n : Int) (w : World) (hH : Hands w D H S) (h : DS 98 107 low w S v fs left) :
    Calls Tryz.prog 44 #[.pointer (some ⟨H, 0, none⟩), .int .i64 n] w fun r w' => r = .returned (.tuple #[]) ∧ Did 98 107 low w S v fs (stopL left n) w' := by
  have ch := hH.ch
  have c1 := h.cell 1
  have f1 := h.free 1
  simp at c1
  clear hH
  by_cases h0 : left = 0
  · have HD : Hid (Did 98 107 low w S v fs (stopL left n) w) := by unfold Hid stopL; rw [if_pos h0, ← h0]; exact Did.same h (Kpt.refl _ _)
    subst h0
    clear h
    go_enter Tryz.func44, Tryz.ntmps44
    go_wp2
    refine bodyPost_end (v := .tuple #[]) (by simp [results, Tryz.results44, go_sem]) rfl ?_
    exact ⟨rfl, HD.out⟩
  · have q0 : (left == 0) = false := by simpa using h0
    have q1 : (left != 0) = true := by simpa using h0
    by_cases hn : n < 0
    · have HD : Hid (Did 98 107 low w S v fs (stopL left n) (w.setCell ⟨S, 1, none⟩ (.int .i64 (-1)))) := by
        unfold Hid stopL; rw [if_neg h0, if_pos hn]; exact Did.same (h.relay (by decide) _) (Kpt.set _ _ _ _)
      clear h
      go_enter Tryz.func44, Tryz.ntmps44
      go_wp2
      refine bodyPost_end (v := .tuple #[]) (by simp [results, Tryz.results44, go_sem]) rfl ?_
      exact ⟨rfl, HD.out⟩
    · have HD : Hid (Did 98 107 low w S v fs (stopL left n) (w.setCell ⟨S, 1, none⟩ (.int .i64 n))) := by
        unfold Hid stopL; rw [if_neg h0, if_neg hn]; exact Did.same (h.relay (by decide) _) (Kpt.set _ _ _ _)
      clear h
      go_enter Tryz.func44, Tryz.ntmps44
      go_wp2
      refine bodyPost_end (v := .tuple #[]) (by simp [results, Tryz.results44, go_sem]) rfl ?_
      exact ⟨rfl, HD.out⟩

theorem DS.drew {ty e : TypeId} {low : Nat} {w : World} {S : Nat} {v : Value} {fs : List FD} {left : Int} (h : DS ty e low w S v fs left) : DS ty e low w.drew S v fs left := ⟨h.st, h.row⟩
set_option maxHeartbeats 2000000 in
set_option maxRecDepth 20000 in
theorem aremove_zero (low D H S : Nat) (v : Value) (fs : List FD) (nm : List UInt8) (w : World) (hH : Hands w D H S) (h : DS 98 107 low w S v fs 0) :
    Calls Tryz.prog 38 #[.pointer (some ⟨D, 0, none⟩), .string (strOf nm)] w fun r w' => r = .returned (.bool false) ∧ Did 98 107 low w S v fs (stepL 0) w' := by
  have cd := hH.cd
  clear hH
  go_enter Tryz.func38, Tryz.ntmps38
  go_wp2_with fail
  refine (astep_any low S v fs 0 w h (by omega)).mono ?_
  rintro r w1 ⟨rfl, hw1⟩
  obtain ⟨h1, hk1, hs1⟩ := step_did h (by decide) w1 hw1
  clear hw1
  rw [show decide ((0 : Int) ≠ 0) = false from rfl]
  have HD : Hid _ := Did.same h1 hk1
  clear h1 hk1 h
  go_wp2
  go_ret
  exact ⟨rfl, HD.out⟩
set_option maxHeartbeats 4000000 in
set_option maxRecDepth 20000 in
theorem aremove_go (low D H S : Nat) (v : Value) (fs : List FD) (left : Int) (nm : List UInt8) (w : World) (hH : Hands w D H S) (hDS : D ≠ S) (h : DS 98 107 low w S v fs left) (h0 : left ≠ 0) (hb : -9223372036854775808 ≤ left ∧ left ≤ 9223372036854775807) (hl : fs.length ≤ 3000000000) (hlow : low ≤ w.heap.size) :
    Calls Tryz.prog 38 #[.pointer (some ⟨D, 0, none⟩), .string (strOf nm)] w fun r w' => r = .returned (.bool true) ∧ Did 98 107 low w S v (wOut fs nm) (stepL left) w' := by
  have cd := hH.cd
  have hDlt : D < w.heap.size := (Array.getElem?_eq_some_iff.1 hH.d).1
  have HD0 := hH.d
  clear hH
  go_enter Tryz.func38, Tryz.ntmps38
  go_wp2_with fail
  refine (astep_any low S v fs left w h hb).mono ?_
  rintro r w1 ⟨rfl, hw1⟩
  obtain ⟨h1, hk1, hs1⟩ := step_did h (by decide) w1 hw1
  clear hw1
  rw [show decide (left ≠ 0) = true by simpa using h0]
  have cd1 : w1.cell? ⟨D, 0, none⟩ = some (.pointer (some ⟨S, 0, none⟩)) := (World.cell?_of_block (w := w) (a := ⟨D, 0, none⟩) (hk1.block D hDlt hDS)).trans cd
  have cs1 := h1.cell 0
  have fs1 := h1.free 0
  simp at cs1
  have H1 : Hid (DS 98 107 low w1 S v fs (stepL left)) := h1
  have HK : Hid (Kpt (fun b => b = S) w w1) := hk1
  have hS1 := h1.lt
  have hD1 : D < w1.heap.size := by omega
  clear h h1 hk1 cd HD0
  go_wp2_with fail
  go_region_held3 (fun w' => w'.cell? ⟨D, 0, none⟩ = some (.pointer (some ⟨S, 0, none⟩))) (first | assumption | (rw [World.cell?_setCell_other _ _ _ _ (by intro hh; have h9 := congrArg Addr.block hh; simp at h9; omega)]; assumption) | go_keep) (first | (go_at_call 80; refine (awithout_any low S v fs (stepL left) nm w1.drew H1.out.drew hl).mono ?_; rintro r w2 ⟨v2, rfl, ho2, hb2⟩; obtain ⟨a2, c2, rfl, _⟩ := row3 ho2; have kd : w2.cell? ⟨D, 0, none⟩ = some (.pointer (some ⟨S, 0, none⟩)) := (hb2.cell (by exact hD1)).trans cd1; have ks : w2.cell? ⟨S, 0, none⟩ = some v := (hb2.cell (by exact hS1)).trans cs1; have kf : w2.frozen? ⟨S, 0, none⟩ = false := (hb2.frozen (by exact hS1)).trans fs1))
  all_goals
    have h2 : DS 98 107 low w2 S v fs (stepL left) := H1.out.drew.later hb2
    have hlt2 : ∀ g, Value.ownBlock (.slice a2 (wOut fs nm).length c2) = some g → w1.heap.size ≤ g := fun g hg => (World.ownsRow.lt ho2 g hg).1
    have hs2 := hb2.size
    have hk2 : Kpt (fun b => b = S ∨ some b = v.ownBlock) w1 w2 := ⟨hb2.os, hb2.tape, hb2.output, hb2.size, fun k hk _ => hb2.block k hk⟩
    have HF : Hid (Did 98 107 low w S v (wOut fs nm) (stepL left) (w2.setCell ⟨S, 0, none⟩ (.slice a2 (wOut fs nm).length c2))) := Did.pre HK.out ⟨_, DS.store (low := low) (low' := w1.heap.size) h2.st ho2 (by omega) (fun hh => by have := hlt2 S hh; omega), hk2.trans (Kpt.set w2 S 0 _) (fun b _ hb => .inl hb), fun g hg => .inr (hlt2 g hg)⟩
    clear h2 ho2 hb2 hlt2 hk2
  all_goals go_wp2
  all_goals go_ret
  all_goals exact ⟨rfl, HF.out⟩
end Go.Proofs.YtdcainmlcpafbaaGreatDoor
