import Derived.Test.YtamdkmjdpdkoeaaGreatDoorFA
import Derived.Deep.RegionHeld3
import Derived.Laws.OwnMore
set_option linter.unusedSimpArgs false
set_option linter.unusedVariables false
namespace Go.Proofs.YtamdkmjdpdkoeaaGreatDoor
open Go.RowKit

def stepL (left : Int) : Int := if 0 < left then left - 1 else left
theorem step_did {ty e : TypeId} {low : Nat} {w : World} {S : Nat} {v : Value} {fs : List FD} {left : Int} (h : DS ty e low w S v fs left) (hne : ty ≠ e) (w' : World) (hw : w' = if 0 < left then w.setCell ⟨S, 1, none⟩ (.int .i64 (left - 1)) else w) :
    DS ty e low w' S v fs (stepL left) ∧ Kpt (fun b => b = S) w w' ∧ w'.heap.size = w.heap.size := by
  unfold stepL
  by_cases h0 : 0 < left
  · rw [if_pos h0] at hw ⊢
    subst hw
    exact ⟨h.relay hne _, Kpt.set _ _ _ _, (But.setCell w ⟨S, 1, none⟩ _).size⟩
  · rw [if_neg h0] at hw ⊢
    subst hw
    exact ⟨h, Kpt.refl _ _, rfl⟩
theorem Did.pre {ty e : TypeId} {low S : Nat} {w w1 w' : World} {v : Value} {fs' : List FD} {left' : Int} (hk : Kpt (fun b => b = S) w w1) (h : Did ty e low w1 S v fs' left' w') : Did ty e low w S v fs' left' w' := by
  obtain ⟨v', h1, h2, h3⟩ := h
  refine ⟨v', h1, ?_, fun g hg => ?_⟩
  · refine ⟨h2.os.trans hk.os, h2.tape.trans hk.tape, h2.output.trans hk.output, Nat.le_trans hk.size h2.size, fun k hk1 hA => ?_⟩
    exact (h2.block k (Nat.lt_of_lt_of_le hk1 hk.size) hA).trans (hk.block k hk1 (fun hh => hA (.inl hh)))
  · rcases h3 g hg with h4 | h4
    · exact .inl h4
    · exact .inr (Nat.le_trans hk.size h4)
theorem Did.same {ty e : TypeId} {low S : Nat} {w w' : World} {v : Value} {fs : List FD} {left : Int} (h : DS ty e low w' S v fs left) (hk : Kpt (fun b => b = S) w w') : Did ty e low w S v fs left w' :=
  ⟨v, h, ⟨hk.os, hk.tape, hk.output, hk.size, fun k h1 h2 => hk.block k h1 (fun hh => h2 (.inl hh))⟩, fun g hg => .inl hg⟩
def rApp (fs : List FD) (nm dt : List UInt8) : List FD := wOut fs nm ++ [⟨nm, (fBox (fGet fs nm)).d ++ dt, (fBox (fGet fs nm)).s⟩]
def rSyn (fs : List FD) (nm : List UInt8) : List FD := match fGet fs nm with
  | none => fs
  | some f => wOut fs nm ++ [⟨nm, f.d, f.d.length⟩]
def rRen (fs : List FD) (a b : List UInt8) : List FD := match fGet fs a with
  | none => fs
  | some f => wOut (wOut fs a) b ++ [⟨b, f.d, f.s⟩]

set_option maxHeartbeats 4000000 in
set_option maxRecDepth 20000 in
theorem rappend_zero (low R : Nat) (v : Value) (fs : List FD) (nm dt : List UInt8) (w : World) (h : DS 105 109 low w R v fs 0) (hl : fs.length ≤ 3000000000) :
    Calls Tryz.prog 33 #[.pointer (some ⟨R, 0, none⟩), .string (strOf nm), .string (strOf dt)] w fun r w' => r = .returned (.bool false) ∧ Did 105 109 low w R v fs (stepL 0) w' := by
  go_enter Tryz.func33, Tryz.ntmps33
  go_wp2_with fail
  refine (rstep_any low R v fs 0 w h (by omega)).mono ?_
  rintro r w1 ⟨rfl, hw1⟩
  obtain ⟨h1, hk1, hs1⟩ := step_did h (by decide) w1 hw1
  clear hw1
  rw [show decide ((0 : Int) ≠ 0) = false from rfl]
  have HD : Hid _ := Did.same h1 hk1
  clear h1 hk1 h
  go_wp2
  go_ret
  exact ⟨rfl, HD.out⟩

set_option maxHeartbeats 4000000 in
set_option maxRecDepth 20000 in
theorem rappend_go (low R : Nat) (v : Value) (fs : List FD) (left : Int) (nm dt : List UInt8) (w : World) (h : DS 105 109 low w R v fs left) (h0 : left ≠ 0) (hb : -9223372036854775808 ≤ left ∧ left ≤ 9223372036854775807) (hl : fs.length ≤ 3000000000) (hlow : low ≤ w.heap.size) (hcat : (fBox (fGet fs nm)).d.length + dt.length ≤ 3000000000) :
    Calls Tryz.prog 33 #[.pointer (some ⟨R, 0, none⟩), .string (strOf nm), .string (strOf dt)] w fun r w' => r = .returned (.bool true) ∧ Did 105 109 low w R v (rApp fs nm dt) (stepL left) w' := by
  go_enter Tryz.func33, Tryz.ntmps33
  go_wp2_with fail
  refine (rstep_any low R v fs left w h hb).mono ?_
  rintro r w1 ⟨rfl, hw1⟩
  obtain ⟨h1, hk1, hs1⟩ := step_did h (by decide) w1 hw1
  clear hw1
  rw [show decide (left ≠ 0) = true by simpa using h0]
  clear h
  go_wp2_with fail
  refine (file_any low R v fs (stepL left) nm w1 h1 (by omega)).mono ?_
  rintro r w2 ⟨rfl, hb2⟩
  have h2 := h1.later hb2
  have HA : Hid (rApp fs nm dt = wOut fs nm ++ [⟨nm, (fBox (fGet fs nm)).d ++ dt, (fBox (fGet fs nm)).s⟩]) := rfl
  generalize fBox (fGet fs nm) = F at *
  generalize (fGet fs nm).isSome = FB at *
  have hsz : (strOf F.d).size + (strOf dt).size ≤ 3000000000 := by rw [strOf_size, strOf_size]; exact hcat
  have hb3 := (Below.refl w2.heap.size w2).alloc (Nat.le_refl _) (Obj.cells #[Value.string (strOf F.n), Value.string (strOf F.d), Value.int IntKind.i64 (F.s : Int)] 109)
  have bc : ∀ i, (w2.alloc (Obj.cells #[Value.string (strOf F.n), Value.string (strOf F.d), Value.int IntKind.i64 (F.s : Int)] 109)).cell? ⟨w2.heap.size, i, none⟩ = #[Value.string (strOf F.n), Value.string (strOf F.d), Value.int IntKind.i64 (F.s : Int)][i]? := fun i => World.cell?_alloc_at _ _ _ _ rfl
  have bf : ∀ i, (w2.alloc (Obj.cells #[Value.string (strOf F.n), Value.string (strOf F.d), Value.int IntKind.i64 (F.s : Int)] 109)).frozen? ⟨w2.heap.size, i, none⟩ = false := fun i => by simp
  have h3 := h2.later hb3
  have hk3 : Kpt (fun b => b = R) w (w2.alloc (Obj.cells #[Value.string (strOf F.n), Value.string (strOf F.d), Value.int IntKind.i64 (F.s : Int)] 109)) := (hk1.trans (A := fun b => b = R) (Kpt.of_below (A := fun b => b = R) hb2) (fun _ _ hh => hh)).trans (Kpt.of_below (A := fun b => b = R) hb3) (fun _ _ hh => hh)
  have hlow3 : low ≤ (w2.alloc (Obj.cells #[Value.string (strOf F.n), Value.string (strOf F.d), Value.int IntKind.i64 (F.s : Int)] 109)).heap.size := by have := hk3.size; omega
  have hRlt := h1.lt
  have hs12 := hb2.size
  clear h1 h2 hk1 hb3
  have HK3 : Hid (Kpt (fun b => b = R) w (w2.alloc (Obj.cells #[Value.string (strOf F.n), Value.string (strOf F.d), Value.int IntKind.i64 (F.s : Int)] 109))) := hk3
  have H3 : Hid (DS 105 109 low (w2.alloc (Obj.cells #[Value.string (strOf F.n), Value.string (strOf F.d), Value.int IntKind.i64 (F.s : Int)] 109)) R v fs (stepL left)) := h3
  clear hk3 h3
  go_wp2_with fail
  rw [strOf_append]
  refine (put_any low R v fs (stepL left) ⟨nm, F.d ++ dt, F.s⟩ (w2.alloc (Obj.cells #[Value.string (strOf F.n), Value.string (strOf F.d), Value.int IntKind.i64 (F.s : Int)] 109)) H3.out hl hlow3).mono ?_
  rintro r w5 ⟨rfl, hd⟩
  have HD : Hid (Did 105 109 low w R v (rApp fs nm dt) (stepL left) w5) := by unfold Hid; rw [HA.out]; exact Did.pre HK3.out hd
  clear hd bc
  go_wp2
  go_ret
  exact ⟨rfl, HD.out⟩

set_option maxHeartbeats 4000000 in
set_option maxRecDepth 20000 in
theorem rremove_zero (low R : Nat) (v : Value) (fs : List FD) (nm : List UInt8) (w : World) (h : DS 105 109 low w R v fs 0) (hl : fs.length ≤ 3000000000) :
    Calls Tryz.prog 39 #[.pointer (some ⟨R, 0, none⟩), .string (strOf nm)] w fun r w' => r = .returned (.bool false) ∧ Did 105 109 low w R v fs (stepL 0) w' := by
  go_enter Tryz.func39, Tryz.ntmps39
  go_wp2_with fail
  refine (rstep_any low R v fs 0 w h (by omega)).mono ?_
  rintro r w1 ⟨rfl, hw1⟩
  obtain ⟨h1, hk1, hs1⟩ := step_did h (by decide) w1 hw1
  clear hw1
  rw [show decide ((0 : Int) ≠ 0) = false from rfl]
  have HD : Hid _ := Did.same h1 hk1
  clear h1 hk1 h
  go_wp2
  go_ret
  exact ⟨rfl, HD.out⟩

set_option maxHeartbeats 4000000 in
set_option maxRecDepth 20000 in
theorem rremove_go (low R : Nat) (v : Value) (fs : List FD) (left : Int) (nm : List UInt8) (w : World) (h : DS 105 109 low w R v fs left) (h0 : left ≠ 0) (hb : -9223372036854775808 ≤ left ∧ left ≤ 9223372036854775807) (hl : fs.length ≤ 3000000000) (hlow : low ≤ w.heap.size) :
    Calls Tryz.prog 39 #[.pointer (some ⟨R, 0, none⟩), .string (strOf nm)] w fun r w' => r = .returned (.bool true) ∧ Did 105 109 low w R v (wOut fs nm) (stepL left) w' := by
  go_enter Tryz.func39, Tryz.ntmps39
  go_wp2_with fail
  refine (rstep_any low R v fs left w h hb).mono ?_
  rintro r w1 ⟨rfl, hw1⟩
  obtain ⟨h1, hk1, hs1⟩ := step_did h (by decide) w1 hw1
  clear hw1
  rw [show decide (left ≠ 0) = true by simpa using h0]
  clear h
  go_wp2_with fail
  refine (rwithout_any low R v fs (stepL left) nm w1 h1 hl).mono ?_
  rintro r w2 ⟨v2, rfl, ho2, hb2⟩
  obtain ⟨a2, c2, rfl, _⟩ := row3 ho2
  have h2 := h1.later hb2
  have hR := h1.lt
  have cR := h2.cell 0
  have fR := h2.free 0
  simp at cR
  have hlt2 : ∀ g, Value.ownBlock (.slice a2 (wOut fs nm).length c2) = some g → w1.heap.size ≤ g := fun g hg => (World.ownsRow.lt ho2 g hg).1
  have HF : Hid (Did 105 109 low w R v (wOut fs nm) (stepL left) (w2.setCell ⟨R, 0, none⟩ (.slice a2 (wOut fs nm).length c2))) := Did.pre hk1 ⟨_, DS.store (low := low) h2.st ho2 (by omega) (fun hh => by have := hlt2 R hh; omega), ((Kpt.of_below (A := fun b => b = R ∨ some b = v.ownBlock) hb2).trans (Kpt.set w2 R 0 (.slice a2 (wOut fs nm).length c2)) (fun b _ hb => .inl hb)), fun g hg => .inr (hlt2 g hg)⟩
  clear h1 h2 ho2 hb2 hlt2
  go_wp2
  go_ret
  exact ⟨rfl, HF.out⟩

set_option maxHeartbeats 4000000 in
set_option maxRecDepth 20000 in
theorem rsync_zero (low R : Nat) (v : Value) (fs : List FD) (nm : List UInt8) (w : World) (h : DS 105 109 low w R v fs 0) (hl : fs.length ≤ 3000000000) :
    Calls Tryz.prog 35 #[.pointer (some ⟨R, 0, none⟩), .string (strOf nm)] w fun r w' => r = .returned (.bool false) ∧ Did 105 109 low w R v fs (stepL 0) w' := by
  go_enter Tryz.func35, Tryz.ntmps35
  go_wp2_with fail
  refine (rstep_any low R v fs 0 w h (by omega)).mono ?_
  rintro r w1 ⟨rfl, hw1⟩
  obtain ⟨h1, hk1, hs1⟩ := step_did h (by decide) w1 hw1
  clear hw1
  rw [show decide ((0 : Int) ≠ 0) = false from rfl]
  go_wp2_with fail
  refine (file_any low R v fs (stepL 0) nm w1 h1 (by omega)).mono ?_
  rintro r w2 ⟨rfl, hb2⟩
  generalize fBox (fGet fs nm) = F at *
  generalize (fGet fs nm).isSome = FB at *
  have hd := Did.same ((h1.later hb2).later ((Below.refl w2.heap.size w2).alloc (Nat.le_refl _) (Obj.cells #[Value.string (strOf F.n), Value.string (strOf F.d), Value.int IntKind.i64 (F.s : Int)] 109))) ((hk1.trans (A := fun b => b = R) (Kpt.of_below (A := fun b => b = R) hb2) (fun _ _ hh => hh)).trans (Kpt.of_below (A := fun b => b = R) ((Below.refl w2.heap.size w2).alloc (Nat.le_refl _) (Obj.cells #[Value.string (strOf F.n), Value.string (strOf F.d), Value.int IntKind.i64 (F.s : Int)] 109))) (fun _ _ hh => hh))
  have HD : Hid _ := hd
  clear hd h1 hk1 h hb2
  go_wp2
  go_ret
  exact ⟨rfl, HD.out⟩

set_option maxHeartbeats 4000000 in
set_option maxRecDepth 20000 in
theorem rsync_go (low R : Nat) (v : Value) (fs : List FD) (left : Int) (nm : List UInt8) (w : World) (h : DS 105 109 low w R v fs left) (h0 : left ≠ 0) (hb : -9223372036854775808 ≤ left ∧ left ≤ 9223372036854775807) (hl : fs.length ≤ 3000000000) (hlow : low ≤ w.heap.size) (hdl : (fBox (fGet fs nm)).d.length ≤ 3000000000) :
    Calls Tryz.prog 35 #[.pointer (some ⟨R, 0, none⟩), .string (strOf nm)] w fun r w' => r = .returned (.bool true) ∧ Did 105 109 low w R v (rSyn fs nm) (stepL left) w' := by
  go_enter Tryz.func35, Tryz.ntmps35
  go_wp2_with fail
  refine (rstep_any low R v fs left w h hb).mono ?_
  rintro r w1 ⟨rfl, hw1⟩
  obtain ⟨h1, hk1, hs1⟩ := step_did h (by decide) w1 hw1
  clear hw1
  rw [show decide (left ≠ 0) = true by simpa using h0]
  clear h
  go_wp2_with fail
  refine (file_any low R v fs (stepL left) nm w1 h1 (by omega)).mono ?_
  rintro r w2 ⟨rfl, hb2⟩
  have h2 := h1.later hb2
  cases hg : fGet fs nm with
  | none =>
    have HR : Hid (rSyn fs nm = fs) := by unfold Hid rSyn; rw [hg]
    clear hg
    have hd := Did.same ((h1.later hb2).later ((Below.refl w2.heap.size w2).alloc (Nat.le_refl _) (Obj.cells #[Value.string (strOf (fBox none).n), Value.string (strOf (fBox none).d), Value.int IntKind.i64 ((fBox none).s : Int)] 109))) ((hk1.trans (A := fun b => b = R) (Kpt.of_below (A := fun b => b = R) hb2) (fun _ _ hh => hh)).trans (Kpt.of_below (A := fun b => b = R) ((Below.refl w2.heap.size w2).alloc (Nat.le_refl _) (Obj.cells #[Value.string (strOf (fBox none).n), Value.string (strOf (fBox none).d), Value.int IntKind.i64 ((fBox none).s : Int)] 109))) (fun _ _ hh => hh))
    have HD : Hid (Did 105 109 low w R v (rSyn fs nm) (stepL left) (w2.alloc (Obj.cells #[Value.string (strOf (fBox none).n), Value.string (strOf (fBox none).d), Value.int IntKind.i64 ((fBox none).s : Int)] 109))) := by unfold Hid; rw [HR.out]; exact hd
    clear hd h1 h2 hk1 hb2
    go_wp2
    go_ret
    exact ⟨rfl, HD.out⟩
  | some F =>
    simp only [fBox, Option.getD_some, Option.isSome_some]
    have hb3 := (Below.refl w2.heap.size w2).alloc (Nat.le_refl _) (Obj.cells #[Value.string (strOf F.n), Value.string (strOf F.d), Value.int IntKind.i64 (F.s : Int)] 109)
    have bc : ∀ i, (w2.alloc (Obj.cells #[Value.string (strOf F.n), Value.string (strOf F.d), Value.int IntKind.i64 (F.s : Int)] 109)).cell? ⟨w2.heap.size, i, none⟩ = #[Value.string (strOf F.n), Value.string (strOf F.d), Value.int IntKind.i64 (F.s : Int)][i]? := fun i => World.cell?_alloc_at _ _ _ _ rfl
    have bf : ∀ i, (w2.alloc (Obj.cells #[Value.string (strOf F.n), Value.string (strOf F.d), Value.int IntKind.i64 (F.s : Int)] 109)).frozen? ⟨w2.heap.size, i, none⟩ = false := fun i => by simp
    have h3 := h2.later hb3
    have hk3 : Kpt (fun b => b = R) w (w2.alloc (Obj.cells #[Value.string (strOf F.n), Value.string (strOf F.d), Value.int IntKind.i64 (F.s : Int)] 109)) := (hk1.trans (A := fun b => b = R) (Kpt.of_below (A := fun b => b = R) hb2) (fun _ _ hh => hh)).trans (Kpt.of_below (A := fun b => b = R) hb3) (fun _ _ hh => hh)
    have hlow3 : low ≤ (w2.alloc (Obj.cells #[Value.string (strOf F.n), Value.string (strOf F.d), Value.int IntKind.i64 (F.s : Int)] 109)).heap.size := by have := hk3.size; omega
    have hRlt := h1.lt
    have hs12 := hb2.size
    clear h1 h2 hk1 hb3
    have HK3 : Hid (Kpt (fun b => b = R) w (w2.alloc (Obj.cells #[Value.string (strOf F.n), Value.string (strOf F.d), Value.int IntKind.i64 (F.s : Int)] 109))) := hk3
    have H3 : Hid (DS 105 109 low (w2.alloc (Obj.cells #[Value.string (strOf F.n), Value.string (strOf F.d), Value.int IntKind.i64 (F.s : Int)] 109)) R v fs (stepL left)) := h3
    clear hk3 h3
    have HR : Hid (rSyn fs nm = wOut fs nm ++ [⟨nm, F.d, F.d.length⟩]) := by unfold Hid rSyn; rw [hg]
    clear hg
    have hsz : (strOf F.d).size = F.d.length := strOf_size _
    go_wp2_with fail
    refine (put_any low R v fs (stepL left) ⟨nm, F.d, F.d.length⟩ (w2.alloc (Obj.cells #[Value.string (strOf F.n), Value.string (strOf F.d), Value.int IntKind.i64 (F.s : Int)] 109)) H3.out hl hlow3).mono ?_
    rintro r w5 ⟨rfl, hd⟩
    have HD : Hid (Did 105 109 low w R v (rSyn fs nm) (stepL left) w5) := by unfold Hid; rw [HR.out]; exact Did.pre HK3.out hd
    clear hd bc
    go_wp2
    go_ret
    exact ⟨rfl, HD.out⟩

set_option maxHeartbeats 4000000 in
set_option maxRecDepth 20000 in
theorem rrename_zero (low R : Nat) (v : Value) (fs : List FD) (nm dt : List UInt8) (w : World) (h : DS 105 109 low w R v fs 0) (hl : fs.length ≤ 3000000000) :
    Calls Tryz.prog 37 #[.pointer (some ⟨R, 0, none⟩), .string (strOf nm), .string (strOf dt)] w fun r w' => r = .returned (.bool false) ∧ Did 105 109 low w R v fs (stepL 0) w' := by
  go_enter Tryz.func37, Tryz.ntmps37
  go_wp2_with fail
  refine (rstep_any low R v fs 0 w h (by omega)).mono ?_
  rintro r w1 ⟨rfl, hw1⟩
  obtain ⟨h1, hk1, hs1⟩ := step_did h (by decide) w1 hw1
  clear hw1
  rw [show decide ((0 : Int) ≠ 0) = false from rfl]
  go_wp2_with fail
  refine (file_any low R v fs (stepL 0) nm w1 h1 (by omega)).mono ?_
  rintro r w2 ⟨rfl, hb2⟩
  generalize fBox (fGet fs nm) = F at *
  generalize (fGet fs nm).isSome = FB at *
  have hd := Did.same ((h1.later hb2).later ((Below.refl w2.heap.size w2).alloc (Nat.le_refl _) (Obj.cells #[Value.string (strOf F.n), Value.string (strOf F.d), Value.int IntKind.i64 (F.s : Int)] 109))) ((hk1.trans (A := fun b => b = R) (Kpt.of_below (A := fun b => b = R) hb2) (fun _ _ hh => hh)).trans (Kpt.of_below (A := fun b => b = R) ((Below.refl w2.heap.size w2).alloc (Nat.le_refl _) (Obj.cells #[Value.string (strOf F.n), Value.string (strOf F.d), Value.int IntKind.i64 (F.s : Int)] 109))) (fun _ _ hh => hh))
  have HD : Hid _ := hd
  clear hd h1 hk1 h hb2
  go_wp2
  go_ret
  exact ⟨rfl, HD.out⟩

set_option maxHeartbeats 4000000 in
set_option maxRecDepth 20000 in
theorem rrename_go (low R : Nat) (v : Value) (fs : List FD) (left : Int) (nm dt : List UInt8) (w : World) (h : DS 105 109 low w R v fs left) (h0 : left ≠ 0) (hb : -9223372036854775808 ≤ left ∧ left ≤ 9223372036854775807) (hl : fs.length ≤ 3000000000) (hlow : low ≤ w.heap.size) :
    Calls Tryz.prog 37 #[.pointer (some ⟨R, 0, none⟩), .string (strOf nm), .string (strOf dt)] w fun r w' => r = .returned (.bool true) ∧ Did 105 109 low w R v (rRen fs nm dt) (stepL left) w' := by
  go_enter Tryz.func37, Tryz.ntmps37
  go_wp2_with fail
  refine (rstep_any low R v fs left w h hb).mono ?_
  rintro r w1 ⟨rfl, hw1⟩
  obtain ⟨h1, hk1, hs1⟩ := step_did h (by decide) w1 hw1
  clear hw1
  rw [show decide (left ≠ 0) = true by simpa using h0]
  clear h
  go_wp2_with fail
  refine (file_any low R v fs (stepL left) nm w1 h1 (by omega)).mono ?_
  rintro r w2 ⟨rfl, hb2⟩
  have h2 := h1.later hb2
  cases hg : fGet fs nm with
  | none =>
    have HR : Hid (rRen fs nm dt = fs) := by unfold Hid rRen; rw [hg]
    clear hg
    have hd := Did.same ((h1.later hb2).later ((Below.refl w2.heap.size w2).alloc (Nat.le_refl _) (Obj.cells #[Value.string (strOf (fBox none).n), Value.string (strOf (fBox none).d), Value.int IntKind.i64 ((fBox none).s : Int)] 109))) ((hk1.trans (A := fun b => b = R) (Kpt.of_below (A := fun b => b = R) hb2) (fun _ _ hh => hh)).trans (Kpt.of_below (A := fun b => b = R) ((Below.refl w2.heap.size w2).alloc (Nat.le_refl _) (Obj.cells #[Value.string (strOf (fBox none).n), Value.string (strOf (fBox none).d), Value.int IntKind.i64 ((fBox none).s : Int)] 109))) (fun _ _ hh => hh))
    have HD : Hid (Did 105 109 low w R v (rRen fs nm dt) (stepL left) (w2.alloc (Obj.cells #[Value.string (strOf (fBox none).n), Value.string (strOf (fBox none).d), Value.int IntKind.i64 ((fBox none).s : Int)] 109))) := by unfold Hid; rw [HR.out]; exact hd
    clear hd h1 h2 hk1 hb2
    go_wp2
    go_ret
    exact ⟨rfl, HD.out⟩
  | some F =>
    simp only [fBox, Option.getD_some, Option.isSome_some]
    have hb3 := (Below.refl w2.heap.size w2).alloc (Nat.le_refl _) (Obj.cells #[Value.string (strOf F.n), Value.string (strOf F.d), Value.int IntKind.i64 (F.s : Int)] 109)
    have bc : ∀ i, (w2.alloc (Obj.cells #[Value.string (strOf F.n), Value.string (strOf F.d), Value.int IntKind.i64 (F.s : Int)] 109)).cell? ⟨w2.heap.size, i, none⟩ = #[Value.string (strOf F.n), Value.string (strOf F.d), Value.int IntKind.i64 (F.s : Int)][i]? := fun i => World.cell?_alloc_at _ _ _ _ rfl
    have bf : ∀ i, (w2.alloc (Obj.cells #[Value.string (strOf F.n), Value.string (strOf F.d), Value.int IntKind.i64 (F.s : Int)] 109)).frozen? ⟨w2.heap.size, i, none⟩ = false := fun i => by simp
    have h3 := h2.later hb3
    have hk3 : Kpt (fun b => b = R) w (w2.alloc (Obj.cells #[Value.string (strOf F.n), Value.string (strOf F.d), Value.int IntKind.i64 (F.s : Int)] 109)) := (hk1.trans (A := fun b => b = R) (Kpt.of_below (A := fun b => b = R) hb2) (fun _ _ hh => hh)).trans (Kpt.of_below (A := fun b => b = R) hb3) (fun _ _ hh => hh)
    have hlow3 : low ≤ (w2.alloc (Obj.cells #[Value.string (strOf F.n), Value.string (strOf F.d), Value.int IntKind.i64 (F.s : Int)] 109)).heap.size := by have := hk3.size; omega
    have hRlt := h1.lt
    have hs12 := hb2.size
    clear h1 h2 hk1 hb3
    have HK3 : Hid (Kpt (fun b => b = R) w (w2.alloc (Obj.cells #[Value.string (strOf F.n), Value.string (strOf F.d), Value.int IntKind.i64 (F.s : Int)] 109))) := hk3
    have H3 : Hid (DS 105 109 low (w2.alloc (Obj.cells #[Value.string (strOf F.n), Value.string (strOf F.d), Value.int IntKind.i64 (F.s : Int)] 109)) R v fs (stepL left)) := h3
    clear hk3 h3
    have HR : Hid (rRen fs nm dt = wOut (wOut fs nm) dt ++ [⟨dt, F.d, F.s⟩]) := by unfold Hid rRen; rw [hg]
    clear hg
    have hs3 : (w2.alloc (Obj.cells #[Value.string (strOf F.n), Value.string (strOf F.d), Value.int IntKind.i64 (F.s : Int)] 109)).heap.size = w2.heap.size + 1 := by simp
    go_wp2_with fail
    generalize (w2.alloc (Obj.cells #[Value.string (strOf F.n), Value.string (strOf F.d), Value.int IntKind.i64 (F.s : Int)] 109)) = W3 at *
    refine (rwithout_any low R v fs (stepL left) nm W3 H3.out hl).mono ?_
    rintro r w4 ⟨v4, rfl, ho4, hb4⟩
    obtain ⟨a4, c4, rfl, _⟩ := row3 ho4
    have h4 := H3.out.later hb4
    have cR := h4.cell 0
    have fR := h4.free 0
    simp at cR
    have hs4 := hb4.size
    have bc4 : ∀ i, (w4.setCell ⟨R, 0, none⟩ (.slice a4 (wOut fs nm).length c4)).cell? ⟨w2.heap.size, i, none⟩ = #[Value.string (strOf F.n), Value.string (strOf F.d), Value.int IntKind.i64 (F.s : Int)][i]? := fun i => (World.cell?_setCell_other _ _ _ _ (by intro hh; have := congrArg Addr.block hh; simp at this; omega)).trans ((hb4.cell (by show w2.heap.size < _; omega)).trans (bc i))
    have bf4 : ∀ i, (w4.setCell ⟨R, 0, none⟩ (.slice a4 (wOut fs nm).length c4)).frozen? ⟨w2.heap.size, i, none⟩ = false := fun i => by rw [World.frozen?_setCell]; exact (hb4.frozen (by show w2.heap.size < _; omega)).trans (bf i)
    have hlt4 : ∀ g, Value.ownBlock (.slice a4 (wOut fs nm).length c4) = some g → W3.heap.size ≤ g := fun g hg => (World.ownsRow.lt ho4 g hg).1
    have h5 : DS 105 109 low (w4.setCell ⟨R, 0, none⟩ (.slice a4 (wOut fs nm).length c4)) R (.slice a4 (wOut fs nm).length c4) (wOut fs nm) (stepL left) := DS.store (low := low) h4.st ho4 (by omega) (fun hh => by have := hlt4 R hh; omega)
    have hk5 : Kpt (fun b => b = R) w (w4.setCell ⟨R, 0, none⟩ (.slice a4 (wOut fs nm).length c4)) := (HK3.out.trans (A := fun b => b = R) (Kpt.of_below (A := fun b => b = R) hb4) (fun _ _ hh => hh)).trans (Kpt.set w4 R 0 _) (fun _ _ hh => hh)
    have hs5 : (w4.setCell ⟨R, 0, none⟩ (.slice a4 (wOut fs nm).length c4)).heap.size = w4.heap.size := (But.setCell w4 ⟨R, 0, none⟩ _).size
    have hwl : (wOut fs nm).length ≤ fs.length := List.length_filter_le _ _
    clear bc bf H3 HK3 hb4 h4
    go_wp2_with fail
    generalize (w4.setCell ⟨R, 0, none⟩ (.slice a4 (wOut fs nm).length c4)) = W5 at *
    have h6 : DS 105 109 low (W5.setCell ⟨w2.heap.size, 0, none⟩ (.string (strOf dt))) R (.slice a4 (wOut fs nm).length c4) (wOut fs nm) (stepL left) := h5.kept ((But.setCell W5 ⟨w2.heap.size, 0, none⟩ _).block R (by show R ≠ w2.heap.size; omega)) (fun g hg => (But.setCell W5 ⟨w2.heap.size, 0, none⟩ _).block g (by show g ≠ w2.heap.size; have := hlt4 g hg; omega))
    have hk6 : Kpt (fun b => b = R) w (W5.setCell ⟨w2.heap.size, 0, none⟩ (.string (strOf dt))) := hk5.trans (Kpt.set W5 w2.heap.size 0 _) (fun b hb1 hb2 => by have := hk5.size; subst hb2; omega)
    have hs6 : (W5.setCell ⟨w2.heap.size, 0, none⟩ (.string (strOf dt))).heap.size = W5.heap.size := (But.setCell W5 ⟨w2.heap.size, 0, none⟩ _).size
    refine (put_any low R _ (wOut fs nm) (stepL left) ⟨dt, F.d, F.s⟩ _ h6 (by omega) (by omega)).mono ?_
    rintro r w7 ⟨rfl, hd⟩
    have HD : Hid (Did 105 109 low w R v (rRen fs nm dt) (stepL left) w7) := by
      unfold Hid
      rw [HR.out]
      obtain ⟨v', d1, d2, d3⟩ := hd
      refine ⟨v', d1, ⟨d2.os.trans hk6.os, d2.tape.trans hk6.tape, d2.output.trans hk6.output, Nat.le_trans hk6.size d2.size, fun k hk hA => (d2.block k (by have := hk6.size; omega) (by
        rintro (hh | hh)
        · exact hA (.inl hh)
        · have := hlt4 k hh.symm; omega)).trans (hk6.block k hk (fun hh => hA (.inl hh)))⟩, fun g hg => ?_⟩
      rcases d3 g hg with d4 | d4
      · exact .inr (by have := hlt4 g d4; omega)
      · exact .inr (by have := hk6.size; omega)
    clear hd bc4 bf4
    go_wp2
    go_ret
    exact ⟨rfl, HD.out⟩


def stopL (left n : Int) : Int := if left = 0 then 0 else if n < 0 then -1 else n
set_option maxHeartbeats 2000000 in
set_option maxRecDepth 20000 in
theorem rstop_any (low R : Nat) (v : Value) (fs : List FD) (left n : Int) (w : World) (h : DS 105 109 low w R v fs left) (hb : -9223372036854775808 ≤ left ∧ left ≤ 9223372036854775807) :
    Calls Tryz.prog 45 #[.pointer (some ⟨R, 0, none⟩), .int .i64 n] w fun r w' => r = .returned (.tuple #[]) ∧ Did 105 109 low w R v fs (stopL left n) w' := by
  have c1 := h.cell 1
  have f1 := h.free 1
  simp at c1
  by_cases h0 : left = 0
  · have HD : Hid (Did 105 109 low w R v fs (stopL left n) w) := by unfold Hid stopL; rw [if_pos h0, ← h0]; exact Did.same h (Kpt.refl _ _)
    subst h0
    clear h
    go_enter Tryz.func45, Tryz.ntmps45
    go_wp2
    refine bodyPost_ret (v := .tuple #[]) (by simp [results, Tryz.results45, go_sem]) rfl ?_
    exact ⟨rfl, HD.out⟩
  · have q0 : (left == 0) = false := by simpa using h0
    have h1 := h.relay (by decide) n
    have hk1 := Kpt.set w R 1 (.int .i64 n)
    by_cases hn : n < 0
    · have HD : Hid (Did 105 109 low w R v fs (stopL left n) ((w.setCell ⟨R, 1, none⟩ (.int .i64 n)).setCell ⟨R, 1, none⟩ (.int .i64 (-1)))) := by
        unfold Hid stopL; rw [if_neg h0, if_pos hn]; exact Did.same (h1.relay (by decide) _) (hk1.trans (Kpt.set _ R 1 _) (fun _ _ hh => hh))
      clear h h1 hk1
      go_enter Tryz.func45, Tryz.ntmps45
      go_wp2
      refine bodyPost_end (v := .tuple #[]) (by simp [results, Tryz.results45, go_sem]) rfl ?_
      exact ⟨rfl, HD.out⟩
    · have HD : Hid (Did 105 109 low w R v fs (stopL left n) (w.setCell ⟨R, 1, none⟩ (.int .i64 n))) := by
        unfold Hid stopL; rw [if_neg h0, if_neg hn]; exact Did.same h1 hk1
      clear h h1 hk1
      go_enter Tryz.func45, Tryz.ntmps45
      go_wp2
      refine bodyPost_end (v := .tuple #[]) (by simp [results, Tryz.results45, go_sem]) rfl ?_
      exact ⟨rfl, HD.out⟩
set_option maxRecDepth 20000 in
theorem rnew_any (low : Nat) (w : World) :
    Calls Tryz.prog 13 #[] w fun r w' => r = .returned (.pointer (some ⟨w.heap.size, 0, none⟩)) ∧ DS 105 109 low w' w.heap.size (.slice none 0 0) [] (-1) ∧ Below w.heap.size w w' ∧ w'.heap.size = w.heap.size + 1 := by
  have HD : Hid (DS 105 109 low (w.alloc (Obj.cells #[Value.slice none 0 0, Value.int IntKind.i64 (-1)] 105)) w.heap.size (.slice none 0 0) [] (-1)) := ⟨heap_alloc_new w _, World.ownsRow_nil _ _ _ _⟩
  have hb0 := (Below.refl w.heap.size w).alloc (Nat.le_refl _) (Obj.cells #[Value.slice none 0 0, Value.int IntKind.i64 (-1)] 105)
  have hs0 : (w.alloc (Obj.cells #[Value.slice none 0 0, Value.int IntKind.i64 (-1)] 105)).heap.size = w.heap.size + 1 := by simp
  go_enter Tryz.func13, Tryz.ntmps13
  go_wp2
  go_ret
  exact ⟨rfl, HD.out, hb0, hs0⟩
/-- What a caller has of a disk: where its pointers lead. -/
structure Hands (w : World) (D H S : Nat) : Prop where
  d : w.heap[D]? = some (.cells #[.pointer (some ⟨S, 0, none⟩)] 100 (0, 0))
  h : w.heap[H]? = some (.cells #[.pointer (some ⟨S, 0, none⟩)] 102 (0, 0))
theorem Hands.cd {w : World} {D H S : Nat} (h : Hands w D H S) : w.cell? ⟨D, 0, none⟩ = some (.pointer (some ⟨S, 0, none⟩)) := by simp [World.cell?, h.d]
theorem Hands.ch {w : World} {D H S : Nat} (h : Hands w D H S) : w.cell? ⟨H, 0, none⟩ = some (.pointer (some ⟨S, 0, none⟩)) := by simp [World.cell?, h.h]
set_option maxRecDepth 20000 in
theorem anew_any (low : Nat) (w : World) :
    Calls Tryz.prog 12 #[] w fun r w' => r = .returned (.tuple #[.pointer (some ⟨w.heap.size + 1, 0, none⟩), .pointer (some ⟨w.heap.size + 2, 0, none⟩)]) ∧ DS 98 107 low w' w.heap.size (.slice none 0 0) [] (-1) ∧ Hands w' (w.heap.size + 1) (w.heap.size + 2) w.heap.size ∧ Below w.heap.size w w' ∧ w'.heap.size = w.heap.size + 3 := by
  have hb0 := (Below.refl w.heap.size w).alloc (Nat.le_refl _) (Obj.cells #[Value.slice none 0 0, Value.int IntKind.i64 (-1)] 98)
  have h0 : (w.alloc (Obj.cells #[Value.slice none 0 0, Value.int IntKind.i64 (-1)] 98)).heap[w.heap.size]? = some (.cells #[Value.slice none 0 0, Value.int IntKind.i64 (-1)] 98 (0, 0)) := heap_alloc_new w _
  have hs0 : (w.alloc (Obj.cells #[Value.slice none 0 0, Value.int IntKind.i64 (-1)] 98)).heap.size = w.heap.size + 1 := by simp
  have hP : ∀ W0 : World, W0.heap.size = w.heap.size + 1 → W0.heap[w.heap.size]? = some (.cells #[Value.slice none 0 0, Value.int IntKind.i64 (-1)] 98 (0, 0)) → Below w.heap.size w W0 →
      DS 98 107 low ((W0.alloc (Obj.cells #[Value.pointer (some ⟨w.heap.size, 0, none⟩)] 100)).alloc (Obj.cells #[Value.pointer (some ⟨w.heap.size, 0, none⟩)] 102)) w.heap.size (.slice none 0 0) [] (-1) ∧ Hands ((W0.alloc (Obj.cells #[Value.pointer (some ⟨w.heap.size, 0, none⟩)] 100)).alloc (Obj.cells #[Value.pointer (some ⟨w.heap.size, 0, none⟩)] 102)) (w.heap.size + 1) (w.heap.size + 2) w.heap.size ∧ Below w.heap.size w ((W0.alloc (Obj.cells #[Value.pointer (some ⟨w.heap.size, 0, none⟩)] 100)).alloc (Obj.cells #[Value.pointer (some ⟨w.heap.size, 0, none⟩)] 102)) ∧ ((W0.alloc (Obj.cells #[Value.pointer (some ⟨w.heap.size, 0, none⟩)] 100)).alloc (Obj.cells #[Value.pointer (some ⟨w.heap.size, 0, none⟩)] 102)).heap.size = w.heap.size + 3 := by
    intro W0 e0 e1 e2
    have s1 : (W0.alloc (Obj.cells #[Value.pointer (some ⟨w.heap.size, 0, none⟩)] 100)).heap.size = w.heap.size + 2 := by simp [e0]
    refine ⟨⟨?_, World.ownsRow_nil _ _ _ _⟩, ⟨?_, ?_⟩, (e2.alloc (by omega) _).alloc (by simp; omega) _, by simp [e0]⟩
    · exact (heap_alloc_old _ _ (by omega)).trans ((heap_alloc_old _ _ (by omega)).trans e1)
    · refine (heap_alloc_old _ _ (by omega)).trans ?_
      have := heap_alloc_new W0 (Obj.cells #[Value.pointer (some ⟨w.heap.size, 0, none⟩)] 100)
      rw [e0] at this
      exact this
    · have := heap_alloc_new (W0.alloc (Obj.cells #[Value.pointer (some ⟨w.heap.size, 0, none⟩)] 100)) (Obj.cells #[Value.pointer (some ⟨w.heap.size, 0, none⟩)] 102)
      rw [s1] at this
      exact this
  have HP := hP _ hs0 h0 hb0
  have HP' : Hid _ := HP
  clear hP HP h0 hb0
  go_enter Tryz.func12, Tryz.ntmps12
  go_wp2
  exact bodyPost_ret (v := .tuple #[.pointer (some ⟨w.heap.size + 1, 0, none⟩), .pointer (some ⟨w.heap.size + 2, 0, none⟩)]) (by simp [results, Tryz.results12, go_sem]) rfl ⟨rfl, HP'.out⟩
theorem Hands.later {w w' : World} {D H S : Nat} (h : Hands w D H S) (h1 : w'.heap[D]? = w.heap[D]?) (h2 : w'.heap[H]? = w.heap[H]?) : Hands w' D H S := ⟨h1.trans h.d, h2.trans h.h⟩
theorem fNum_bd (fs : List FD) (nm : List UInt8) : fNum fs nm = -1 ∧ fIdx fs nm = none ∨ ∃ i : Nat, fNum fs nm = (i : Int) ∧ fIdx fs nm = some i ∧ i < fs.length := by
  unfold fNum
  cases h : fIdx fs nm with
  | none => exact .inl ⟨rfl, rfl⟩
  | some i =>
    refine .inr ⟨i, rfl, rfl, ?_⟩
    unfold fIdx at h
    rw [List.findIdx?_eq_some_iff_getElem] at h
    exact h.1
theorem fGet_of_idx {fs : List FD} {nm : List UInt8} {i : Nat} (h : fIdx fs nm = some i) (hi : i < fs.length) : fGet fs nm = some fs[i] := by
  unfold fIdx at h
  rw [List.findIdx?_eq_some_iff_getElem] at h
  obtain ⟨_, h1, h2⟩ := h
  exact fGet_some hi h1 (fun j hj hjt => by have := h2 j hjt; simpa using this)
theorem fGet_of_none {fs : List FD} {nm : List UInt8} (h : fIdx fs nm = none) : fGet fs nm = none := by
  unfold fIdx at h
  rw [List.findIdx?_eq_none_iff] at h
  exact fGet_none (fun j hj => h _ (List.getElem_mem hj))
set_option maxHeartbeats 2000000 in
set_option maxRecDepth 20000 in
theorem ahas_any (low D H S : Nat) (v : Value) (fs : List FD) (left : Int) (nm : List UInt8) (w : World) (hH : Hands w D H S) (h : DS 98 107 low w S v fs left) (hl : fs.length ≤ 3000000000) :
    Calls Tryz.prog 41 #[.pointer (some ⟨D, 0, none⟩), .string (strOf nm)] w fun r w' => r = .returned (.bool (fGet fs nm).isSome) ∧ w' = w := by
  have cd := hH.cd
  clear hH
  go_enter Tryz.func41, Tryz.ntmps41
  go_wp2_with fail
  refine (find_any low S v fs left nm w h (by omega)).mono ?_
  rintro r w' ⟨rfl, hh⟩
  replace hh := hh.symm
  subst hh
  rcases fNum_bd fs nm with ⟨h1, h2⟩ | ⟨i, h1, h2, h3⟩
  · have HF : Hid ((fGet fs nm).isSome = false) := by unfold Hid; rw [fGet_of_none h2]; rfl
    rw [h1]
    clear h1 h2 h
    go_wp2
    go_ret
    exact ⟨ret_bool HF.out.symm, rfl⟩
  · have HF : Hid ((fGet fs nm).isSome = true) := by unfold Hid; rw [fGet_of_idx h2 h3]; rfl
    rw [h1]
    clear h1 h2 h
    go_wp2
    go_ret
    exact ⟨ret_bool HF.out.symm, rfl⟩
set_option maxHeartbeats 2000000 in
set_option maxRecDepth 20000 in
theorem aread_any (low D H S : Nat) (v : Value) (fs : List FD) (left : Int) (nm : List UInt8) (w : World) (hH : Hands w D H S) (h : DS 98 107 low w S v fs left) (hl : fs.length ≤ 3000000000) :
    Calls Tryz.prog 40 #[.pointer (some ⟨D, 0, none⟩), .string (strOf nm)] w fun r w' => r = .returned (.string (strOf (fBox (fGet fs nm)).d)) ∧ w' = w := by
  have cd := hH.cd
  have c0 := h.cell 0
  simp at c0
  clear hH
  go_enter Tryz.func40, Tryz.ntmps40
  go_wp2_with fail
  refine (find_any low S v fs left nm w h (by omega)).mono ?_
  rintro r w' ⟨rfl, hh⟩
  replace hh := hh.symm
  subst hh
  rcases fNum_bd fs nm with ⟨h1, h2⟩ | ⟨i, h1, h2, h3⟩
  · have HF : Hid (strOf (fBox (fGet fs nm)).d = ⟨#[]⟩) := by unfold Hid; rw [fGet_of_none h2]; rfl
    rw [h1]
    clear h1 h2 h
    go_wp2
    go_ret
    exact ⟨by rw [HF.out]; rfl, rfl⟩
  · have HF : Hid (strOf (fBox (fGet fs nm)).d = strOf fs[i].d) := by unfold Hid; rw [fGet_of_idx h2 h3]; rfl
    rw [h1]
    obtain ⟨a, c, rfl, hrow⟩ := row3 h.row
    obtain ⟨g, rfl, _, _, hcc⟩ := hrow.resolve_left (by omega)
    have j1 := hcc _ _ (file_at fs i h3 1 (by omega))
    simp [FD.cells] at j1
    have h3i : (i : Int) < (fs.length : Int) := by omega
    clear h1 h2 h hcc hrow
    go_wp2
    go_ret
    exact ⟨by rw [HF.out]; rfl, rfl⟩
set_option maxRecDepth 20000 in
theorem astopped_any (low D H S : Nat) (v : Value) (fs : List FD) (left : Int) (w : World) (hH : Hands w D H S) (h : DS 98 107 low w S v fs left) :
    Calls Tryz.prog 42 #[.pointer (some ⟨D, 0, none⟩)] w fun r w' => r = .returned (.bool (left == 0)) ∧ w' = w := by
  have cd := hH.cd
  have c1 := h.cell 1
  simp at c1
  clear hH h
  go_enter Tryz.func42, Tryz.ntmps42
  go_wp2
  go_ret
  exact ⟨rfl, rfl⟩
set_option maxHeartbeats 2000000 in
set_option maxRecDepth 20000 in
theorem astop_any (low D H S : Nat) (v : Value) (fs : List FD) (left n : Int) (w : World) (hH : Hands w D H S) (h : DS 98 107 low w S v fs left) :
    Calls Tryz.prog 44 #[.pointer (some ⟨H, 0, none⟩), .int .i64 n] w fun r w' => r = .returned (.tuple #[]) ∧ Did 98 107 low w S v fs (stopL left n) w' := by
  have ch := hH.ch
  have c1 := h.cell 1
  have f1 := h.free 1
  simp at c1
  clear hH
  by_cases h0 : left = 0
  · have HD : Hid (Did 98 107 low w S v fs (stopL left n) w) := by unfold Hid stopL; rw [if_pos h0, ← h0]; exact Did.same h (Kpt.refl _ _)
    subst h0
    clear h
    go_enter Tryz.func44, Tryz.ntmps44
    go_wp2
    refine bodyPost_end (v := .tuple #[]) (by simp [results, Tryz.results44, go_sem]) rfl ?_
    exact ⟨rfl, HD.out⟩
  · have q0 : (left == 0) = false := by simpa using h0
    have q1 : (left != 0) = true := by simpa using h0
    by_cases hn : n < 0
    · have HD : Hid (Did 98 107 low w S v fs (stopL left n) (w.setCell ⟨S, 1, none⟩ (.int .i64 (-1)))) := by
        unfold Hid stopL; rw [if_neg h0, if_pos hn]; exact Did.same (h.relay (by decide) _) (Kpt.set _ _ _ _)
      clear h
      go_enter Tryz.func44, Tryz.ntmps44
      go_wp2
      refine bodyPost_end (v := .tuple #[]) (by simp [results, Tryz.results44, go_sem]) rfl ?_
      exact ⟨rfl, HD.out⟩
    · have HD : Hid (Did 98 107 low w S v fs (stopL left n) (w.setCell ⟨S, 1, none⟩ (.int .i64 n))) := by
        unfold Hid stopL; rw [if_neg h0, if_neg hn]; exact Did.same (h.relay (by decide) _) (Kpt.set _ _ _ _)
      clear h
      go_enter Tryz.func44, Tryz.ntmps44
      go_wp2
      refine bodyPost_end (v := .tuple #[]) (by simp [results, Tryz.results44, go_sem]) rfl ?_
      exact ⟨rfl, HD.out⟩

theorem DS.drew {ty e : TypeId} {low : Nat} {w : World} {S : Nat} {v : Value} {fs : List FD} {left : Int} (h : DS ty e low w S v fs left) : DS ty e low w.drew S v fs left := ⟨h.st, h.row⟩
set_option maxHeartbeats 2000000 in
set_option maxRecDepth 20000 in
theorem aremove_zero (low D H S : Nat) (v : Value) (fs : List FD) (nm : List UInt8) (w : World) (hH : Hands w D H S) (h : DS 98 107 low w S v fs 0) :
    Calls Tryz.prog 38 #[.pointer (some ⟨D, 0, none⟩), .string (strOf nm)] w fun r w' => r = .returned (.bool false) ∧ Did 98 107 low w S v fs (stepL 0) w' := by
  have cd := hH.cd
  clear hH
  go_enter Tryz.func38, Tryz.ntmps38
  go_wp2_with fail
  refine (astep_any low S v fs 0 w h (by omega)).mono ?_
  rintro r w1 ⟨rfl, hw1⟩
  obtain ⟨h1, hk1, hs1⟩ := step_did h (by decide) w1 hw1
  clear hw1
  rw [show decide ((0 : Int) ≠ 0) = false from rfl]
  have HD : Hid _ := Did.same h1 hk1
  clear h1 hk1 h
  go_wp2
  go_ret
  exact ⟨rfl, HD.out⟩
set_option maxHeartbeats 4000000 in
set_option maxRecDepth 20000 in
theorem aremove_go (low D H S : Nat) (v : Value) (fs : List FD) (left : Int) (nm : List UInt8) (w : World) (hH : Hands w D H S) (hDS : D ≠ S) (h : DS 98 107 low w S v fs left) (h0 : left ≠ 0) (hb : -9223372036854775808 ≤ left ∧ left ≤ 9223372036854775807) (hl : fs.length ≤ 3000000000) (hlow : low ≤ w.heap.size) :
    Calls Tryz.prog 38 #[.pointer (some ⟨D, 0, none⟩), .string (strOf nm)] w fun r w' => r = .returned (.bool true) ∧ Did 98 107 low w S v (wOut fs nm) (stepL left) w' := by
  have cd := hH.cd
  have hDlt : D < w.heap.size := (Array.getElem?_eq_some_iff.1 hH.d).1
  have HD0 := hH.d
  clear hH
  go_enter Tryz.func38, Tryz.ntmps38
  go_wp2_with fail
  refine (astep_any low S v fs left w h hb).mono ?_
  rintro r w1 ⟨rfl, hw1⟩
  obtain ⟨h1, hk1, hs1⟩ := step_did h (by decide) w1 hw1
  clear hw1
  rw [show decide (left ≠ 0) = true by simpa using h0]
  have cd1 : w1.cell? ⟨D, 0, none⟩ = some (.pointer (some ⟨S, 0, none⟩)) := (World.cell?_of_block (w := w) (a := ⟨D, 0, none⟩) (hk1.block D hDlt hDS)).trans cd
  have cs1 := h1.cell 0
  have fs1 := h1.free 0
  simp at cs1
  have H1 : Hid (DS 98 107 low w1 S v fs (stepL left)) := h1
  have HK : Hid (Kpt (fun b => b = S) w w1) := hk1
  have hS1 := h1.lt
  have hD1 : D < w1.heap.size := by omega
  clear h h1 hk1 cd HD0
  go_wp2_with fail
  go_region_held3 (fun w' => w'.cell? ⟨D, 0, none⟩ = some (.pointer (some ⟨S, 0, none⟩))) (first | assumption | (rw [World.cell?_setCell_other _ _ _ _ (by intro hh; have h9 := congrArg Addr.block hh; simp at h9; omega)]; assumption) | go_keep) (first | (go_at_call 80; refine (awithout_any low S v fs (stepL left) nm w1.drew H1.out.drew hl).mono ?_; rintro r w2 ⟨v2, rfl, ho2, hb2⟩; obtain ⟨a2, c2, rfl, _⟩ := row3 ho2; have kd : w2.cell? ⟨D, 0, none⟩ = some (.pointer (some ⟨S, 0, none⟩)) := (hb2.cell (by exact hD1)).trans cd1; have ks : w2.cell? ⟨S, 0, none⟩ = some v := (hb2.cell (by exact hS1)).trans cs1; have kf : w2.frozen? ⟨S, 0, none⟩ = false := (hb2.frozen (by exact hS1)).trans fs1))
  all_goals
    have h2 : DS 98 107 low w2 S v fs (stepL left) := H1.out.drew.later hb2
    have hlt2 : ∀ g, Value.ownBlock (.slice a2 (wOut fs nm).length c2) = some g → w1.heap.size ≤ g := fun g hg => (World.ownsRow.lt ho2 g hg).1
    have hs2 := hb2.size
    have hk2 : Kpt (fun b => b = S ∨ some b = v.ownBlock) w1 w2 := ⟨hb2.os, hb2.tape, hb2.output, hb2.size, fun k hk _ => hb2.block k hk⟩
    have HF : Hid (Did 98 107 low w S v (wOut fs nm) (stepL left) (w2.setCell ⟨S, 0, none⟩ (.slice a2 (wOut fs nm).length c2))) := Did.pre HK.out ⟨_, DS.store (low := low) (low' := w1.heap.size) h2.st ho2 (by omega) (fun hh => by have := hlt2 S hh; omega), hk2.trans (Kpt.set w2 S 0 _) (fun b _ hb => .inl hb), fun g hg => .inr (hlt2 g hg)⟩
    clear h2 ho2 hb2 hlt2 hk2
  all_goals go_wp2
  all_goals go_ret
  all_goals exact ⟨rfl, HF.out⟩
end Go.Proofs.YtamdkmjdpdkoeaaGreatDoor
