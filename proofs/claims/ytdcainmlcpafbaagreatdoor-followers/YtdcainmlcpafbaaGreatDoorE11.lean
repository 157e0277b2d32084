import Derived.Test.YtdcainmlcpafbaaGreatDoorE10
set_option linter.unusedSimpArgs false
set_option linter.unusedVariables false
namespace Go.Proofs.YtdcainmlcpafbaaGreatDoor
open Go.RowKit

/-- A step of a script. -/
structure OpD where
  K : Int
  A : Int
  B : Int
  C : Int
  S : ByteArray
def OpD.cells (o : OpD) : List Value := [.int .i64 o.K, .int .i64 o.A, .int .i64 o.B, .int .i64 o.C, .string o.S]
def OpD.ok (o : OpD) : Prop := (-9223372036854775808 ≤ o.A ∧ o.A ≤ 9223372036854775807) ∧ (-9223372036854775808 ≤ o.B ∧ o.B ≤ 9223372036854775807) ∧ o.S.size ≤ maxLen
def opsAt (w : World) (ao : Option Addr) (os : List OpD) : Prop :=
  os = [] ∨ ∃ g off, ao = some ⟨g, off, none⟩ ∧ g < w.heap.size ∧ ∀ j (h : j < os.length) i, i < 5 → w.cell? ⟨g, off + j * 5 + i, none⟩ = some (os[j].cells.getD i undef)

def knownMsgs : Array Value := #[Value.int IntKind.i64 4, Value.int IntKind.i64 1, Value.int IntKind.i64 2, Value.int IntKind.i64 7, Value.int IntKind.i64 0, Value.int IntKind.i64 0, Value.int IntKind.i64 0, Value.int IntKind.i64 0, Value.int IntKind.i64 0, Value.int IntKind.i64 0, Value.slice none 0 0, Value.int IntKind.i64 2, Value.int IntKind.i64 0, Value.int IntKind.i64 0, Value.int IntKind.i64 6, Value.int IntKind.i64 0, Value.int IntKind.i64 0, Value.int IntKind.i64 0, Value.int IntKind.i64 0, Value.int IntKind.i64 0, Value.int IntKind.i64 0, Value.slice none 0 0, Value.int IntKind.i64 4, Value.int IntKind.i64 0, Value.int IntKind.i64 0, Value.int IntKind.i64 6, Value.int IntKind.i64 0, Value.int IntKind.i64 0, Value.int IntKind.i64 0, Value.int IntKind.i64 0, Value.int IntKind.i64 0, Value.int IntKind.i64 0, Value.slice none 0 0]
def knownRecs : Array Value := #[Value.int IntKind.i64 0, Value.int IntKind.i64 0, Value.int IntKind.i64 7, Value.int IntKind.i64 1, Value.int IntKind.i64 2, Value.int IntKind.i64 6]

set_option maxHeartbeats 1000000 in
set_option maxRecDepth 20000 in
theorem known_any (w : World) :
    Calls Tryz.prog 28 #[] w fun r w' => r = .returned (.agg #[.slice (some ⟨w.heap.size + 1, 0, none⟩) 3 3, .slice (some ⟨w.heap.size + 1 + 1, 0, none⟩) 2 2]) ∧ Below w.heap.size w w' ∧ w'.heap.size = w.heap.size + 3 ∧
      (∀ i, w'.cell? ⟨w.heap.size + 1, i, none⟩ = knownMsgs[i]?) ∧ (∀ i, w'.cell? ⟨w.heap.size + 1 + 1, i, none⟩ = knownRecs[i]?) := by
  go_enter Tryz.func28, Tryz.ntmps28
  go_wp2
  exact bodyPost_ret (v := .agg #[.slice (some ⟨w.heap.size + 1, 0, none⟩) 3 3, .slice (some ⟨w.heap.size + 1 + 1, 0, none⟩) 2 2]) (by simp [results, Tryz.results28, go_sem]) rfl ⟨rfl, (((Below.refl _ _).alloc (Nat.le_refl _) _).alloc (by simp) _).alloc (by simp; omega) _, by simp, fun i => by
    rw [World.cell?_alloc_past _ _ _ (by simp), World.cell?_alloc_at _ _ _ _ (by simp)]; rfl, fun i => by rw [World.cell?_alloc_at _ _ _ _ (by simp)]; rfl⟩

def sBytes : List UInt8 := encOf 4 1 [0, 2, 7, 0, 0, 0, 0, 0, 0, 0] []
def pBytes : List UInt8 := encOf 1 0 [0, 0, 5, 0, 0, 0, 0, 0, 0, 0] []
def opened : List OpD := [⟨1, 0, 0, 0, ⟨#[]⟩⟩, ⟨2, 0, 0, 0, strOf sBytes⟩, ⟨3, 0, 1, 0, ⟨#[]⟩⟩, ⟨4, 1, 3, 2, ⟨#[]⟩⟩, ⟨5, 0, 0, 0, ⟨#[]⟩⟩, ⟨6, 0, 0, 0, strOf pBytes⟩, ⟨9, 0, 0, 0, ⟨#[]⟩⟩, ⟨17, 0, 0, 0, ⟨#[]⟩⟩, ⟨10, 0, 2, 0, ⟨#[]⟩⟩, ⟨7, 0, 1, 0, ⟨#[]⟩⟩, ⟨7, 0, 2, 0, ⟨#[]⟩⟩, ⟨12, 0, 0, 9, ⟨#[]⟩⟩, ⟨15, 0, 0, 0, ⟨#[]⟩⟩, ⟨14, 0, 0, 0, ⟨#[]⟩⟩]
theorem is_s : isMsg 4 1 [0, 2, 7, 0, 0, 0, 0, 0, 0, (([] : List Int).length : Int)] = true := by kernel_rfl
theorem is_p : isMsg 1 0 [0, 0, 5, 0, 0, 0, 0, 0, 0, (([] : List Int).length : Int)] = true := by kernel_rfl
theorem opened_ok : ∀ o ∈ opened, o.ok := by
  have e1 : (strOf sBytes).size = 22 := by kernel_rfl
  have e2 : (strOf pBytes).size = 22 := by kernel_rfl
  have e3 : (⟨#[]⟩ : ByteArray).size = 0 := rfl
  have em : maxLen = 9223372036854775807 := rfl
  intro o ho
  simp only [opened, List.mem_cons, List.not_mem_nil, or_false] at ho
  rcases ho with rfl | rfl | rfl | rfl | rfl | rfl | rfl | rfl | rfl | rfl | rfl | rfl | rfl | rfl
  all_goals (refine ⟨by simp, by simp, ?_⟩)
  all_goals (simp only [e1, e2, e3, em])
  all_goals omega

set_option maxHeartbeats 4000000 in
set_option maxRecDepth 20000 in
theorem opening_any (w : World) :
    Calls Tryz.prog 29 #[] w fun r w' => ∃ g, r = .returned (.slice (some ⟨g, 0, none⟩) 14 14) ∧ w.heap.size ≤ g ∧ g < w'.heap.size ∧ Below w.heap.size w w' ∧ opsAt w' (some ⟨g, 0, none⟩) opened := by
  have n0 : ∀ w : World, intsAt w none [] := fun _ => .inl rfl
  go_enter Tryz.func29, Tryz.ntmps29
  go_wp2_with fail
  refine (rencode_yes 4 1 2 7 0 0 0 0 0 0 none 0 [] _ (by omega) (by omega) (n0 _) is_s).mono ?_
  rintro r w1 ⟨rfl, hb1⟩
  rw [show encOf ((4 : Int).toNat) ((1 : Int).toNat) [0, 2, 7, 0, 0, 0, 0, 0, 0, (([] : List Int).length : Int)] [] = sBytes from rfl]
  go_wp2_with fail
  refine (rencode_yes 1 0 0 5 0 0 0 0 0 0 none 0 [] _ (by omega) (by omega) (n0 _) is_p).mono ?_
  rintro r w2 ⟨rfl, hb2⟩
  rw [show encOf ((1 : Int).toNat) ((0 : Int).toNat) [0, 0, 5, 0, 0, 0, 0, 0, 0, (([] : List Int).length : Int)] [] = pBytes from rfl]
  have hb := hb1.trans (hb2.mono hb1.size)
  have hz := hb.size
  have HE : Hid (opened = [⟨1, 0, 0, 0, ⟨#[]⟩⟩, ⟨2, 0, 0, 0, strOf sBytes⟩, ⟨3, 0, 1, 0, ⟨#[]⟩⟩, ⟨4, 1, 3, 2, ⟨#[]⟩⟩, ⟨5, 0, 0, 0, ⟨#[]⟩⟩, ⟨6, 0, 0, 0, strOf pBytes⟩, ⟨9, 0, 0, 0, ⟨#[]⟩⟩, ⟨17, 0, 0, 0, ⟨#[]⟩⟩, ⟨10, 0, 2, 0, ⟨#[]⟩⟩, ⟨7, 0, 1, 0, ⟨#[]⟩⟩, ⟨7, 0, 2, 0, ⟨#[]⟩⟩, ⟨12, 0, 0, 9, ⟨#[]⟩⟩, ⟨15, 0, 0, 0, ⟨#[]⟩⟩, ⟨14, 0, 0, 0, ⟨#[]⟩⟩]) := rfl
  generalize strOf sBytes = SS at *
  generalize strOf pBytes = PP at *
  go_wp2
  go_ret
  refine ⟨w2.heap.size, rfl, hz, by simp, hb.alloc hz _, ?_⟩
  rw [HE.out]
  refine .inr ⟨w2.heap.size, 0, rfl, by simp, ?_⟩
  intro j hj i hi
  rw [World.cell?_alloc_at _ _ _ _ rfl]
  simp only [List.length_cons, List.length_nil] at hj
  rcases (show j = 0 ∨ j = 1 ∨ j = 2 ∨ j = 3 ∨ j = 4 ∨ j = 5 ∨ j = 6 ∨ j = 7 ∨ j = 8 ∨ j = 9 ∨ j = 10 ∨ j = 11 ∨ j = 12 ∨ j = 13 by omega) with rfl | rfl | rfl | rfl | rfl | rfl | rfl | rfl | rfl | rfl | rfl | rfl | rfl | rfl
  all_goals (rcases (show i = 0 ∨ i = 1 ∨ i = 2 ∨ i = 3 ∨ i = 4 by omega) with rfl | rfl | rfl | rfl | rfl)
  all_goals rfl
end Go.Proofs.YtdcainmlcpafbaaGreatDoor
