import Derived.Test.YtdcainmlcpafbaaGreatDoorG11
import Derived.Test.YtdcainmlcpafbaaGreatDoorG12
import Derived.Deep.RegionHeld3
set_option linter.unusedSimpArgs false
set_option linter.unusedVariables false
namespace Go.Proofs.YtdcainmlcpafbaaGreatDoor
open Go.RowKit

set_option maxHeartbeats 2000000 in
set_option maxRecDepth 20000 in
theorem plain1_none (R : Nat) (ao : Option Addr) (c : Nat) (A B C : Int) (S : ByteArray) (w : World) (hR : R < w.heap.size) (hcR : w.cell? ⟨R, 0, none⟩ = some (.slice ao 0 c)) :
    Calls Tryz.prog 64 #[.pointer (some ⟨R, 0, none⟩), .agg #[.int .i64 1, .int .i64 A, .int .i64 B, .int .i64 C, .string S]] w fun e w' => e = .returned (.bool true) ∧ Below w.heap.size w w' := by
  have hb0 := (Below.refl w.heap.size w).alloc (Nat.le_refl _) (Obj.cells #[Value.int IntKind.i64 1, Value.int IntKind.i64 A, Value.int IntKind.i64 B, Value.int IntKind.i64 C, Value.string S] 93)
  have hc0 : ∀ i, (w.alloc (Obj.cells #[Value.int IntKind.i64 1, Value.int IntKind.i64 A, Value.int IntKind.i64 B, Value.int IntKind.i64 C, Value.string S] 93)).cell? ⟨w.heap.size, i, none⟩ = #[Value.int IntKind.i64 1, Value.int IntKind.i64 A, Value.int IntKind.i64 B, Value.int IntKind.i64 C, Value.string S][i]? := fun i => World.cell?_alloc_at _ _ _ _ rfl
  have hr0 : (w.alloc (Obj.cells #[Value.int IntKind.i64 1, Value.int IntKind.i64 A, Value.int IntKind.i64 B, Value.int IntKind.i64 C, Value.string S] 93)).cell? ⟨R, 0, none⟩ = some (.slice ao 0 c) := (World.cell?_alloc_past _ _ _ hR).trans hcR
  clear hcR
  go_enter Tryz.func64, Tryz.ntmps64
  go_wp2
  go_ret
  exact ⟨rfl, hb0⟩
theorem kEncode_both (k f e b wa p s q bl v : Int) (a : Option Addr) (zs : List Int) (c : Nat) (w : World) (ht : Tabs w) (hz : intsAt w a zs) :
    Calls Tryz.prog 98 #[.agg #[.int .i64 k, .int .i64 f, .int .i64 e, .int .i64 b, .int .i64 wa, .int .i64 p, .int .i64 s, .int .i64 q, .int .i64 bl, .int .i64 v, .slice a zs.length c]] w fun r w' =>
      ∃ la lc bx ec, r = .returned (.tuple #[.slice la bx.length lc, .int .i64 ec]) ∧ OwnB w' w.heap.size (.slice la bx.length lc) bx ∧ Below w.heap.size w w' ∧ bx.length ≤ 300 ∧
        ((isMsg k f [0, e, b, wa, p, s, q, bl, v, (zs.length : Int)] = true ∧ bx = encOf k.toNat f.toNat [0, e, b, wa, p, s, q, bl, v, (zs.length : Int)] zs ∧ ec = 0) ∨ (isMsg k f [0, e, b, wa, p, s, q, bl, v, (zs.length : Int)] = false ∧ bx = [] ∧ ec = 1 ∧ la = none)) := by
  cases hm : isMsg k f [0, e, b, wa, p, s, q, bl, v, (zs.length : Int)] with
  | true =>
    refine (kEncode_yes k f e b wa p s q bl v a zs c w ht hz hm).mono ?_
    rintro r w' ⟨x, rfl, ho, hb⟩
    obtain ⟨la, lc, rfl⟩ := shape_of ho
    have h' := isMsg_len hm
    exact ⟨la, lc, _, 0, rfl, ho, hb, enc_small _ _ _ _ (by omega) (by omega), .inl ⟨rfl, rfl, rfl⟩⟩
  | false =>
    refine (kEncode_no k f e b wa p s q bl v a zs.length c w ht hm).mono ?_
    rintro r w' ⟨rfl, hb⟩
    exact ⟨none, 0, [], 1, rfl, World.ownsRow_nil _ _ _ _, hb, by simp, .inr ⟨rfl, rfl, rfl, rfl⟩⟩
theorem rencode_both (k f e b wa p s q bl v : Int) (a : Option Addr) (c : Nat) (zs : List Int) (w : World) (hl : zs.length ≤ 2000000) (bk : -9223372036854775808 ≤ k ∧ k ≤ 9223372036854775807) (bv : -9223372036854775808 ≤ v ∧ v ≤ 9223372036854775807) (h1 : intsAt w a zs) (bx : List UInt8) (ec : Int)
    (hm : (isMsg k f [0, e, b, wa, p, s, q, bl, v, (zs.length : Int)] = true ∧ bx = encOf k.toNat f.toNat [0, e, b, wa, p, s, q, bl, v, (zs.length : Int)] zs ∧ ec = 0) ∨ (isMsg k f [0, e, b, wa, p, s, q, bl, v, (zs.length : Int)] = false ∧ bx = [] ∧ ec = 1)) :
    Calls Tryz.prog 63 #[.agg #[.int .i64 k, .int .i64 f, .int .i64 e, .int .i64 b, .int .i64 wa, .int .i64 p, .int .i64 s, .int .i64 q, .int .i64 bl, .int .i64 v, .slice a zs.length c]] w fun r w' => r = .returned (.tuple #[.string (strOf bx), .int .i64 ec]) ∧ Below w.heap.size w w' := by
  rcases hm with ⟨h, rfl, rfl⟩ | ⟨h, rfl, rfl⟩
  · exact rencode_yes k f e b wa p s q bl v a c zs w bk bv h1 h
  · exact rencode_no k f e b wa p s q bl v a c zs w (by omega) bk bv h1 h
end Go.Proofs.YtdcainmlcpafbaaGreatDoor
