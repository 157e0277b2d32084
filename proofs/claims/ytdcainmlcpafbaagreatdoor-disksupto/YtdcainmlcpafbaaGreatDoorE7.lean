import Derived.Test.YtdcainmlcpafbaaGreatDoorE6
namespace Go.Proofs.YtdcainmlcpafbaaGreatDoor
open Go.RowKit

set_option maxHeartbeats 1000000 in
set_option maxRecDepth 20000 in
theorem only_low (k f e b wa p s q bl v : Int) (a : Option Addr) (n c : Nat) (w : World) (h : k < 1) :
    Calls Tryz.prog 153 #[.agg #[.int .i64 k, .int .i64 f, .int .i64 e, .int .i64 b, .int .i64 wa, .int .i64 p, .int .i64 s, .int .i64 q, .int .i64 bl, .int .i64 v, .slice a n c]] w fun r w' => r = .returned (.agg #[(.int .i64 k), (.int .i64 f), (.int .i64 e), (.int .i64 0), (.int .i64 0), (.int .i64 0), (.int .i64 0), (.int .i64 0), (.int .i64 0), (.int .i64 0), (.slice none 0 0)]) ∧ Below w.heap.size w w' := by
  have h2 : (k == 2) = false := by simp; omega
  have h3 : (k == 3) = false := by simp; omega
  have h5 : (k == 5) = false := by simp; omega
  have h6 : (k == 6) = false := by simp; omega
  have h7 : (k == 7) = false := by simp; omega
  have h9 : (k == 9) = false := by simp; omega
  go_enter Tryz.func153, Tryz.ntmps153
  go_wp2
  exact bodyPost_ret (v := .agg #[(.int .i64 k), (.int .i64 f), (.int .i64 e), (.int .i64 0), (.int .i64 0), (.int .i64 0), (.int .i64 0), (.int .i64 0), (.int .i64 0), (.int .i64 0), (.slice none 0 0)]) (by simp [results, Tryz.results153, go_sem]) rfl ⟨rfl, (((Below.refl _ _).alloc (Nat.le_refl _) _).alloc (by simp) _).alloc (by simp; omega) _⟩
set_option maxHeartbeats 1000000 in
set_option maxRecDepth 20000 in
theorem only_high (k f e b wa p s q bl v : Int) (a : Option Addr) (n c : Nat) (w : World) (h : 10 < k) :
    Calls Tryz.prog 153 #[.agg #[.int .i64 k, .int .i64 f, .int .i64 e, .int .i64 b, .int .i64 wa, .int .i64 p, .int .i64 s, .int .i64 q, .int .i64 bl, .int .i64 v, .slice a n c]] w fun r w' => r = .returned (.agg #[(.int .i64 k), (.int .i64 f), (.int .i64 e), (.int .i64 0), (.int .i64 0), (.int .i64 0), (.int .i64 0), (.int .i64 0), (.int .i64 0), (.int .i64 0), (.slice none 0 0)]) ∧ Below w.heap.size w w' := by
  have h2 : (k == 2) = false := by simp; omega
  have h3 : (k == 3) = false := by simp; omega
  have h5 : (k == 5) = false := by simp; omega
  have h6 : (k == 6) = false := by simp; omega
  have h7 : (k == 7) = false := by simp; omega
  have h9 : (k == 9) = false := by simp; omega
  go_enter Tryz.func153, Tryz.ntmps153
  go_wp2
  exact bodyPost_ret (v := .agg #[(.int .i64 k), (.int .i64 f), (.int .i64 e), (.int .i64 0), (.int .i64 0), (.int .i64 0), (.int .i64 0), (.int .i64 0), (.int .i64 0), (.int .i64 0), (.slice none 0 0)]) (by simp [results, Tryz.results153, go_sem]) rfl ⟨rfl, (((Below.refl _ _).alloc (Nat.le_refl _) _).alloc (by simp) _).alloc (by simp; omega) _⟩
set_option maxHeartbeats 1000000 in
set_option maxRecDepth 20000 in
theorem only_1 (f e b wa p s q bl v : Int) (a : Option Addr) (n c : Nat) (w : World) :
    Calls Tryz.prog 153 #[.agg #[.int .i64 1, .int .i64 f, .int .i64 e, .int .i64 b, .int .i64 wa, .int .i64 p, .int .i64 s, .int .i64 q, .int .i64 bl, .int .i64 v, .slice a n c]] w fun r w' => r = .returned (.agg #[(.int .i64 1), (.int .i64 f), (.int .i64 e), (.int .i64 b), (.int .i64 0), (.int .i64 0), (.int .i64 0), (.int .i64 0), (.int .i64 0), (.int .i64 0), (.slice none 0 0)]) ∧ Below w.heap.size w w' := by
  go_enter Tryz.func153, Tryz.ntmps153
  go_wp2
  exact bodyPost_ret (v := .agg #[(.int .i64 1), (.int .i64 f), (.int .i64 e), (.int .i64 b), (.int .i64 0), (.int .i64 0), (.int .i64 0), (.int .i64 0), (.int .i64 0), (.int .i64 0), (.slice none 0 0)]) (by simp [results, Tryz.results153, go_sem]) rfl ⟨rfl, (((Below.refl _ _).alloc (Nat.le_refl _) _).alloc (by simp) _).alloc (by simp; omega) _⟩
set_option maxHeartbeats 1000000 in
set_option maxRecDepth 20000 in
theorem only_2 (f e b wa p s q bl v : Int) (a : Option Addr) (n c : Nat) (w : World) :
    Calls Tryz.prog 153 #[.agg #[.int .i64 2, .int .i64 f, .int .i64 e, .int .i64 b, .int .i64 wa, .int .i64 p, .int .i64 s, .int .i64 q, .int .i64 bl, .int .i64 v, .slice a n c]] w fun r w' => r = .returned (.agg #[(.int .i64 2), (.int .i64 f), (.int .i64 e), (.int .i64 b), (.int .i64 wa), (.int .i64 p), (.int .i64 s), (.int .i64 0), (.int .i64 0), (.int .i64 0), (.slice none 0 0)]) ∧ Below w.heap.size w w' := by
  go_enter Tryz.func153, Tryz.ntmps153
  go_wp2
  exact bodyPost_ret (v := .agg #[(.int .i64 2), (.int .i64 f), (.int .i64 e), (.int .i64 b), (.int .i64 wa), (.int .i64 p), (.int .i64 s), (.int .i64 0), (.int .i64 0), (.int .i64 0), (.slice none 0 0)]) (by simp [results, Tryz.results153, go_sem]) rfl ⟨rfl, (((Below.refl _ _).alloc (Nat.le_refl _) _).alloc (by simp) _).alloc (by simp; omega) _⟩
set_option maxHeartbeats 1000000 in
set_option maxRecDepth 20000 in
theorem only_3 (f e b wa p s q bl v : Int) (a : Option Addr) (n c : Nat) (w : World) :
    Calls Tryz.prog 153 #[.agg #[.int .i64 3, .int .i64 f, .int .i64 e, .int .i64 b, .int .i64 wa, .int .i64 p, .int .i64 s, .int .i64 q, .int .i64 bl, .int .i64 v, .slice a n c]] w fun r w' => r = .returned (.agg #[(.int .i64 3), (.int .i64 f), (.int .i64 e), (.int .i64 b), (.int .i64 0), (.int .i64 p), (.int .i64 s), (.int .i64 0), (.int .i64 0), (.int .i64 0), (.slice none 0 0)]) ∧ Below w.heap.size w w' := by
  go_enter Tryz.func153, Tryz.ntmps153
  go_wp2
  exact bodyPost_ret (v := .agg #[(.int .i64 3), (.int .i64 f), (.int .i64 e), (.int .i64 b), (.int .i64 0), (.int .i64 p), (.int .i64 s), (.int .i64 0), (.int .i64 0), (.int .i64 0), (.slice none 0 0)]) (by simp [results, Tryz.results153, go_sem]) rfl ⟨rfl, (((Below.refl _ _).alloc (Nat.le_refl _) _).alloc (by simp) _).alloc (by simp; omega) _⟩
set_option maxHeartbeats 1000000 in
set_option maxRecDepth 20000 in
theorem only_4 (f e b wa p s q bl v : Int) (a : Option Addr) (n c : Nat) (w : World) :
    Calls Tryz.prog 153 #[.agg #[.int .i64 4, .int .i64 f, .int .i64 e, .int .i64 b, .int .i64 wa, .int .i64 p, .int .i64 s, .int .i64 q, .int .i64 bl, .int .i64 v, .slice a n c]] w fun r w' => r = .returned (.agg #[(.int .i64 4), (.int .i64 f), (.int .i64 e), (.int .i64 b), (.int .i64 0), (.int .i64 0), (.int .i64 0), (.int .i64 0), (.int .i64 0), (.int .i64 0), (.slice none 0 0)]) ∧ Below w.heap.size w w' := by
  go_enter Tryz.func153, Tryz.ntmps153
  go_wp2
  exact bodyPost_ret (v := .agg #[(.int .i64 4), (.int .i64 f), (.int .i64 e), (.int .i64 b), (.int .i64 0), (.int .i64 0), (.int .i64 0), (.int .i64 0), (.int .i64 0), (.int .i64 0), (.slice none 0 0)]) (by simp [results, Tryz.results153, go_sem]) rfl ⟨rfl, (((Below.refl _ _).alloc (Nat.le_refl _) _).alloc (by simp) _).alloc (by simp; omega) _⟩
set_option maxHeartbeats 1000000 in
set_option maxRecDepth 20000 in
theorem only_5 (f e b wa p s q bl v : Int) (a : Option Addr) (n c : Nat) (w : World) :
    Calls Tryz.prog 153 #[.agg #[.int .i64 5, .int .i64 f, .int .i64 e, .int .i64 b, .int .i64 wa, .int .i64 p, .int .i64 s, .int .i64 q, .int .i64 bl, .int .i64 v, .slice a n c]] w fun r w' => r = .returned (.agg #[(.int .i64 5), (.int .i64 f), (.int .i64 e), (.int .i64 b), (.int .i64 wa), (.int .i64 0), (.int .i64 0), (.int .i64 0), (.int .i64 0), (.int .i64 0), (.slice none 0 0)]) ∧ Below w.heap.size w w' := by
  go_enter Tryz.func153, Tryz.ntmps153
  go_wp2
  exact bodyPost_ret (v := .agg #[(.int .i64 5), (.int .i64 f), (.int .i64 e), (.int .i64 b), (.int .i64 wa), (.int .i64 0), (.int .i64 0), (.int .i64 0), (.int .i64 0), (.int .i64 0), (.slice none 0 0)]) (by simp [results, Tryz.results153, go_sem]) rfl ⟨rfl, (((Below.refl _ _).alloc (Nat.le_refl _) _).alloc (by simp) _).alloc (by simp; omega) _⟩
set_option maxHeartbeats 1000000 in
set_option maxRecDepth 20000 in
theorem only_6 (f e b wa p s q bl v : Int) (a : Option Addr) (n c : Nat) (w : World) :
    Calls Tryz.prog 153 #[.agg #[.int .i64 6, .int .i64 f, .int .i64 e, .int .i64 b, .int .i64 wa, .int .i64 p, .int .i64 s, .int .i64 q, .int .i64 bl, .int .i64 v, .slice a n c]] w fun r w' => r = .returned (.agg #[(.int .i64 6), (.int .i64 f), (.int .i64 e), (.int .i64 0), (.int .i64 0), (.int .i64 p), (.int .i64 s), (.int .i64 0), (.int .i64 0), (.int .i64 0), (.slice none 0 0)]) ∧ Below w.heap.size w w' := by
  go_enter Tryz.func153, Tryz.ntmps153
  go_wp2
  exact bodyPost_ret (v := .agg #[(.int .i64 6), (.int .i64 f), (.int .i64 e), (.int .i64 0), (.int .i64 0), (.int .i64 p), (.int .i64 s), (.int .i64 0), (.int .i64 0), (.int .i64 0), (.slice none 0 0)]) (by simp [results, Tryz.results153, go_sem]) rfl ⟨rfl, (((Below.refl _ _).alloc (Nat.le_refl _) _).alloc (by simp) _).alloc (by simp; omega) _⟩
set_option maxHeartbeats 1000000 in
set_option maxRecDepth 20000 in
theorem only_7 (f e b wa p s q bl v : Int) (a : Option Addr) (n c : Nat) (w : World) :
    Calls Tryz.prog 153 #[.agg #[.int .i64 7, .int .i64 f, .int .i64 e, .int .i64 b, .int .i64 wa, .int .i64 p, .int .i64 s, .int .i64 q, .int .i64 bl, .int .i64 v, .slice a n c]] w fun r w' => r = .returned (.agg #[(.int .i64 7), (.int .i64 f), (.int .i64 e), (.int .i64 0), (.int .i64 0), (.int .i64 0), (.int .i64 0), (.int .i64 q), (.int .i64 bl), (.int .i64 v), (.slice none 0 0)]) ∧ Below w.heap.size w w' := by
  go_enter Tryz.func153, Tryz.ntmps153
  go_wp2
  exact bodyPost_ret (v := .agg #[(.int .i64 7), (.int .i64 f), (.int .i64 e), (.int .i64 0), (.int .i64 0), (.int .i64 0), (.int .i64 0), (.int .i64 q), (.int .i64 bl), (.int .i64 v), (.slice none 0 0)]) (by simp [results, Tryz.results153, go_sem]) rfl ⟨rfl, (((Below.refl _ _).alloc (Nat.le_refl _) _).alloc (by simp) _).alloc (by simp; omega) _⟩
set_option maxHeartbeats 1000000 in
set_option maxRecDepth 20000 in
theorem only_8 (f e b wa p s q bl v : Int) (a : Option Addr) (n c : Nat) (w : World) :
    Calls Tryz.prog 153 #[.agg #[.int .i64 8, .int .i64 f, .int .i64 e, .int .i64 b, .int .i64 wa, .int .i64 p, .int .i64 s, .int .i64 q, .int .i64 bl, .int .i64 v, .slice a n c]] w fun r w' => r = .returned (.agg #[(.int .i64 8), (.int .i64 f), (.int .i64 e), (.int .i64 0), (.int .i64 0), (.int .i64 0), (.int .i64 0), (.int .i64 q), (.int .i64 0), (.int .i64 0), (.slice none 0 0)]) ∧ Below w.heap.size w w' := by
  go_enter Tryz.func153, Tryz.ntmps153
  go_wp2
  exact bodyPost_ret (v := .agg #[(.int .i64 8), (.int .i64 f), (.int .i64 e), (.int .i64 0), (.int .i64 0), (.int .i64 0), (.int .i64 0), (.int .i64 q), (.int .i64 0), (.int .i64 0), (.slice none 0 0)]) (by simp [results, Tryz.results153, go_sem]) rfl ⟨rfl, (((Below.refl _ _).alloc (Nat.le_refl _) _).alloc (by simp) _).alloc (by simp; omega) _⟩
set_option maxHeartbeats 1000000 in
set_option maxRecDepth 20000 in
theorem only_9 (f e b wa p s q bl v : Int) (a : Option Addr) (n c : Nat) (w : World) :
    Calls Tryz.prog 153 #[.agg #[.int .i64 9, .int .i64 f, .int .i64 e, .int .i64 b, .int .i64 wa, .int .i64 p, .int .i64 s, .int .i64 q, .int .i64 bl, .int .i64 v, .slice a n c]] w fun r w' => r = .returned (.agg #[(.int .i64 9), (.int .i64 f), (.int .i64 e), (.int .i64 0), (.int .i64 0), (.int .i64 0), (.int .i64 0), (.int .i64 q), (.int .i64 0), (.int .i64 0), (.slice a n c)]) ∧ Below w.heap.size w w' := by
  go_enter Tryz.func153, Tryz.ntmps153
  go_wp2
  exact bodyPost_ret (v := .agg #[(.int .i64 9), (.int .i64 f), (.int .i64 e), (.int .i64 0), (.int .i64 0), (.int .i64 0), (.int .i64 0), (.int .i64 q), (.int .i64 0), (.int .i64 0), (.slice a n c)]) (by simp [results, Tryz.results153, go_sem]) rfl ⟨rfl, (((Below.refl _ _).alloc (Nat.le_refl _) _).alloc (by simp) _).alloc (by simp; omega) _⟩
set_option maxHeartbeats 1000000 in
set_option maxRecDepth 20000 in
theorem only_10 (f e b wa p s q bl v : Int) (a : Option Addr) (n c : Nat) (w : World) :
    Calls Tryz.prog 153 #[.agg #[.int .i64 10, .int .i64 f, .int .i64 e, .int .i64 b, .int .i64 wa, .int .i64 p, .int .i64 s, .int .i64 q, .int .i64 bl, .int .i64 v, .slice a n c]] w fun r w' => r = .returned (.agg #[(.int .i64 10), (.int .i64 f), (.int .i64 e), (.int .i64 0), (.int .i64 0), (.int .i64 0), (.int .i64 0), (.int .i64 q), (.int .i64 0), (.int .i64 0), (.slice none 0 0)]) ∧ Below w.heap.size w w' := by
  go_enter Tryz.func153, Tryz.ntmps153
  go_wp2
  exact bodyPost_ret (v := .agg #[(.int .i64 10), (.int .i64 f), (.int .i64 e), (.int .i64 0), (.int .i64 0), (.int .i64 0), (.int .i64 0), (.int .i64 q), (.int .i64 0), (.int .i64 0), (.slice none 0 0)]) (by simp [results, Tryz.results153, go_sem]) rfl ⟨rfl, (((Below.refl _ _).alloc (Nat.le_refl _) _).alloc (by simp) _).alloc (by simp; omega) _⟩
end Go.Proofs.YtdcainmlcpafbaaGreatDoor
