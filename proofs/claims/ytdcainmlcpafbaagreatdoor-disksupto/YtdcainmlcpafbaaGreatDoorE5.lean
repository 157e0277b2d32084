import Derived.Test.YtdcainmlcpafbaaGreatDoorC1
import Derived.Test.YtdcainmlcpafbaaGreatDoorB2
import Derived.Laws.IdiomStrings
import Derived.Laws.BytesArg
import Derived.Deep.RegionHeld3
import Derived.Deep.CutRange
namespace Go.Proofs.YtdcainmlcpafbaaGreatDoor
open Go.RowKit

theorem strOf_append (a b : List UInt8) : strOf a ++ strOf b = strOf (a ++ b) := by
  apply ByteArray.ext
  rw [ByteArray.data_append]
  simp [strOf]
theorem strOf_size (a : List UInt8) : (strOf a).size = a.length := by show a.toArray.size = _; simp
theorem conv1 (W : World) (X : Nat) (x : UInt8) (h : W.cell? ⟨X, 0, none⟩ = some (.int .u8 (x.toNat : Int))) : (convert 148 9 (.slice (some ⟨X, 0, none⟩) 1 1)).run Tryz.prog W = .ok (.string (strOf [x])) W :=
  run_convert_bytes_back W 148 9 5 ⟨X, 0, none⟩ 1 [x] Tryz.underlying148 Tryz.underlying5 Tryz.underlying9 (fun j hj => by
    have hj : j = 0 := by simpa using hj
    subst hj
    simpa [Addr.add] using h)
theorem conv2 (W : World) (X : Nat) (x y : UInt8) (h : W.cell? ⟨X, 0, none⟩ = some (.int .u8 (x.toNat : Int))) (h' : W.cell? ⟨X, 1, none⟩ = some (.int .u8 (y.toNat : Int))) : (convert 148 9 (.slice (some ⟨X, 0, none⟩) 2 2)).run Tryz.prog W = .ok (.string (strOf [x, y])) W :=
  run_convert_bytes_back W 148 9 5 ⟨X, 0, none⟩ 2 [x, y] Tryz.underlying148 Tryz.underlying5 Tryz.underlying9 (fun j hj => by
    have hj : j < 2 := by simpa using hj
    match j, hj with
    | 0, _ => simpa [Addr.add] using h
    | 1, _ => simpa [Addr.add] using h')
theorem byte_of (n : Int) : n % 256 = ((byteN n 0).toNat : Int) := by
  unfold byteN
  rw [UInt8.toNat_ofNat']
  simp only [Nat.mul_zero, Int.pow_zero, Int.ediv_one]
  omega
theorem byteN_div (n : Int) (k : Nat) : byteN (n / 2 ^ (8 * k)) 0 = byteN n k := by
  unfold byteN
  simp

set_option maxHeartbeats 1000000 in
set_option maxRecDepth 20000 in
theorem eight_any (n : Int) (w : World) :
    Calls Tryz.prog 155 #[.int .i64 n] w fun e w' => e = .returned (.string (strOf (be n 8))) ∧ Below w.heap.size w w' := by
  go_enter Tryz.func155, Tryz.ntmps155
  go_wp2
  go_loopw [0, 3, 4] (fun m s i wr => ∃ k : Nat, k ≤ 8 ∧ i = .int .i64 k ∧ m = .int .i64 (n / 2 ^ (8 * k)) ∧ s = .string (strOf (be n k)) ∧ Below w.heap.size w wr) (fun _ _ i _ => 8 - (intOf i).toNat)
  case atStart => exact ⟨0, by omega, rfl, by simp, rfl, Below.refl _ _⟩
  case round =>
    obtain ⟨k, hk, rfl, rfl, rfl, hb⟩ := hrel
    by_cases hlt : k < 8
    · have HS : Hid (strOf [byteN n k] ++ strOf (be n k) = strOf (be n (k + 1))) := strOf_append _ _
      have HD : Hid (n / 2 ^ (8 * (k + 1)) = n / 2 ^ (8 * k) / 256) := by
        unfold Hid
        rw [show 8 * (k + 1) = 8 * k + 8 by omega, Int.pow_add, Int.ediv_ediv_of_nonneg (Int.pow_nonneg (by omega))]
        rfl
      have hB : n / 2 ^ (8 * k) % 256 = ((byteN n k).toNat : Int) := by rw [byte_of, byteN_div]
      have hsz : (strOf [byteN n k]).size + (strOf (be n k)).size ≤ 16 := by rw [strOf_size, strOf_size, be_length]; simp; omega
      generalize n / 2 ^ (8 * k) = m at HD hB ⊢
      generalize hm' : n / 2 ^ (8 * (k + 1)) = m' at HD
      generalize strOf (be n k) = S at HS hsz ⊢
      generalize hS' : strOf (be n (k + 1)) = S' at HS
      generalize byteN n k = x at HS hB hsz ⊢
      have hcv := conv1 (wr.alloc (Obj.cells #[Value.int IntKind.u8 (m % 256)] 5)) wr.heap.size x (by
        rw [World.cell?_alloc_at _ _ _ _ rfl, hB]; rfl)
      have HB : Hid (m % 256 = (x.toNat : Int)) := hB
      clear hB
      go_wp2
      go_round
      case rel => exact ⟨k + 1, by omega, by go_num, by rw [← HD.out, hm'], by rw [HS.out, hS'], hb.alloc hb.size _⟩
      case measure => simp [intOf]; omega
    · have hk8 : k = 8 := by omega
      subst hk8
      go_wp2
      go_ret
      exact ⟨rfl, hb⟩

/-- The document's sum: behind k bytes. -/
def rc (bs : List UInt8) : Nat → Int
  | 0 => (bs.length : Int) % 65521
  | k + 1 => (rc bs k + ((bs.getD k 0).toNat : Int) * (((bs.length : Int) - k) % 65521)) % 65521
theorem rc_bd (bs : List UInt8) : ∀ k, 0 ≤ rc bs k ∧ rc bs k < 65521 := by
  intro k
  cases k with
  | zero => simp only [rc]; omega
  | succ k => simp only [rc]; omega
def vW (bs : List UInt8) : Nat → Int
  | 0 => 0
  | k + 1 => vW bs k + ((bs.getD k 0).toNat : Int) * ((bs.length : Int) - k)
theorem rc_vW (bs : List UInt8) : ∀ k, rc bs k = ((bs.length : Int) + vW bs k) % 65521 := by
  intro k
  induction k with
  | zero => simp [rc, vW]
  | succ k ih =>
    simp only [rc, vW, ih]
    rw [Int.add_emod, Int.emod_emod, Int.mul_emod, Int.emod_emod, ← Int.mul_emod, ← Int.add_emod, Int.add_assoc]
def wW : List UInt8 → Int
  | [] => 0
  | x :: r => (x.toNat : Int) * ((r.length : Int) + 1) + wW r
theorem vW_wW (bs : List UInt8) : ∀ k, k ≤ bs.length → vW bs k + wW (bs.drop k) = wW bs := by
  intro k
  induction k with
  | zero => intro _; simp [vW]
  | succ k ih =>
    intro h
    rw [← ih (by omega)]
    have hd : bs.drop k = bs[k] :: bs.drop (k + 1) := List.drop_eq_getElem_cons (by omega)
    rw [hd]
    simp only [vW, wW, List.length_drop]
    rw [List.getD_eq_getElem?_getD, List.getElem?_eq_getElem (by omega), Option.getD_some]
    have : ((bs.length - (k + 1) : Nat) : Int) + 1 = (bs.length : Int) - k := by omega
    rw [this]
    omega
theorem fold_c (bs : List UInt8) : ∀ a c : Int, (bs.foldl sumStep (a, c)).2 % 65521 = (c + (bs.length : Int) * a + wW bs) % 65521 := by
  induction bs with
  | nil => intro a c; simp [wW]
  | cons x r ih =>
    intro a c
    simp only [List.foldl_cons, sumStep, ih, wW, List.length_cons]
    have e1 : ∀ y : Int, ∃ q, y % 65521 = y - 65521 * q := fun y => ⟨y / 65521, by omega⟩
    obtain ⟨q1, h1⟩ := e1 (a + (x.toNat : Int))
    rw [h1]
    obtain ⟨q2, h2⟩ := e1 (c + (a + (x.toNat : Int) - 65521 * q1))
    rw [h2]
    apply Int.emod_emod_of_dvd _ (Int.dvd_refl _) |>.symm.trans
    have : c + (a + ↑x.toNat - 65521 * q1) - 65521 * q2 + ↑r.length * (a + ↑x.toNat - 65521 * q1) + wW r = c + (↑(r.length + 1)) * a + (↑x.toNat * (↑r.length + 1) + wW r) + 65521 * (- q1 - q2 - r.length * q1) := by
      push_cast
      simp only [Int.mul_add, Int.add_mul, Int.mul_sub, Int.mul_one, Int.one_mul]
      have h3 : (r.length : Int) * (65521 * q1) = 65521 * (r.length * q1) := by rw [← Int.mul_assoc, ← Int.mul_assoc, Int.mul_comm (r.length : Int) 65521]
      have h4 : (r.length : Int) * (x.toNat : Int) = (x.toNat : Int) * r.length := Int.mul_comm _ _
      omega
    rw [this]
    omega
theorem rc_sum (bs : List UInt8) : 65536 * rc bs bs.length + (sumOf bs).1 = sumNum bs := by
  have h := fold_c bs 1 0
  have h1 := sumOf_bd bs
  have e : rc bs bs.length = (sumOf bs).2 := by
    rw [rc_vW]
    have := vW_wW bs bs.length (Nat.le_refl _)
    rw [List.drop_length] at this
    simp only [wW] at this
    have e2 : (sumOf bs).2 % 65521 = (0 + (bs.length : Int) * 1 + wW bs) % 65521 := h
    omega
  rw [e]; rfl

theorem w64 (z : Int) (h1 : -9223372036854775808 ≤ z) (h2 : z ≤ 9223372036854775807) : wrap64 z = z := by unfold wrap64; omega
theorem sa_step (A : Int) (X : Nat) (h1 : 0 ≤ A) (h2 : A < 65521) (hX : X < 256) : (wrap64 (A + wrap64 (X : Int))).tmod 65521 = (A + X) % 65521 := by
  rw [w64 X (by omega) (by omega), w64 _ (by omega) (by omega), Int.tmod_eq_emod_of_nonneg (by omega)]
theorem sc_step (C Y : Int) (X : Nat) (h1 : 0 ≤ C) (h2 : C < 65521) (hX : X < 256) (h3 : 0 ≤ Y) (h4 : Y < 65521) : (wrap64 (C + wrap64 (wrap64 (X : Int) * Y))).tmod 65521 = (C + X * Y) % 65521 := by
  have h5 : 0 ≤ (X : Int) * Y := Int.mul_nonneg (by omega) h3
  have h6 : (X : Int) * Y ≤ 256 * 65521 := Int.mul_le_mul (by omega) (by omega) h3 (by omega)
  rw [w64 X (by omega) (by omega), w64 (X * Y) (by omega) (by omega), w64 _ (by omega) (by omega), Int.tmod_eq_emod_of_nonneg (by omega)]
theorem strOf_at (bs : List UInt8) (k : Nat) (_h : k < bs.length) (h' : k < (strOf bs).size) : (strOf bs)[k] = bs[k] := rfl
set_option maxHeartbeats 1000000 in
set_option maxRecDepth 20000 in
theorem rsum_any (bs : List UInt8) (w : World) (hlen : bs.length ≤ 140737488355328) :
    Calls Tryz.prog 156 #[.string (strOf bs)] w fun e w' => e = .returned (.int .i64 (sumNum bs)) ∧ w' = w := by
  have HF : Hid (65536 * rc bs bs.length + (sumOf bs).1 = sumNum bs) := rc_sum bs
  have hsz : (strOf bs).size = bs.length := strOf_size bs
  go_enter Tryz.func156, Tryz.ntmps156
  go_wp2
  go_loop [3, 4, 5] (fun a c i => ∃ k : Nat, k ≤ bs.length ∧ i = .int .i64 k ∧ a = .int .i64 (sumOf (bs.take k)).1 ∧ c = .int .i64 (rc bs k)) (fun _ _ i => bs.length - (intOf i).toNat)
  case atStart => exact ⟨0, by omega, rfl, rfl, rfl⟩
  case round =>
    obtain ⟨k, hk, rfl, rfl, rfl⟩ := hrel
    have hA := sumOf_bd (bs.take k)
    have hC := rc_bd bs k
    by_cases hlt : k < bs.length
    · have HA : Hid ((sumOf (bs.take (k + 1))).1 = ((sumOf (bs.take k)).1 + (bs[k].toNat : Int)) % 65521) := by
        unfold Hid
        rw [take_snoc bs k hlt, sumOf_snoc]
        rfl
      have HC : Hid (rc bs (k + 1) = (rc bs k + (bs[k].toNat : Int) * (((bs.length : Int) - k) % 65521)) % 65521) := by
        unfold Hid
        simp only [rc]
        rw [List.getD_eq_getElem?_getD, List.getElem?_eq_getElem hlt, Option.getD_some]
      generalize (sumOf (bs.take k)).1 = A at *
      generalize rc bs k = C at *
      go_wp2
      have e1 := strOf_at bs k hlt (by omega)
      have hX := UInt8.toNat_lt bs[k]
      rw [e1, sa_step A _ (by omega) (by omega) (by omega), sc_step C _ _ (by omega) (by omega) (by omega) (by omega) (by omega)]
      go_round
      case rel => exact ⟨k + 1, by omega, by go_num, by rw [HA.out]; rfl, by rw [HC.out]; rfl⟩
      case measure => simp [intOf]; omega
    · have hkn : k = bs.length := by omega
      subst hkn
      have HT : Hid (bs.take bs.length = bs) := List.take_length
      rw [HT.out] at hA ⊢
      generalize (sumOf bs).1 = A at *
      generalize rc bs bs.length = C at *
      go_wp2
      go_ret
      exact ⟨ret_int HF.out, rfl⟩
end Go.Proofs.YtdcainmlcpafbaaGreatDoor
