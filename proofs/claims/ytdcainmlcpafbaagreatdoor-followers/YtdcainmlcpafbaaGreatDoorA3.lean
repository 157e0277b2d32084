import Derived.Test.YtdcainmlcpafbaaGreatDoorA2
namespace Go.Proofs.YtdcainmlcpafbaaGreatDoor
open Go.RowKit

def byteN (n : Int) (i : Nat) : UInt8 := UInt8.ofNat (n / 2 ^ (8 * i) % 256).toNat
def be (n : Int) : Nat → List UInt8
  | 0 => []
  | k + 1 => byteN n k :: be n k
theorem be_length (n : Int) (k : Nat) : (be n k).length = k := by induction k with
  | zero => rfl
  | succ k ih => simp [be, ih]

theorem info5 : (Tryz.prog.info? 5).map (fun i => (i.zero, i.size, i.bytes)) = some (some (.int .u8 0), 1, 1) := by kernel_rfl
def bvs (l : List UInt8) : List Value := l.map fun x => Value.int .u8 (x.toNat : Int)

theorem byteN_toNat (n : Int) (k : Nat) (hk : k < 8) : IntKind.u64.wrap n / 2 ^ (8 * k) % 256 = ((byteN n k).toNat : Int) := by
  have e : ((byteN n k).toNat : Int) = n / 2 ^ (8 * k) % 256 := by
    unfold byteN
    rw [UInt8.toNat_ofNat']
    have h0 : 0 ≤ n / 2 ^ (8 * k) % 256 := Int.emod_nonneg _ (by omega)
    have h1 : n / 2 ^ (8 * k) % 256 < 256 := Int.emod_lt_of_pos _ (by omega)
    omega
  rw [e, IntKind.wrap_u64]
  match k, hk with
  | 0, _ => simp only [Nat.mul_zero, Int.pow_zero]; omega
  | 1, _ => show n % 18446744073709551616 / 256 % 256 = n / 256 % 256; omega
  | 2, _ => show n % 18446744073709551616 / 65536 % 256 = n / 65536 % 256; omega
  | 3, _ => show n % 18446744073709551616 / 16777216 % 256 = n / 16777216 % 256; omega
  | 4, _ => show n % 18446744073709551616 / 4294967296 % 256 = n / 4294967296 % 256; omega
  | 5, _ => show n % 18446744073709551616 / 1099511627776 % 256 = n / 1099511627776 % 256; omega
  | 6, _ => show n % 18446744073709551616 / 281474976710656 % 256 = n / 281474976710656 % 256; omega
  | 7, _ => show n % 18446744073709551616 / 72057594037927936 % 256 = n / 72057594037927936 % 256; omega

/-- A slice that owns just these bytes. -/
def OwnB (w : World) (base : Nat) (v : Value) (bs : List UInt8) : Prop := w.ownsRow base 5 1 v bs.length (bvs bs)
theorem bvs_append (a b : List UInt8) : bvs (a ++ b) = bvs a ++ bvs b := by simp [bvs]

set_option maxHeartbeats 400000 in
theorem appendNumber_any (n : Int) (width : Nat) (hw8 : width ≤ 8) (base : Nat) (v : Value) (xs : List UInt8) (w : World) (hlen : xs.length ≤ 1000000)
    (hown : OwnB w base v xs) (hbase : base ≤ w.heap.size) :
    Calls Tryz.prog 213 #[v, .int .i64 n, .int .i64 width] w fun e w' => ∃ v', e = .returned v' ∧ OwnB w' base v' (xs ++ be n width) ∧ Below base w w' := by
  obtain ⟨i0, hi, hz0, hz1, hz2⟩ := info_parts info5
  go_enter Tryz.func213, Tryz.ntmps213
  go_wp2
  go_loopw [0, 7] (fun s i wr => ∃ (k : Nat) (dn : List UInt8), k ≤ width ∧ i = .int .i64 ((k : Int) - 1) ∧ dn ++ be n k = be n width ∧ OwnB wr base s (xs ++ dn) ∧ Below base w wr ∧ base ≤ wr.heap.size)
    (fun _ i _ => (intOf i + 1).toNat)
  case atStart => exact ⟨width, [], Nat.le_refl _, rfl, rfl, by simpa using hown, Below.refl _ _, hbase⟩
  case round =>
    obtain ⟨k, dn, hk, rfl, hd, ho, hb, hs⟩ := hrel
    have HD : Hid (dn ++ be n k = be n width) := hd
    clear hd
    cases k with
    | zero =>
      have hdn : dn = be n width := by simpa [be] using HD.out
      subst hdn
      clear HD
      have hx : ∃ a l c, u0 = .slice a l c := by
        rcases ho.2 with ⟨h, _⟩ | ⟨g, cap, _, h, _⟩
        · exact ⟨_, _, _, h⟩
        · exact ⟨_, _, _, h⟩
      obtain ⟨a, l, c, rfl⟩ := hx
      go_wp2
      go_ret
      exact ⟨_, rfl, ho, hb⟩
    | succ k =>
      have HB := byteN_toNat n k (by omega)
      have HB' : Hid (IntKind.u64.wrap n / 2 ^ (8 * k) % 256 = ((byteN n k).toNat : Int)) := HB
      clear HB
      have hdl : dn.length + (k + 1) = width := by have := congrArg List.length HD.out; simpa [be_length] using this
      go_wp2_with (at_builtin; refine wpList_append_own _ rfl _ _ 148 rfl base 5 i0 (.int .u8 0) 1 1 Tryz.underlying148 hi hz0 hz1 hz2 rfl (by decide) _ _ _ rfl (World.ownsRow.alloc ho _) ⟨wr.heap.size, 0, none⟩ 1 1 [.int .u8 (IntKind.u64.wrap n / 2 ^ (8 * k) % 256)] rfl rfl (cell_one_new _ _ _) ?c2 ?c3 ?c4 ?c5 ?_)
      case c2 => intro u hu; simp at hu; subst hu; rfl
      case c3 => unfold maxLen; simp; omega
      case c4 => simp; omega
      case c5 => simp; omega
      · intro v' w1 ho' hg _
        rw [HB'.out] at ho'
        have ho2 : OwnB w1 base v' (xs ++ (dn ++ [byteN n k])) := by
          unfold OwnB
          have e1 : (xs ++ (dn ++ [byteN n k])).length = xs.length + dn.length + 1 := by simp; omega
          have e2 : bvs (xs ++ (dn ++ [byteN n k])) = bvs (xs ++ dn) ++ [Value.int .u8 ((byteN n k).toNat : Int)] := by simp [bvs]
          rw [e1, e2]; exact ho'
        have hb2 : Below base w w1 := (hb.alloc hs _).grown hg (by simp; omega) (fun g hg => (World.ownsRow.lt ho g hg).1)
        have hs2 : base ≤ w1.heap.size := by have := hg.size; simp at this; omega
        have HD2 : Hid ((dn ++ [byteN n k]) ++ be n k = be n width) := by have := HD.out; simpa [be, Hid] using this
        clear ho' hg ho hb hs HD HB'
        go_wp2
        go_roundw
        case rel => exact ⟨k, dn ++ [byteN n k], by omega, by go_num, HD2.out, ho2, hb2, hs2⟩
        case measure => simp [intOf]

end Go.Proofs.YtdcainmlcpafbaaGreatDoor
