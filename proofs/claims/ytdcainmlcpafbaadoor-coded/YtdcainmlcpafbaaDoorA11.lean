import Derived.Test.YtdcainmlcpafbaaDoorA10
import Derived.Deep.RegionHeld3
import Derived.Deep.RegionLaw
import Derived.Deep.RegionLawGrows
import Derived.Deep.CutRange
namespace Go.Proofs.YtdcainmlcpafbaaDoor
open Go.RowKit

def tB (k B : Int) : Int := if k ≤ 5 then raw B % 1000000000001 else 0
def tW (k B : Int) : Int := if k = 2 ∨ k = 5 then raw B % 1000000000001 else 0
def tP (k B : Int) : Int := if k = 2 ∨ k = 3 ∨ k = 6 then raw B % 6 else 0
def tS (k B : Int) : Int := if k = 2 ∨ k = 3 ∨ k = 6 then raw B % 32 else 0
def tQ (k B : Int) : Int := if 7 ≤ k then raw B % 1000000000001 else 0
def tL (k B : Int) : Int := if k = 7 then raw B % 4 else 0
def tV (k B : Int) : Int := if k = 7 then B else 0
def tZ (k : Int) (zs : List Int) : List Int := if k = 9 then zs.take 4 else []

set_option maxHeartbeats 4000000 in
theorem tame_no9 (K F E B WA P S Q BL V : Int) (a : Option Addr) (zs : List Int) (c : Nat) (w : World) (h9 : 1 + raw K % 10 ≠ 9)
    (bK : -9223372036854775808 ≤ K ∧ K ≤ 9223372036854775807) (bF : -9223372036854775808 ≤ F ∧ F ≤ 9223372036854775807) (bE : -9223372036854775808 ≤ E ∧ E ≤ 9223372036854775807)
    (bB : -9223372036854775808 ≤ B ∧ B ≤ 9223372036854775807) (bWA : -9223372036854775808 ≤ WA ∧ WA ≤ 9223372036854775807) (bP : -9223372036854775808 ≤ P ∧ P ≤ 9223372036854775807)
    (bS : -9223372036854775808 ≤ S ∧ S ≤ 9223372036854775807) (bQ : -9223372036854775808 ≤ Q ∧ Q ≤ 9223372036854775807) (bBL : -9223372036854775808 ≤ BL ∧ BL ≤ 9223372036854775807) :
    Calls Tryd.prog 5 #[.agg #[.int .i64 K, .int .i64 F, .int .i64 E, .int .i64 B, .int .i64 WA, .int .i64 P, .int .i64 S, .int .i64 Q, .int .i64 BL, .int .i64 V, .slice a zs.length c]] w fun r w' =>
      Below w.heap.size w w' ∧ ∃ kk l, kk = 1 + raw K % 10 ∧ r = .returned (.agg #[.int .i64 kk, .int .i64 (raw F % 5), .int .i64 (raw E % 1000000000001), .int .i64 (tB kk B), .int .i64 (tW kk WA), .int .i64 (tP kk P), .int .i64 (tS kk S), .int .i64 (tQ kk Q), .int .i64 (tL kk BL), .int .i64 (tV kk V), l]) ∧ OwnI w' w.heap.size l (tZ kk zs) := by
  have H9 : Hid (1 + raw K % 10 ≠ 9) := h9
  clear h9
  have kb : 0 ≤ raw K % 10 ∧ raw K % 10 < 10 := ⟨Int.emod_nonneg _ (by omega), Int.emod_lt_of_pos _ (by omega)⟩
  go_enter Tryd.func5, Tryd.ntmps5
  go_wp2
  go_cut [3] from 5 to 15 (fun x wc => x = .pointer (some ⟨w.heap.size + 1 + 1, 0, none⟩) ∧ wc = (((w.alloc (Obj.cells #[Value.int IntKind.i64 K, Value.int IntKind.i64 F, Value.int IntKind.i64 E, Value.int IntKind.i64 B, Value.int IntKind.i64 WA, Value.int IntKind.i64 P, Value.int IntKind.i64 S, Value.int IntKind.i64 Q, Value.int IntKind.i64 BL, Value.int IntKind.i64 V, Value.slice a zs.length c] 24)).alloc (Obj.cells #[Value.int IntKind.i64 0, Value.int IntKind.i64 0, Value.int IntKind.i64 0, Value.int IntKind.i64 0, Value.int IntKind.i64 0, Value.int IntKind.i64 0, Value.int IntKind.i64 0, Value.int IntKind.i64 0, Value.int IntKind.i64 0, Value.int IntKind.i64 0, Value.slice none 0 0] 24)).alloc (Obj.cells #[Value.int IntKind.i64 (IntKind.i64.wrap (1 + raw K % 10)), Value.int IntKind.i64 (raw F % 5), Value.int IntKind.i64 (raw E % 1000000000001), Value.int IntKind.i64 0, Value.int IntKind.i64 0, Value.int IntKind.i64 0, Value.int IntKind.i64 0, Value.int IntKind.i64 0, Value.int IntKind.i64 0, Value.int IntKind.i64 0, Value.slice none 0 0] 24)).drew)
  case first =>
    go_region_held3 (fun w' => w'.cell? ⟨w.heap.size, 0, none⟩ = some (.int .i64 K) ∧ w'.cell? ⟨w.heap.size, 1, none⟩ = some (.int .i64 F) ∧ w'.cell? ⟨w.heap.size, 2, none⟩ = some (.int .i64 E)) (go_keep)
      (first | (go_at_call 9; refine (pick_any _ _ _ (by omega) (by omega) (by omega)).mono ?_; rintro e w' ⟨rfl, rfl⟩))
    all_goals go_wp2_with fail
    all_goals go_meet
    all_goals exact ⟨rfl, rfl⟩
  case rest =>
    obtain ⟨rfl, rfl⟩ := hcut
    have hkk : IntKind.i64.wrap (1 + raw K % 10) = 1 + raw K % 10 := by rw [IntWalk.i64_left, IntWalk.wrap64_in _ (by omega)]
    rw [hkk]
    have hb0 := ((Below.refl w.heap.size w).alloc (Nat.le_refl _) (Obj.cells #[Value.int IntKind.i64 K, Value.int IntKind.i64 F, Value.int IntKind.i64 E, Value.int IntKind.i64 B, Value.int IntKind.i64 WA, Value.int IntKind.i64 P, Value.int IntKind.i64 S, Value.int IntKind.i64 Q, Value.int IntKind.i64 BL, Value.int IntKind.i64 V, Value.slice a zs.length c] 24)).alloc (by simp) (Obj.cells #[Value.int IntKind.i64 0, Value.int IntKind.i64 0, Value.int IntKind.i64 0, Value.int IntKind.i64 0, Value.int IntKind.i64 0, Value.int IntKind.i64 0, Value.int IntKind.i64 0, Value.int IntKind.i64 0, Value.int IntKind.i64 0, Value.int IntKind.i64 0, Value.slice none 0 0] 24)
    have hsz : ((w.alloc (Obj.cells #[Value.int IntKind.i64 K, Value.int IntKind.i64 F, Value.int IntKind.i64 E, Value.int IntKind.i64 B, Value.int IntKind.i64 WA, Value.int IntKind.i64 P, Value.int IntKind.i64 S, Value.int IntKind.i64 Q, Value.int IntKind.i64 BL, Value.int IntKind.i64 V, Value.slice a zs.length c] 24)).alloc (Obj.cells #[Value.int IntKind.i64 0, Value.int IntKind.i64 0, Value.int IntKind.i64 0, Value.int IntKind.i64 0, Value.int IntKind.i64 0, Value.int IntKind.i64 0, Value.int IntKind.i64 0, Value.int IntKind.i64 0, Value.int IntKind.i64 0, Value.int IntKind.i64 0, Value.slice none 0 0] 24)).heap.size = w.heap.size + 1 + 1 := by simp
    have hm : ∀ i, ((w.alloc (Obj.cells #[Value.int IntKind.i64 K, Value.int IntKind.i64 F, Value.int IntKind.i64 E, Value.int IntKind.i64 B, Value.int IntKind.i64 WA, Value.int IntKind.i64 P, Value.int IntKind.i64 S, Value.int IntKind.i64 Q, Value.int IntKind.i64 BL, Value.int IntKind.i64 V, Value.slice a zs.length c] 24)).alloc (Obj.cells #[Value.int IntKind.i64 0, Value.int IntKind.i64 0, Value.int IntKind.i64 0, Value.int IntKind.i64 0, Value.int IntKind.i64 0, Value.int IntKind.i64 0, Value.int IntKind.i64 0, Value.int IntKind.i64 0, Value.int IntKind.i64 0, Value.int IntKind.i64 0, Value.slice none 0 0] 24)).cell? ⟨w.heap.size, i, none⟩ = #[Value.int IntKind.i64 K, Value.int IntKind.i64 F, Value.int IntKind.i64 E, Value.int IntKind.i64 B, Value.int IntKind.i64 WA, Value.int IntKind.i64 P, Value.int IntKind.i64 S, Value.int IntKind.i64 Q, Value.int IntKind.i64 BL, Value.int IntKind.i64 V, Value.slice a zs.length c][i]? := fun i => by
      rw [World.cell?_alloc_past _ _ _ (by simp), World.cell?_alloc_at _ _ _ _ rfl]
    have hzc : ∀ i, ((w.alloc (Obj.cells #[Value.int IntKind.i64 K, Value.int IntKind.i64 F, Value.int IntKind.i64 E, Value.int IntKind.i64 B, Value.int IntKind.i64 WA, Value.int IntKind.i64 P, Value.int IntKind.i64 S, Value.int IntKind.i64 Q, Value.int IntKind.i64 BL, Value.int IntKind.i64 V, Value.slice a zs.length c] 24)).alloc (Obj.cells #[Value.int IntKind.i64 0, Value.int IntKind.i64 0, Value.int IntKind.i64 0, Value.int IntKind.i64 0, Value.int IntKind.i64 0, Value.int IntKind.i64 0, Value.int IntKind.i64 0, Value.int IntKind.i64 0, Value.int IntKind.i64 0, Value.int IntKind.i64 0, Value.slice none 0 0] 24)).cell? ⟨w.heap.size + 1, i, none⟩ = #[Value.int IntKind.i64 0, Value.int IntKind.i64 0, Value.int IntKind.i64 0, Value.int IntKind.i64 0, Value.int IntKind.i64 0, Value.int IntKind.i64 0, Value.int IntKind.i64 0, Value.int IntKind.i64 0, Value.int IntKind.i64 0, Value.int IntKind.i64 0, Value.slice none 0 0][i]? := fun i => World.cell?_alloc_at _ _ _ _ (by simp)
    have hzf : ∀ i, ((w.alloc (Obj.cells #[Value.int IntKind.i64 K, Value.int IntKind.i64 F, Value.int IntKind.i64 E, Value.int IntKind.i64 B, Value.int IntKind.i64 WA, Value.int IntKind.i64 P, Value.int IntKind.i64 S, Value.int IntKind.i64 Q, Value.int IntKind.i64 BL, Value.int IntKind.i64 V, Value.slice a zs.length c] 24)).alloc (Obj.cells #[Value.int IntKind.i64 0, Value.int IntKind.i64 0, Value.int IntKind.i64 0, Value.int IntKind.i64 0, Value.int IntKind.i64 0, Value.int IntKind.i64 0, Value.int IntKind.i64 0, Value.int IntKind.i64 0, Value.int IntKind.i64 0, Value.int IntKind.i64 0, Value.slice none 0 0] 24)).frozen? ⟨w.heap.size + 1, i, none⟩ = false := fun i => World.frozen?_alloc_at _ _ _ _ (by simp)
    generalize hW1 : (w.alloc (Obj.cells #[Value.int IntKind.i64 K, Value.int IntKind.i64 F, Value.int IntKind.i64 E, Value.int IntKind.i64 B, Value.int IntKind.i64 WA, Value.int IntKind.i64 P, Value.int IntKind.i64 S, Value.int IntKind.i64 Q, Value.int IntKind.i64 BL, Value.int IntKind.i64 V, Value.slice a zs.length c] 24)).alloc (Obj.cells #[Value.int IntKind.i64 0, Value.int IntKind.i64 0, Value.int IntKind.i64 0, Value.int IntKind.i64 0, Value.int IntKind.i64 0, Value.int IntKind.i64 0, Value.int IntKind.i64 0, Value.int IntKind.i64 0, Value.int IntKind.i64 0, Value.int IntKind.i64 0, Value.slice none 0 0] 24) = W1 at *
    clear hW1
    rw [← hsz]
    have g0 : w.heap.size < W1.heap.size := by omega
    have g1 : w.heap.size + 1 < W1.heap.size := by omega
    have m3 : W1.cell? ⟨w.heap.size, 3, none⟩ = some (.int .i64 B) := hm 3
    have m4 : W1.cell? ⟨w.heap.size, 4, none⟩ = some (.int .i64 WA) := hm 4
    have m5 : W1.cell? ⟨w.heap.size, 5, none⟩ = some (.int .i64 P) := hm 5
    have m6 : W1.cell? ⟨w.heap.size, 6, none⟩ = some (.int .i64 S) := hm 6
    have m7 : W1.cell? ⟨w.heap.size, 7, none⟩ = some (.int .i64 Q) := hm 7
    have m8 : W1.cell? ⟨w.heap.size, 8, none⟩ = some (.int .i64 BL) := hm 8
    have m9 : W1.cell? ⟨w.heap.size, 9, none⟩ = some (.int .i64 V) := hm 9
    have m10 : W1.cell? ⟨w.heap.size, 10, none⟩ = some (.slice a zs.length c) := hm 10
    have HSZ : Hid _ := hsz
    clear hm hkk hsz
    generalize hKK : 1 + raw K % 10 = kk at *
    have HKK : Hid (1 + raw K % 10 = kk) := hKK
    have hr : kk = 1 ∨ kk = 2 ∨ kk = 3 ∨ kk = 4 ∨ kk = 5 ∨ kk = 6 ∨ kk = 7 ∨ kk = 8 ∨ kk = 9 ∨ kk = 10 := by omega
    clear hKK kb
    generalize hFF : raw F % 5 = FF at *
    generalize hEE : raw E % 1000000000001 = EE at *
    have HFF : Hid _ := hFF
    have HEE : Hid _ := hEE
    clear hFF hEE
    rcases hr with rfl | rfl | rfl | rfl | rfl | rfl | rfl | rfl | rfl | rfl
    · go_wp2_with (first | (go_at_call 9; refine (pick_any _ _ _ (by omega) (by omega) (by omega)).mono ?_; rintro e w' ⟨rfl, rfl⟩))
      refine wp_loop_rounds 1 ?_
      rw [rounds_succ]
      go_wp2
      obtain ⟨W, hW, ⟨c0, c1, c2, c3, c4, c5, c6, c7, c8, c9, c10⟩, hbut, hbl⟩ := put11 W1 (w.heap.size + 1) (.int .i64 1) (.int .i64 FF) (.int .i64 EE) (.int .i64 (raw B % 1000000000001)) (.int .i64 0) (.int .i64 0) (.int .i64 0) (.int .i64 0) (.int .i64 0) (.int .i64 0) (.slice none 0 0) (fun i hi => by rw [hzc]; simp; omega)
      rw [hW]
      have hsW : w.heap.size + 1 < W.heap.size := by rw [hbut.size]; exact g1
      clear hW hzc hzf m3 m4 m5 m6 m7 m8 m9 m10
      exact bodyPost_ret (v := .agg #[(.int .i64 1), (.int .i64 FF), (.int .i64 EE), (.int .i64 (raw B % 1000000000001)), (.int .i64 0), (.int .i64 0), (.int .i64 0), (.int .i64 0), (.int .i64 0), (.int .i64 0), (.slice none 0 0)]) (by simp [results, Tryd.results5, go_sem, hsW, c0, c1, c2, c3, c4, c5, c6, c7, c8, c9, c10]) rfl
        ⟨((hbl _ _ (by omega) hb0).alloc (by omega) _).drew, 1, .slice none 0 0, HKK.out.symm, by rw [HFF.out, HEE.out]; simp [tB, tW, tP, tS, tQ, tL, tV], by simp only [tZ]; exact World.ownsRow_nil _ _ _ _⟩
    · go_wp2_with (first | (go_at_call 9; refine (pick_any _ _ _ (by omega) (by omega) (by omega)).mono ?_; rintro e w' ⟨rfl, rfl⟩))
      refine wp_loop_rounds 1 ?_
      rw [rounds_succ]
      go_wp2
      obtain ⟨W, hW, ⟨c0, c1, c2, c3, c4, c5, c6, c7, c8, c9, c10⟩, hbut, hbl⟩ := put11 W1 (w.heap.size + 1) (.int .i64 2) (.int .i64 FF) (.int .i64 EE) (.int .i64 (raw B % 1000000000001)) (.int .i64 (raw WA % 1000000000001)) (.int .i64 (raw P % 6)) (.int .i64 (raw S % 32)) (.int .i64 0) (.int .i64 0) (.int .i64 0) (.slice none 0 0) (fun i hi => by rw [hzc]; simp; omega)
      rw [hW]
      have hsW : w.heap.size + 1 < W.heap.size := by rw [hbut.size]; exact g1
      clear hW hzc hzf m3 m4 m5 m6 m7 m8 m9 m10
      exact bodyPost_ret (v := .agg #[(.int .i64 2), (.int .i64 FF), (.int .i64 EE), (.int .i64 (raw B % 1000000000001)), (.int .i64 (raw WA % 1000000000001)), (.int .i64 (raw P % 6)), (.int .i64 (raw S % 32)), (.int .i64 0), (.int .i64 0), (.int .i64 0), (.slice none 0 0)]) (by simp [results, Tryd.results5, go_sem, hsW, c0, c1, c2, c3, c4, c5, c6, c7, c8, c9, c10]) rfl
        ⟨((hbl _ _ (by omega) hb0).alloc (by omega) _).drew, 2, .slice none 0 0, HKK.out.symm, by rw [HFF.out, HEE.out]; simp [tB, tW, tP, tS, tQ, tL, tV], by simp only [tZ]; exact World.ownsRow_nil _ _ _ _⟩
    · go_wp2_with (first | (go_at_call 9; refine (pick_any _ _ _ (by omega) (by omega) (by omega)).mono ?_; rintro e w' ⟨rfl, rfl⟩))
      refine wp_loop_rounds 1 ?_
      rw [rounds_succ]
      go_wp2
      obtain ⟨W, hW, ⟨c0, c1, c2, c3, c4, c5, c6, c7, c8, c9, c10⟩, hbut, hbl⟩ := put11 W1 (w.heap.size + 1) (.int .i64 3) (.int .i64 FF) (.int .i64 EE) (.int .i64 (raw B % 1000000000001)) (.int .i64 0) (.int .i64 (raw P % 6)) (.int .i64 (raw S % 32)) (.int .i64 0) (.int .i64 0) (.int .i64 0) (.slice none 0 0) (fun i hi => by rw [hzc]; simp; omega)
      rw [hW]
      have hsW : w.heap.size + 1 < W.heap.size := by rw [hbut.size]; exact g1
      clear hW hzc hzf m3 m4 m5 m6 m7 m8 m9 m10
      exact bodyPost_ret (v := .agg #[(.int .i64 3), (.int .i64 FF), (.int .i64 EE), (.int .i64 (raw B % 1000000000001)), (.int .i64 0), (.int .i64 (raw P % 6)), (.int .i64 (raw S % 32)), (.int .i64 0), (.int .i64 0), (.int .i64 0), (.slice none 0 0)]) (by simp [results, Tryd.results5, go_sem, hsW, c0, c1, c2, c3, c4, c5, c6, c7, c8, c9, c10]) rfl
        ⟨((hbl _ _ (by omega) hb0).alloc (by omega) _).drew, 3, .slice none 0 0, HKK.out.symm, by rw [HFF.out, HEE.out]; simp [tB, tW, tP, tS, tQ, tL, tV], by simp only [tZ]; exact World.ownsRow_nil _ _ _ _⟩
    · go_wp2_with (first | (go_at_call 9; refine (pick_any _ _ _ (by omega) (by omega) (by omega)).mono ?_; rintro e w' ⟨rfl, rfl⟩))
      refine wp_loop_rounds 1 ?_
      rw [rounds_succ]
      go_wp2
      obtain ⟨W, hW, ⟨c0, c1, c2, c3, c4, c5, c6, c7, c8, c9, c10⟩, hbut, hbl⟩ := put11 W1 (w.heap.size + 1) (.int .i64 4) (.int .i64 FF) (.int .i64 EE) (.int .i64 (raw B % 1000000000001)) (.int .i64 0) (.int .i64 0) (.int .i64 0) (.int .i64 0) (.int .i64 0) (.int .i64 0) (.slice none 0 0) (fun i hi => by rw [hzc]; simp; omega)
      rw [hW]
      have hsW : w.heap.size + 1 < W.heap.size := by rw [hbut.size]; exact g1
      clear hW hzc hzf m3 m4 m5 m6 m7 m8 m9 m10
      exact bodyPost_ret (v := .agg #[(.int .i64 4), (.int .i64 FF), (.int .i64 EE), (.int .i64 (raw B % 1000000000001)), (.int .i64 0), (.int .i64 0), (.int .i64 0), (.int .i64 0), (.int .i64 0), (.int .i64 0), (.slice none 0 0)]) (by simp [results, Tryd.results5, go_sem, hsW, c0, c1, c2, c3, c4, c5, c6, c7, c8, c9, c10]) rfl
        ⟨((hbl _ _ (by omega) hb0).alloc (by omega) _).drew, 4, .slice none 0 0, HKK.out.symm, by rw [HFF.out, HEE.out]; simp [tB, tW, tP, tS, tQ, tL, tV], by simp only [tZ]; exact World.ownsRow_nil _ _ _ _⟩
    · go_wp2_with (first | (go_at_call 9; refine (pick_any _ _ _ (by omega) (by omega) (by omega)).mono ?_; rintro e w' ⟨rfl, rfl⟩))
      refine wp_loop_rounds 1 ?_
      rw [rounds_succ]
      go_wp2
      obtain ⟨W, hW, ⟨c0, c1, c2, c3, c4, c5, c6, c7, c8, c9, c10⟩, hbut, hbl⟩ := put11 W1 (w.heap.size + 1) (.int .i64 5) (.int .i64 FF) (.int .i64 EE) (.int .i64 (raw B % 1000000000001)) (.int .i64 (raw WA % 1000000000001)) (.int .i64 0) (.int .i64 0) (.int .i64 0) (.int .i64 0) (.int .i64 0) (.slice none 0 0) (fun i hi => by rw [hzc]; simp; omega)
      rw [hW]
      have hsW : w.heap.size + 1 < W.heap.size := by rw [hbut.size]; exact g1
      clear hW hzc hzf m3 m4 m5 m6 m7 m8 m9 m10
      exact bodyPost_ret (v := .agg #[(.int .i64 5), (.int .i64 FF), (.int .i64 EE), (.int .i64 (raw B % 1000000000001)), (.int .i64 (raw WA % 1000000000001)), (.int .i64 0), (.int .i64 0), (.int .i64 0), (.int .i64 0), (.int .i64 0), (.slice none 0 0)]) (by simp [results, Tryd.results5, go_sem, hsW, c0, c1, c2, c3, c4, c5, c6, c7, c8, c9, c10]) rfl
        ⟨((hbl _ _ (by omega) hb0).alloc (by omega) _).drew, 5, .slice none 0 0, HKK.out.symm, by rw [HFF.out, HEE.out]; simp [tB, tW, tP, tS, tQ, tL, tV], by simp only [tZ]; exact World.ownsRow_nil _ _ _ _⟩
    · go_wp2_with (first | (go_at_call 9; refine (pick_any _ _ _ (by omega) (by omega) (by omega)).mono ?_; rintro e w' ⟨rfl, rfl⟩))
      refine wp_loop_rounds 1 ?_
      rw [rounds_succ]
      go_wp2
      obtain ⟨W, hW, ⟨c0, c1, c2, c3, c4, c5, c6, c7, c8, c9, c10⟩, hbut, hbl⟩ := put11 W1 (w.heap.size + 1) (.int .i64 6) (.int .i64 FF) (.int .i64 EE) (.int .i64 0) (.int .i64 0) (.int .i64 (raw P % 6)) (.int .i64 (raw S % 32)) (.int .i64 0) (.int .i64 0) (.int .i64 0) (.slice none 0 0) (fun i hi => by rw [hzc]; simp; omega)
      rw [hW]
      have hsW : w.heap.size + 1 < W.heap.size := by rw [hbut.size]; exact g1
      clear hW hzc hzf m3 m4 m5 m6 m7 m8 m9 m10
      exact bodyPost_ret (v := .agg #[(.int .i64 6), (.int .i64 FF), (.int .i64 EE), (.int .i64 0), (.int .i64 0), (.int .i64 (raw P % 6)), (.int .i64 (raw S % 32)), (.int .i64 0), (.int .i64 0), (.int .i64 0), (.slice none 0 0)]) (by simp [results, Tryd.results5, go_sem, hsW, c0, c1, c2, c3, c4, c5, c6, c7, c8, c9, c10]) rfl
        ⟨((hbl _ _ (by omega) hb0).alloc (by omega) _).drew, 6, .slice none 0 0, HKK.out.symm, by rw [HFF.out, HEE.out]; simp [tB, tW, tP, tS, tQ, tL, tV], by simp only [tZ]; exact World.ownsRow_nil _ _ _ _⟩
    · go_wp2_with (first | (go_at_call 9; refine (pick_any _ _ _ (by omega) (by omega) (by omega)).mono ?_; rintro e w' ⟨rfl, rfl⟩))
      refine wp_loop_rounds 1 ?_
      rw [rounds_succ]
      go_wp2
      obtain ⟨W, hW, ⟨c0, c1, c2, c3, c4, c5, c6, c7, c8, c9, c10⟩, hbut, hbl⟩ := put11 W1 (w.heap.size + 1) (.int .i64 7) (.int .i64 FF) (.int .i64 EE) (.int .i64 0) (.int .i64 0) (.int .i64 0) (.int .i64 0) (.int .i64 (raw Q % 1000000000001)) (.int .i64 (raw BL % 4)) (.int .i64 V) (.slice none 0 0) (fun i hi => by rw [hzc]; simp; omega)
      rw [hW]
      have hsW : w.heap.size + 1 < W.heap.size := by rw [hbut.size]; exact g1
      clear hW hzc hzf m3 m4 m5 m6 m7 m8 m9 m10
      exact bodyPost_ret (v := .agg #[(.int .i64 7), (.int .i64 FF), (.int .i64 EE), (.int .i64 0), (.int .i64 0), (.int .i64 0), (.int .i64 0), (.int .i64 (raw Q % 1000000000001)), (.int .i64 (raw BL % 4)), (.int .i64 V), (.slice none 0 0)]) (by simp [results, Tryd.results5, go_sem, hsW, c0, c1, c2, c3, c4, c5, c6, c7, c8, c9, c10]) rfl
        ⟨((hbl _ _ (by omega) hb0).alloc (by omega) _).drew, 7, .slice none 0 0, HKK.out.symm, by rw [HFF.out, HEE.out]; simp [tB, tW, tP, tS, tQ, tL, tV], by simp only [tZ]; exact World.ownsRow_nil _ _ _ _⟩
    · go_wp2_with (first | (go_at_call 9; refine (pick_any _ _ _ (by omega) (by omega) (by omega)).mono ?_; rintro e w' ⟨rfl, rfl⟩))
      refine wp_loop_rounds 1 ?_
      rw [rounds_succ]
      go_wp2
      obtain ⟨W, hW, ⟨c0, c1, c2, c3, c4, c5, c6, c7, c8, c9, c10⟩, hbut, hbl⟩ := put11 W1 (w.heap.size + 1) (.int .i64 8) (.int .i64 FF) (.int .i64 EE) (.int .i64 0) (.int .i64 0) (.int .i64 0) (.int .i64 0) (.int .i64 (raw Q % 1000000000001)) (.int .i64 0) (.int .i64 0) (.slice none 0 0) (fun i hi => by rw [hzc]; simp; omega)
      rw [hW]
      have hsW : w.heap.size + 1 < W.heap.size := by rw [hbut.size]; exact g1
      clear hW hzc hzf m3 m4 m5 m6 m7 m8 m9 m10
      exact bodyPost_ret (v := .agg #[(.int .i64 8), (.int .i64 FF), (.int .i64 EE), (.int .i64 0), (.int .i64 0), (.int .i64 0), (.int .i64 0), (.int .i64 (raw Q % 1000000000001)), (.int .i64 0), (.int .i64 0), (.slice none 0 0)]) (by simp [results, Tryd.results5, go_sem, hsW, c0, c1, c2, c3, c4, c5, c6, c7, c8, c9, c10]) rfl
        ⟨((hbl _ _ (by omega) hb0).alloc (by omega) _).drew, 8, .slice none 0 0, HKK.out.symm, by rw [HFF.out, HEE.out]; simp [tB, tW, tP, tS, tQ, tL, tV], by simp only [tZ]; exact World.ownsRow_nil _ _ _ _⟩
    · exact absurd rfl H9.out
    · go_wp2_with (first | (go_at_call 9; refine (pick_any _ _ _ (by omega) (by omega) (by omega)).mono ?_; rintro e w' ⟨rfl, rfl⟩))
      refine wp_loop_rounds 1 ?_
      rw [rounds_succ]
      go_wp2
      obtain ⟨W, hW, ⟨c0, c1, c2, c3, c4, c5, c6, c7, c8, c9, c10⟩, hbut, hbl⟩ := put11 W1 (w.heap.size + 1) (.int .i64 10) (.int .i64 FF) (.int .i64 EE) (.int .i64 0) (.int .i64 0) (.int .i64 0) (.int .i64 0) (.int .i64 (raw Q % 1000000000001)) (.int .i64 0) (.int .i64 0) (.slice none 0 0) (fun i hi => by rw [hzc]; simp; omega)
      rw [hW]
      have hsW : w.heap.size + 1 < W.heap.size := by rw [hbut.size]; exact g1
      clear hW hzc hzf m3 m4 m5 m6 m7 m8 m9 m10
      exact bodyPost_ret (v := .agg #[(.int .i64 10), (.int .i64 FF), (.int .i64 EE), (.int .i64 0), (.int .i64 0), (.int .i64 0), (.int .i64 0), (.int .i64 (raw Q % 1000000000001)), (.int .i64 0), (.int .i64 0), (.slice none 0 0)]) (by simp [results, Tryd.results5, go_sem, hsW, c0, c1, c2, c3, c4, c5, c6, c7, c8, c9, c10]) rfl
        ⟨((hbl _ _ (by omega) hb0).alloc (by omega) _).drew, 10, .slice none 0 0, HKK.out.symm, by rw [HFF.out, HEE.out]; simp [tB, tW, tP, tS, tQ, tL, tV], by simp only [tZ]; exact World.ownsRow_nil _ _ _ _⟩
end Go.Proofs.YtdcainmlcpafbaaDoor
