import Derived.Test.YtdcainmlcpafbaaDoorA12
import Derived.Test.YtdcainmlcpafbaaDoorB3
import Derived.Test.YtdcainmlcpafbaaDoorC1
namespace Go.Proofs.YtdcainmlcpafbaaDoor
open Go.RowKit

theorem tZ_len (k : Int) (zs : List Int) : (tZ k zs).length ≤ 4 := by
  unfold tZ
  split
  · rw [List.length_take]; omega
  · simp
theorem mod_in (x n : Int) (hn : 0 < n) : 0 ≤ raw x % n ∧ raw x % n < n := ⟨Int.emod_nonneg _ (by omega), Int.emod_lt_of_pos _ hn⟩
/-- A tame message is one. -/
theorem tame_is (kk : Int) (e B WA P S Q BL V : Int) (zs : List Int) (h1 : 1 ≤ kk) (h2 : kk ≤ 10) (he : 0 ≤ e ∧ e < 1000000000001) (bV : -9223372036854775808 ≤ V ∧ V ≤ 9223372036854775807) :
    isMsgN kk.toNat [0, e, tB kk B, tW kk WA, tP kk P, tS kk S, tQ kk Q, tL kk BL, tV kk V, ((tZ kk zs).length : Int)] = true := by
  have mB := mod_in B 1000000000001 (by omega)
  have mW := mod_in WA 1000000000001 (by omega)
  have mP := mod_in P 6 (by omega)
  have mS := mod_in S 32 (by omega)
  have mQ := mod_in Q 1000000000001 (by omega)
  have mL := mod_in BL 4 (by omega)
  have hz := tZ_len kk zs
  have hr : kk = 1 ∨ kk = 2 ∨ kk = 3 ∨ kk = 4 ∨ kk = 5 ∨ kk = 6 ∨ kk = 7 ∨ kk = 8 ∨ kk = 9 ∨ kk = 10 := by omega
  rcases hr with rfl | rfl | rfl | rfl | rfl | rfl | rfl | rfl | rfl | rfl
  · show isMsgN 1 _ = true
    rw [isMsg_1]; simp [tB, tW, tP, tS, tQ, tL, tV, tZ]; omega
  · show isMsgN 2 _ = true
    rw [isMsg_2]; simp [tB, tW, tP, tS, tQ, tL, tV, tZ]; omega
  · show isMsgN 3 _ = true
    rw [isMsg_3]; simp [tB, tW, tP, tS, tQ, tL, tV, tZ]; omega
  · show isMsgN 4 _ = true
    rw [isMsg_4]; simp [tB, tW, tP, tS, tQ, tL, tV, tZ]; omega
  · show isMsgN 5 _ = true
    rw [isMsg_5]; simp [tB, tW, tP, tS, tQ, tL, tV, tZ]; omega
  · show isMsgN 6 _ = true
    rw [isMsg_6]; simp [tB, tW, tP, tS, tQ, tL, tV, tZ]; omega
  · show isMsgN 7 _ = true
    rw [isMsg_7]; simp [tB, tW, tP, tS, tQ, tL, tV, tZ]; omega
  · show isMsgN 8 _ = true
    rw [isMsg_8]; simp [tB, tW, tP, tS, tQ, tL, tV, tZ]; omega
  · show isMsgN 9 _ = true
    rw [isMsg_9]; simp [tB, tW, tP, tS, tQ, tL, tV, tZ]; omega
  · show isMsgN 10 _ = true
    rw [isMsg_10]; simp [tB, tW, tP, tS, tQ, tL, tV, tZ]; omega

theorem OwnB.later {w w' : World} {base : Nat} {v : Value} {bs : List UInt8} (h : OwnB w base v bs) (hb : Below w.heap.size w w') : OwnB w' base v bs :=
  World.ownsRow.kept h ⟨hb.os, hb.tape, hb.output, hb.size, fun k hk _ => hb.block k hk⟩ (row := none) (by cases hv : v.ownBlock <;> simp)
theorem OwnI.later {w w' : World} {base : Nat} {v : Value} {bs : List Int} (h : OwnI w base v bs) (hb : Below w.heap.size w w') : OwnI w' base v bs :=
  World.ownsRow.kept h ⟨hb.os, hb.tape, hb.output, hb.size, fun k hk _ => hb.block k hk⟩ (row := none) (by cases hv : v.ownBlock <;> simp)

theorem tame_all (K F E B WA P S Q BL V : Int) (a : Option Addr) (zs : List Int) (c : Nat) (w : World) (hin : intsAt w a zs)
    (bK : -9223372036854775808 ≤ K ∧ K ≤ 9223372036854775807) (bF : -9223372036854775808 ≤ F ∧ F ≤ 9223372036854775807) (bE : -9223372036854775808 ≤ E ∧ E ≤ 9223372036854775807)
    (bB : -9223372036854775808 ≤ B ∧ B ≤ 9223372036854775807) (bWA : -9223372036854775808 ≤ WA ∧ WA ≤ 9223372036854775807) (bP : -9223372036854775808 ≤ P ∧ P ≤ 9223372036854775807)
    (bS : -9223372036854775808 ≤ S ∧ S ≤ 9223372036854775807) (bQ : -9223372036854775808 ≤ Q ∧ Q ≤ 9223372036854775807) (bBL : -9223372036854775808 ≤ BL ∧ BL ≤ 9223372036854775807) (bV : -9223372036854775808 ≤ V ∧ V ≤ 9223372036854775807)
    (hzs : ∀ z ∈ zs, -9223372036854775808 ≤ z ∧ z ≤ 9223372036854775807) :
    Calls Tryd.prog 5 #[.agg #[.int .i64 K, .int .i64 F, .int .i64 E, .int .i64 B, .int .i64 WA, .int .i64 P, .int .i64 S, .int .i64 Q, .int .i64 BL, .int .i64 V, .slice a zs.length c]] w fun r w' =>
      Below w.heap.size w w' ∧ ∃ (k f : Nat) (e b wa p s q bl v : Int) (vs : List Int) (la : Option Addr) (lc : Nat), 1 ≤ k ∧ k ≤ 10 ∧ f < 5 ∧ r = .returned (.agg #[.int .i64 k, .int .i64 f, .int .i64 e, .int .i64 b, .int .i64 wa, .int .i64 p, .int .i64 s, .int .i64 q, .int .i64 bl, .int .i64 v, .slice la vs.length lc]) ∧
        OwnI w' w.heap.size (.slice la vs.length lc) vs ∧ vs.length ≤ 4 ∧ (∀ z ∈ vs, -9223372036854775808 ≤ z ∧ z ≤ 9223372036854775807) ∧ isMsgN k [0, e, b, wa, p, s, q, bl, v, (vs.length : Int)] = true := by
  have kb := mod_in K 10 (by omega)
  have fb := mod_in F 5 (by omega)
  have eb := mod_in E 1000000000001 (by omega)
  have key : ∀ (r : Ending) (w' : World), (Below w.heap.size w w' ∧ ∃ kk l, kk = 1 + raw K % 10 ∧ r = .returned (.agg #[.int .i64 kk, .int .i64 (raw F % 5), .int .i64 (raw E % 1000000000001), .int .i64 (tB kk B), .int .i64 (tW kk WA), .int .i64 (tP kk P), .int .i64 (tS kk S), .int .i64 (tQ kk Q), .int .i64 (tL kk BL), .int .i64 (tV kk V), l]) ∧ OwnI w' w.heap.size l (tZ kk zs)) →
      Below w.heap.size w w' ∧ ∃ (k f : Nat) (e b wa p s q bl v : Int) (vs : List Int) (la : Option Addr) (lc : Nat), 1 ≤ k ∧ k ≤ 10 ∧ f < 5 ∧ r = .returned (.agg #[.int .i64 k, .int .i64 f, .int .i64 e, .int .i64 b, .int .i64 wa, .int .i64 p, .int .i64 s, .int .i64 q, .int .i64 bl, .int .i64 v, .slice la vs.length lc]) ∧
        OwnI w' w.heap.size (.slice la vs.length lc) vs ∧ vs.length ≤ 4 ∧ (∀ z ∈ vs, -9223372036854775808 ≤ z ∧ z ≤ 9223372036854775807) ∧ isMsgN k [0, e, b, wa, p, s, q, bl, v, (vs.length : Int)] = true := by
    rintro r w' ⟨hb, kk, l, hkk, rfl, ho⟩
    obtain ⟨la, lc, rfl⟩ := ho.shape
    refine ⟨hb, kk.toNat, (raw F % 5).toNat, raw E % 1000000000001, tB kk B, tW kk WA, tP kk P, tS kk S, tQ kk Q, tL kk BL, tV kk V, tZ kk zs, la, lc, by omega, by omega, by omega, ?_, ho, tZ_len _ _, ?_, tame_is kk _ B WA P S Q BL V zs (by omega) (by omega) eb bV⟩
    · rw [Int.toNat_of_nonneg (by omega), Int.toNat_of_nonneg (by omega)]
    · intro z hz
      unfold tZ at hz
      split at hz
      · exact hzs z (List.mem_of_mem_take hz)
      · cases hz
  by_cases h9 : 1 + raw K % 10 = 9
  · exact (tame_9 K F E B WA P S Q BL V a zs c w h9 hin bK bF bE bB bWA bP bS bQ bBL).mono key
  · exact (tame_no9 K F E B WA P S Q BL V a zs c w h9 bK bF bE bB bWA bP bS bQ bBL).mono key
end Go.Proofs.YtdcainmlcpafbaaDoor
