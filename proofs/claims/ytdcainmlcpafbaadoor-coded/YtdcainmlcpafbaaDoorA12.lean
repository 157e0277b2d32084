import Derived.Test.YtdcainmlcpafbaaDoorA11
namespace Go.Proofs.YtdcainmlcpafbaaDoor
open Go.RowKit

/-- append to a row of the call's own, as one step of a region that draws. -/
theorem step_append_own {P : Program} {ops : Array Oper} {o : Oper} {a : Act} {w : World} {K : Act → World → Prop} {Q : Exit → Act → World → Prop} {E : Prop}
    (hg : o.guard = none) (s x : Operand) (t : TypeId) (hop : o.op = Op.call { callee := Callee.builtin Builtin.append, args := #[s, x], argTypes := #[t, t] })
    (base : Nat) (e : TypeId) (i : TypeInfo) (z : Value) (size bytes : Nat) (h1 : P.underlying t = some (.slice e)) (h2 : P.info? e = some i) (h3 : i.zero = some z) (h4 : i.size = size) (h5 : i.bytes = bytes) (h6 : z.cells.size = size) (h7 : 0 < size)
    (v : Value) (n : Nat) (xs : List Value) (hs : a.eval s = v) (hown : w.ownsRow base e size v n xs)
    (ad : Addr) (m c : Nat) (news : List Value) (hx : a.eval x = .slice (some ad) m c) (hn : news.length = m * size) (hc : ∀ j u, news[j]? = some u → w.cell? (ad.add j) = some u) (h1c : ∀ u ∈ news, u.oneCell' = true)
    (b1 : n + m ≤ maxLen) (b2 : (n + m) * bytes ≤ 140737488355328) (hbase : base ≤ w.heap.size)
    (hK : ∀ v' w', w'.ownsRow base e size v' (n + m) (xs ++ news) → w.grownBy w' v.ownBlock → (v' = .slice none 0 0 ↔ v = .slice none 0 0 ∧ m = 0) → K (a.put o.dst v') w') :
    if Region.wanted o (yielded ops a.tmps) = true then Oper.wp P o a w K Q else E := by
  have hw : Region.wanted o (yielded ops a.tmps) = true := by simp [Region.wanted, hg]
  rw [if_pos hw]
  obtain ⟨v', w', hrun, r1, r2, r3⟩ := run_append_own (P := P) w base t o.type e i z size bytes h1 h2 h3 h4 h5 h6 h7 v n xs hown ad m c news hn hc h1c b1 b2 hbase
  unfold Oper.wp
  simp only [execOp, hop, resolve, invoke, builtin, Sem.run_bind, Sem.run_pure, Result.andThen_ok, List.map_toArray, List.map_cons, List.map_nil, hs, hx, hrun]
  exact hK v' w' r1 r2 r3

theorem shape_of {w : World} {base : Nat} {e : TypeId} {size : Nat} {v : Value} {n : Nat} {xs : List Value} (h : w.ownsRow base e size v n xs) : ∃ a l c, v = .slice a l c := by
  rcases h.2 with ⟨rfl, _⟩ | ⟨g, cap, cur, rfl, _⟩
  · exact ⟨_, _, _, rfl⟩
  · exact ⟨_, _, _, rfl⟩

set_option maxHeartbeats 4000000 in
theorem tame_9 (K F E B WA P S Q BL V : Int) (a : Option Addr) (zs : List Int) (c : Nat) (w : World) (h9 : 1 + raw K % 10 = 9) (hin : intsAt w a zs)
    (bK : -9223372036854775808 ≤ K ∧ K ≤ 9223372036854775807) (bF : -9223372036854775808 ≤ F ∧ F ≤ 9223372036854775807) (bE : -9223372036854775808 ≤ E ∧ E ≤ 9223372036854775807)
    (_bB : -9223372036854775808 ≤ B ∧ B ≤ 9223372036854775807) (_bWA : -9223372036854775808 ≤ WA ∧ WA ≤ 9223372036854775807) (_bP : -9223372036854775808 ≤ P ∧ P ≤ 9223372036854775807)
    (_bS : -9223372036854775808 ≤ S ∧ S ≤ 9223372036854775807) (bQ : -9223372036854775808 ≤ Q ∧ Q ≤ 9223372036854775807) (_bBL : -9223372036854775808 ≤ BL ∧ BL ≤ 9223372036854775807) :
    Calls Tryd.prog 5 #[.agg #[.int .i64 K, .int .i64 F, .int .i64 E, .int .i64 B, .int .i64 WA, .int .i64 P, .int .i64 S, .int .i64 Q, .int .i64 BL, .int .i64 V, .slice a zs.length c]] w fun r w' =>
      Below w.heap.size w w' ∧ ∃ kk l, kk = 1 + raw K % 10 ∧ r = .returned (.agg #[.int .i64 kk, .int .i64 (raw F % 5), .int .i64 (raw E % 1000000000001), .int .i64 (tB kk B), .int .i64 (tW kk WA), .int .i64 (tP kk P), .int .i64 (tS kk S), .int .i64 (tQ kk Q), .int .i64 (tL kk BL), .int .i64 (tV kk V), l]) ∧ OwnI w' w.heap.size l (tZ kk zs) := by
  have H9 : Hid (1 + raw K % 10 = 9) := h9
  clear h9
  have kb : 0 ≤ raw K % 10 ∧ raw K % 10 < 10 := ⟨Int.emod_nonneg _ (by omega), Int.emod_lt_of_pos _ (by omega)⟩
  go_enter Tryd.func5, Tryd.ntmps5
  go_wp2
  go_cut [3] from 5 to 15 (fun x wc => x = .pointer (some ⟨w.heap.size + 1 + 1, 0, none⟩) ∧ wc = (((w.alloc (Obj.cells #[Value.int IntKind.i64 K, Value.int IntKind.i64 F, Value.int IntKind.i64 E, Value.int IntKind.i64 B, Value.int IntKind.i64 WA, Value.int IntKind.i64 P, Value.int IntKind.i64 S, Value.int IntKind.i64 Q, Value.int IntKind.i64 BL, Value.int IntKind.i64 V, Value.slice a zs.length c] 24)).alloc (Obj.cells #[Value.int IntKind.i64 0, Value.int IntKind.i64 0, Value.int IntKind.i64 0, Value.int IntKind.i64 0, Value.int IntKind.i64 0, Value.int IntKind.i64 0, Value.int IntKind.i64 0, Value.int IntKind.i64 0, Value.int IntKind.i64 0, Value.int IntKind.i64 0, Value.slice none 0 0] 24)).alloc (Obj.cells #[Value.int IntKind.i64 (IntKind.i64.wrap (1 + raw K % 10)), Value.int IntKind.i64 (raw F % 5), Value.int IntKind.i64 (raw E % 1000000000001), Value.int IntKind.i64 0, Value.int IntKind.i64 0, Value.int IntKind.i64 0, Value.int IntKind.i64 0, Value.int IntKind.i64 0, Value.int IntKind.i64 0, Value.int IntKind.i64 0, Value.slice none 0 0] 24)).drew)
  case first =>
    go_region_held3 (fun w' => w'.cell? ⟨w.heap.size, 0, none⟩ = some (.int .i64 K) ∧ w'.cell? ⟨w.heap.size, 1, none⟩ = some (.int .i64 F) ∧ w'.cell? ⟨w.heap.size, 2, none⟩ = some (.int .i64 E)) (go_keep)
      (first | (go_at_call 9; refine (pick_any _ _ _ (by omega) (by omega) (by omega)).mono ?_; rintro e w' ⟨rfl, rfl⟩))
    all_goals go_wp2_with fail
    all_goals go_meet
    all_goals exact ⟨rfl, rfl⟩
  case rest =>
    obtain ⟨rfl, rfl⟩ := hcut
    have hkk : IntKind.i64.wrap (1 + raw K % 10) = 1 + raw K % 10 := by rw [IntWalk.i64_left, IntWalk.wrap64_in _ (by omega)]
    rw [hkk]
    have hb0 := ((Below.refl w.heap.size w).alloc (Nat.le_refl _) (Obj.cells #[Value.int IntKind.i64 K, Value.int IntKind.i64 F, Value.int IntKind.i64 E, Value.int IntKind.i64 B, Value.int IntKind.i64 WA, Value.int IntKind.i64 P, Value.int IntKind.i64 S, Value.int IntKind.i64 Q, Value.int IntKind.i64 BL, Value.int IntKind.i64 V, Value.slice a zs.length c] 24)).alloc (by simp) (Obj.cells #[Value.int IntKind.i64 0, Value.int IntKind.i64 0, Value.int IntKind.i64 0, Value.int IntKind.i64 0, Value.int IntKind.i64 0, Value.int IntKind.i64 0, Value.int IntKind.i64 0, Value.int IntKind.i64 0, Value.int IntKind.i64 0, Value.int IntKind.i64 0, Value.slice none 0 0] 24)
    have hsz : ((w.alloc (Obj.cells #[Value.int IntKind.i64 K, Value.int IntKind.i64 F, Value.int IntKind.i64 E, Value.int IntKind.i64 B, Value.int IntKind.i64 WA, Value.int IntKind.i64 P, Value.int IntKind.i64 S, Value.int IntKind.i64 Q, Value.int IntKind.i64 BL, Value.int IntKind.i64 V, Value.slice a zs.length c] 24)).alloc (Obj.cells #[Value.int IntKind.i64 0, Value.int IntKind.i64 0, Value.int IntKind.i64 0, Value.int IntKind.i64 0, Value.int IntKind.i64 0, Value.int IntKind.i64 0, Value.int IntKind.i64 0, Value.int IntKind.i64 0, Value.int IntKind.i64 0, Value.int IntKind.i64 0, Value.slice none 0 0] 24)).heap.size = w.heap.size + 1 + 1 := by simp
    have hm : ∀ i, ((w.alloc (Obj.cells #[Value.int IntKind.i64 K, Value.int IntKind.i64 F, Value.int IntKind.i64 E, Value.int IntKind.i64 B, Value.int IntKind.i64 WA, Value.int IntKind.i64 P, Value.int IntKind.i64 S, Value.int IntKind.i64 Q, Value.int IntKind.i64 BL, Value.int IntKind.i64 V, Value.slice a zs.length c] 24)).alloc (Obj.cells #[Value.int IntKind.i64 0, Value.int IntKind.i64 0, Value.int IntKind.i64 0, Value.int IntKind.i64 0, Value.int IntKind.i64 0, Value.int IntKind.i64 0, Value.int IntKind.i64 0, Value.int IntKind.i64 0, Value.int IntKind.i64 0, Value.int IntKind.i64 0, Value.slice none 0 0] 24)).cell? ⟨w.heap.size, i, none⟩ = #[Value.int IntKind.i64 K, Value.int IntKind.i64 F, Value.int IntKind.i64 E, Value.int IntKind.i64 B, Value.int IntKind.i64 WA, Value.int IntKind.i64 P, Value.int IntKind.i64 S, Value.int IntKind.i64 Q, Value.int IntKind.i64 BL, Value.int IntKind.i64 V, Value.slice a zs.length c][i]? := fun i => by
      rw [World.cell?_alloc_past _ _ _ (by simp), World.cell?_alloc_at _ _ _ _ rfl]
    have hzc : ∀ i, ((w.alloc (Obj.cells #[Value.int IntKind.i64 K, Value.int IntKind.i64 F, Value.int IntKind.i64 E, Value.int IntKind.i64 B, Value.int IntKind.i64 WA, Value.int IntKind.i64 P, Value.int IntKind.i64 S, Value.int IntKind.i64 Q, Value.int IntKind.i64 BL, Value.int IntKind.i64 V, Value.slice a zs.length c] 24)).alloc (Obj.cells #[Value.int IntKind.i64 0, Value.int IntKind.i64 0, Value.int IntKind.i64 0, Value.int IntKind.i64 0, Value.int IntKind.i64 0, Value.int IntKind.i64 0, Value.int IntKind.i64 0, Value.int IntKind.i64 0, Value.int IntKind.i64 0, Value.int IntKind.i64 0, Value.slice none 0 0] 24)).cell? ⟨w.heap.size + 1, i, none⟩ = #[Value.int IntKind.i64 0, Value.int IntKind.i64 0, Value.int IntKind.i64 0, Value.int IntKind.i64 0, Value.int IntKind.i64 0, Value.int IntKind.i64 0, Value.int IntKind.i64 0, Value.int IntKind.i64 0, Value.int IntKind.i64 0, Value.int IntKind.i64 0, Value.slice none 0 0][i]? := fun i => World.cell?_alloc_at _ _ _ _ (by simp)
    have hzf : ∀ i, ((w.alloc (Obj.cells #[Value.int IntKind.i64 K, Value.int IntKind.i64 F, Value.int IntKind.i64 E, Value.int IntKind.i64 B, Value.int IntKind.i64 WA, Value.int IntKind.i64 P, Value.int IntKind.i64 S, Value.int IntKind.i64 Q, Value.int IntKind.i64 BL, Value.int IntKind.i64 V, Value.slice a zs.length c] 24)).alloc (Obj.cells #[Value.int IntKind.i64 0, Value.int IntKind.i64 0, Value.int IntKind.i64 0, Value.int IntKind.i64 0, Value.int IntKind.i64 0, Value.int IntKind.i64 0, Value.int IntKind.i64 0, Value.int IntKind.i64 0, Value.int IntKind.i64 0, Value.int IntKind.i64 0, Value.slice none 0 0] 24)).frozen? ⟨w.heap.size + 1, i, none⟩ = false := fun i => World.frozen?_alloc_at _ _ _ _ (by simp)
    generalize hW1 : (w.alloc (Obj.cells #[Value.int IntKind.i64 K, Value.int IntKind.i64 F, Value.int IntKind.i64 E, Value.int IntKind.i64 B, Value.int IntKind.i64 WA, Value.int IntKind.i64 P, Value.int IntKind.i64 S, Value.int IntKind.i64 Q, Value.int IntKind.i64 BL, Value.int IntKind.i64 V, Value.slice a zs.length c] 24)).alloc (Obj.cells #[Value.int IntKind.i64 0, Value.int IntKind.i64 0, Value.int IntKind.i64 0, Value.int IntKind.i64 0, Value.int IntKind.i64 0, Value.int IntKind.i64 0, Value.int IntKind.i64 0, Value.int IntKind.i64 0, Value.int IntKind.i64 0, Value.int IntKind.i64 0, Value.slice none 0 0] 24) = W1 at *
    clear hW1
    rw [← hsz]
    have g0 : w.heap.size < W1.heap.size := by omega
    have g1 : w.heap.size + 1 < W1.heap.size := by omega
    have m3 : W1.cell? ⟨w.heap.size, 3, none⟩ = some (.int .i64 B) := hm 3
    have m4 : W1.cell? ⟨w.heap.size, 4, none⟩ = some (.int .i64 WA) := hm 4
    have m5 : W1.cell? ⟨w.heap.size, 5, none⟩ = some (.int .i64 P) := hm 5
    have m6 : W1.cell? ⟨w.heap.size, 6, none⟩ = some (.int .i64 S) := hm 6
    have m7 : W1.cell? ⟨w.heap.size, 7, none⟩ = some (.int .i64 Q) := hm 7
    have m8 : W1.cell? ⟨w.heap.size, 8, none⟩ = some (.int .i64 BL) := hm 8
    have m9 : W1.cell? ⟨w.heap.size, 9, none⟩ = some (.int .i64 V) := hm 9
    have m10 : W1.cell? ⟨w.heap.size, 10, none⟩ = some (.slice a zs.length c) := hm 10
    have HSZ : Hid _ := hsz
    clear hm hkk hsz
    generalize hKK : 1 + raw K % 10 = kk at *
    have HKK : Hid (1 + raw K % 10 = kk) := hKK
    obtain rfl : kk = 9 := H9.out
    clear hKK kb
    generalize hFF : raw F % 5 = FF at *
    generalize hEE : raw E % 1000000000001 = EE at *
    have HFF : Hid _ := hFF
    have HEE : Hid _ := hEE
    clear hFF hEE
    have hin1 := hin.later hb0
    go_wp2_with (first | (go_at_call 9; refine (pick_any _ _ _ (by omega) (by omega) (by omega)).mono ?_; rintro e w' ⟨rfl, rfl⟩))
    have hx : ∀ i, (W1.alloc (Obj.cells #[Value.int IntKind.i64 9, Value.int IntKind.i64 FF, Value.int IntKind.i64 EE, Value.int IntKind.i64 0, Value.int IntKind.i64 0, Value.int IntKind.i64 0, Value.int IntKind.i64 0, Value.int IntKind.i64 (raw Q % 1000000000001), Value.int IntKind.i64 0, Value.int IntKind.i64 0, Value.slice none 0 0] 24)).drew.cell? ⟨W1.heap.size, i, none⟩ = #[Value.int IntKind.i64 9, Value.int IntKind.i64 FF, Value.int IntKind.i64 EE, Value.int IntKind.i64 0, Value.int IntKind.i64 0, Value.int IntKind.i64 0, Value.int IntKind.i64 0, Value.int IntKind.i64 (raw Q % 1000000000001), Value.int IntKind.i64 0, Value.int IntKind.i64 0, Value.slice none 0 0][i]? := fun i => World.cell?_alloc_at _ _ _ _ rfl
    have hxf : ∀ i, (W1.alloc (Obj.cells #[Value.int IntKind.i64 9, Value.int IntKind.i64 FF, Value.int IntKind.i64 EE, Value.int IntKind.i64 0, Value.int IntKind.i64 0, Value.int IntKind.i64 0, Value.int IntKind.i64 0, Value.int IntKind.i64 (raw Q % 1000000000001), Value.int IntKind.i64 0, Value.int IntKind.i64 0, Value.slice none 0 0] 24)).drew.frozen? ⟨W1.heap.size, i, none⟩ = false := fun i => World.frozen?_alloc_at _ _ _ _ rfl
    have hb2 : Below W1.heap.size W1 (W1.alloc (Obj.cells #[Value.int IntKind.i64 9, Value.int IntKind.i64 FF, Value.int IntKind.i64 EE, Value.int IntKind.i64 0, Value.int IntKind.i64 0, Value.int IntKind.i64 0, Value.int IntKind.i64 0, Value.int IntKind.i64 (raw Q % 1000000000001), Value.int IntKind.i64 0, Value.int IntKind.i64 0, Value.slice none 0 0] 24)).drew := ((Below.refl _ _).alloc (Nat.le_refl _) _).drew
    have hs2 : (W1.alloc (Obj.cells #[Value.int IntKind.i64 9, Value.int IntKind.i64 FF, Value.int IntKind.i64 EE, Value.int IntKind.i64 0, Value.int IntKind.i64 0, Value.int IntKind.i64 0, Value.int IntKind.i64 0, Value.int IntKind.i64 (raw Q % 1000000000001), Value.int IntKind.i64 0, Value.int IntKind.i64 0, Value.slice none 0 0] 24)).drew.heap.size = W1.heap.size + 1 := by show (W1.alloc _).heap.size = _; simp
    generalize (W1.alloc (Obj.cells #[Value.int IntKind.i64 9, Value.int IntKind.i64 FF, Value.int IntKind.i64 EE, Value.int IntKind.i64 0, Value.int IntKind.i64 0, Value.int IntKind.i64 0, Value.int IntKind.i64 0, Value.int IntKind.i64 (raw Q % 1000000000001), Value.int IntKind.i64 0, Value.int IntKind.i64 0, Value.slice none 0 0] 24)).drew = W2 at *
    obtain ⟨i3, hi3, hz0, hz1, hz2⟩ := info_parts info3
    have x0 := hx 0
    have x1 := hx 1
    have x2 := hx 2
    have x3 := hx 3
    have x4 := hx 4
    have x5 := hx 5
    have x6 := hx 6
    have x7 := hx 7
    have x8 := hx 8
    have x9 := hx 9
    have x10 := hx 10
    clear hx
    go_loopw [4] (fun i wr => ∃ (t : Nat) (l : Value), t ≤ 4 ∧ t ≤ zs.length ∧ i = .int .i64 t ∧ OwnI wr (W1.heap.size + 1) l (zs.take t) ∧ wr.cell? ⟨W1.heap.size, 10, none⟩ = some l ∧ (∀ i, i < 10 → wr.cell? ⟨W1.heap.size, i, none⟩ = W2.cell? ⟨W1.heap.size, i, none⟩) ∧
      (∀ i, wr.frozen? ⟨W1.heap.size, i, none⟩ = false) ∧ Below W1.heap.size W1 wr ∧ W1.heap.size + 1 ≤ wr.heap.size) (fun i _ => 4 - (intOf i).toNat)
    case atStart => exact ⟨0, .slice none 0 0, by omega, by omega, rfl, World.ownsRow_nil _ _ _ _, x10, fun _ _ => rfl, hxf, hb2, by omega⟩
    case round =>
      obtain ⟨t, l, ht4, htz, rfl, hol, hl10, hcx, hfx, hbr, hsr⟩ := hrel
      have y0 : wr.cell? ⟨W1.heap.size, 0, none⟩ = some (.int .i64 9) := (hcx 0 (by omega)).trans x0
      have n10 : wr.cell? ⟨w.heap.size, 10, none⟩ = some (.slice a zs.length c) := (hbr.cell (by exact g0)).trans m10
      have f10 := hfx 10
      by_cases hgo : t < zs.length ∧ t < 4
      · obtain ⟨hg1, hg2⟩ := hgo
        obtain ⟨g, off, rfl, hgW, hcz⟩ := hin1.resolve_left (by intro h; subst h; simp at hg1)
        have hct : wr.cell? ⟨g, off + t, none⟩ = some (.int .i64 zs[t]) := (hbr.cell (by exact hgW)).trans (hcz t hg1)
        have HT : Hid (zs.take (t + 1) = zs.take t ++ [zs[t]]) := List.take_succ_eq_append_getElem hg1
        generalize zs[t] = ZT at *
        have d1 : decide ((t : Int) < (zs.length : Int)) = true := by simp; omega
        have d2 : decide ((t : Int) < 4) = true := by simp; omega
        have hi1 : (0 : Int) ≤ (t : Int) := by omega
        have hW1r : W1.heap.size < wr.heap.size := by omega
        have hi2 : (t : Int) < (zs.length : Int) := by omega
        have hll : (zs.take t).length ≤ 4 := by rw [List.length_take]; omega
        have HO : Hid _ := hol
        have HCX : Hid _ := hcx
        have HFX : Hid _ := hfx
        generalize hvs : zs.take t = vs at *
        have HVS : Hid _ := hvs
        clear hvs hol hcx hfx hcz
        clear m3 m4 m5 m6 m7 m8 m9 x0 x1 x2 x3 x4 x5 x6 x7 x8 x9 x10 hxf hzc hzf hin hin1
        go_wp2
        go_region_law (refine step_append_own rfl (.tmp 90) (.tmp 96) 22 rfl (W1.heap.size + 1) 3 i3 (.int .i64 0) 1 8 Tryd.underlying22 hi3 hz0 hz1 hz2 rfl (by decide) l vs.length (vs.map (Value.int .i64)) (by simp [Act.eval]) (by exact (World.ownsRow.alloc HO.out _).drew) ⟨wr.heap.size, 0, none⟩ 1 1 [.int .i64 ZT] (by simp [Act.eval]) rfl (by exact cell_one_new _ _ _) (by intro u hu; simp at hu; subst hu; rfl) (by unfold maxLen; omega) (by omega) (by show _ ≤ (World.alloc _ _).heap.size; simp; omega) ?_; intro v' w' ho' hg' _; obtain ⟨la, ln, lc, rfl⟩ := shape_of ho'; have hbb : Below (W1.heap.size + 1) wr w' := (((Below.refl _ _).alloc hsr _).drew).grown hg' (by show _ ≤ (World.alloc _ _).heap.size; simp; omega) (fun q hq => (World.ownsRow.lt HO.out q hq).1); have k10 : w'.cell? ⟨W1.heap.size, 10, none⟩ = some l := (hbb.cell (by show W1.heap.size < _; omega)).trans hl10; have kf10 : w'.frozen? ⟨W1.heap.size, 10, none⟩ = false := (hbb.frozen (by show W1.heap.size < _; omega)).trans f10)
        all_goals
          go_wp2
          go_roundw
          case rel =>
            have ho2 : OwnI w' (W1.heap.size + 1) (.slice la ln lc) (zs.take (t + 1)) := by
              rw [HT.out]
              unfold OwnI
              rw [List.length_append, List.map_append]
              exact ho'
            refine ⟨t + 1, .slice la ln lc, by omega, by omega, by go_num, ownsRow_setCell_below ho2 (by show W1.heap.size < _; omega) _, World.cell?_setCell_same _ _ _ k10, fun i hi => ?_, fun i => ?_, ((hbr.trans (hbb.mono (by omega))).setCell (Nat.le_refl _) _), by rw [show (w'.setCell _ _).heap.size = w'.heap.size by simp [World.setCell]]; exact Nat.le_trans hsr hbb.size⟩
            · rw [World.cell?_setCell_other _ _ _ _ (by intro h; have := congrArg Addr.off h; simp at this; omega), hbb.cell (by show W1.heap.size < _; omega)]
              exact HCX.out i hi
            · rw [World.frozen?_setCell, hbb.frozen (by show W1.heap.size < _; omega)]
              exact HFX.out i
          case measure => simp [intOf]; omega
      · have htm : zs.take t = zs.take 4 := by
          rcases Nat.lt_or_ge t 4 with h | h
          · rw [List.take_of_length_le (by omega), List.take_of_length_le (by omega)]
          · rw [show t = 4 by omega]
        rw [htm] at hol
        obtain ⟨la, ln, lc, rfl⟩ := shape_of hol
        have y1 : wr.cell? ⟨W1.heap.size, 1, none⟩ = some (.int .i64 FF) := (hcx 1 (by omega)).trans x1
        have y2 : wr.cell? ⟨W1.heap.size, 2, none⟩ = some (.int .i64 EE) := (hcx 2 (by omega)).trans x2
        have y3 : wr.cell? ⟨W1.heap.size, 3, none⟩ = some (.int .i64 0) := (hcx 3 (by omega)).trans x3
        have y4 : wr.cell? ⟨W1.heap.size, 4, none⟩ = some (.int .i64 0) := (hcx 4 (by omega)).trans x4
        have y5 : wr.cell? ⟨W1.heap.size, 5, none⟩ = some (.int .i64 0) := (hcx 5 (by omega)).trans x5
        have y6 : wr.cell? ⟨W1.heap.size, 6, none⟩ = some (.int .i64 0) := (hcx 6 (by omega)).trans x6
        have y7 : wr.cell? ⟨W1.heap.size, 7, none⟩ = some (.int .i64 (raw Q % 1000000000001)) := (hcx 7 (by omega)).trans x7
        have y8 : wr.cell? ⟨W1.heap.size, 8, none⟩ = some (.int .i64 0) := (hcx 8 (by omega)).trans x8
        have y9 : wr.cell? ⟨W1.heap.size, 9, none⟩ = some (.int .i64 0) := (hcx 9 (by omega)).trans x9
        have rc : ∀ i, wr.cell? ⟨w.heap.size + 1, i, none⟩ = #[Value.int IntKind.i64 0, Value.int IntKind.i64 0, Value.int IntKind.i64 0, Value.int IntKind.i64 0, Value.int IntKind.i64 0, Value.int IntKind.i64 0, Value.int IntKind.i64 0, Value.int IntKind.i64 0, Value.int IntKind.i64 0, Value.int IntKind.i64 0, Value.slice none 0 0][i]? := fun i => (hbr.cell (by exact g1)).trans (hzc i)
        have rf : ∀ i, wr.frozen? ⟨w.heap.size + 1, i, none⟩ = false := fun i => (hbr.frozen (by exact g1)).trans (hzf i)
        clear m3 m4 m5 m6 m7 m8 m9 x0 x1 x2 x3 x4 x5 x6 x7 x8 x9 x10 hxf hzc hzf hin hin1 hcx hfx htm
        have fin : ∀ W, But (w.heap.size + 1) wr W → OwnI W w.heap.size (.slice la ln lc) (tZ 9 zs) := fun W hb =>
          ((show OwnI wr (W1.heap.size + 1) (.slice la ln lc) (tZ 9 zs) from hol).but hb (by omega)).low (by omega)
        by_cases hz1' : t < zs.length
        · have d1 : decide ((t : Int) < (zs.length : Int)) = true := by simp; omega
          have d2 : decide ((t : Int) < 4) = false := by simp; omega
          go_wp2
          obtain ⟨W, hW, ⟨c0, c1, c2, c3, c4, c5, c6, c7, c8, c9, c10⟩, hbut, hbl⟩ := put11 wr (w.heap.size + 1) (.int .i64 9) (.int .i64 FF) (.int .i64 EE) (.int .i64 0) (.int .i64 0) (.int .i64 0) (.int .i64 0) (.int .i64 (raw Q % 1000000000001)) (.int .i64 0) (.int .i64 0) (.slice la ln lc) (fun i hi => by rw [rc]; simp; omega)
          rw [hW]
          have hfW := fin W hbut
          have hbW := hbl _ _ (by omega) (hb0.trans (hbr.mono (by omega)))
          clear hW rc rf y0 y1 y2 y3 y4 y5 y6 y7 y8 y9 fin hol hbut
          exact bodyPost_ret (v := .agg #[.int .i64 9, .int .i64 FF, .int .i64 EE, .int .i64 0, .int .i64 0, .int .i64 0, .int .i64 0, .int .i64 (raw Q % 1000000000001), .int .i64 0, .int .i64 0, .slice la ln lc]) (by simp [results, Tryd.results5, go_sem, c0, c1, c2, c3, c4, c5, c6, c7, c8, c9, c10]) rfl
            ⟨hbW, 9, .slice la ln lc, HKK.out.symm, by rw [HFF.out, HEE.out]; simp [tB, tW, tP, tS, tQ, tL, tV], hfW⟩
        · have d1 : decide ((t : Int) < (zs.length : Int)) = false := by simp; omega
          go_wp2
          obtain ⟨W, hW, ⟨c0, c1, c2, c3, c4, c5, c6, c7, c8, c9, c10⟩, hbut, hbl⟩ := put11 wr (w.heap.size + 1) (.int .i64 9) (.int .i64 FF) (.int .i64 EE) (.int .i64 0) (.int .i64 0) (.int .i64 0) (.int .i64 0) (.int .i64 (raw Q % 1000000000001)) (.int .i64 0) (.int .i64 0) (.slice la ln lc) (fun i hi => by rw [rc]; simp; omega)
          rw [hW]
          have hfW := fin W hbut
          have hbW := hbl _ _ (by omega) (hb0.trans (hbr.mono (by omega)))
          clear hW rc rf y0 y1 y2 y3 y4 y5 y6 y7 y8 y9 fin hol hbut
          exact bodyPost_ret (v := .agg #[.int .i64 9, .int .i64 FF, .int .i64 EE, .int .i64 0, .int .i64 0, .int .i64 0, .int .i64 0, .int .i64 (raw Q % 1000000000001), .int .i64 0, .int .i64 0, .slice la ln lc]) (by simp [results, Tryd.results5, go_sem, c0, c1, c2, c3, c4, c5, c6, c7, c8, c9, c10]) rfl
            ⟨hbW, 9, .slice la ln lc, HKK.out.symm, by rw [HFF.out, HEE.out]; simp [tB, tW, tP, tS, tQ, tL, tV], hfW⟩
end Go.Proofs.YtdcainmlcpafbaaDoor
