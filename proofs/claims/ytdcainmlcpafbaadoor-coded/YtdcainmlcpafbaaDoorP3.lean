import Derived.Test.YtdcainmlcpafbaaDoorP1
import Derived.Test.YtdcainmlcpafbaaDoorC3
import Derived.Test.YtdcainmlcpafbaaDoorCards
import Derived.Test.YtdcainmlcpafbaaDoorTie
import Derived.Lib.SmallJoins
namespace Go.Proofs.YtdcainmlcpafbaaDoor
open Go.ChangeShapes Go.WideShapes Go.ChangeAt Go.RowKit

theorem c24 : Tryd.prog.cellsOf 24 = 11 := by kernel_rfl
theorem c22 : Tryd.prog.cellsOf 22 = 1 := by kernel_rfl
theorem wf_bd {k : Int} (h : (Lit.int .i64 k).wf = true) : -9223372036854775808 ≤ k ∧ k ≤ 9223372036854775807 := by
  simpa [Lit.wf, IntKind.min, IntKind.max, IntKind.bits, IntKind.signed] using h

theorem open_msg {H : Type} {enc : TypeId × Value → H} {W : World} {base : Nat} {v : Value} {d : DataW H} {ps : List MemPlace} (hv : Value.okWide Tryd.prog W .any base 24 v) (h : DataW.Trod enc Tryd.prog W 0 (fun _ => true) true 24 v d ps) :
    ∃ (K F E B WA P S Q BL V : Int) (a : Option Addr) (zs : List Int) (c : Nat), v = .agg #[.int .i64 K, .int .i64 F, .int .i64 E, .int .i64 B, .int .i64 WA, .int .i64 P, .int .i64 S, .int .i64 Q, .int .i64 BL, .int .i64 V, .slice a zs.length c] ∧ intsAt W a zs ∧
      (-9223372036854775808 ≤ K ∧ K ≤ 9223372036854775807) ∧ (-9223372036854775808 ≤ F ∧ F ≤ 9223372036854775807) ∧ (-9223372036854775808 ≤ E ∧ E ≤ 9223372036854775807) ∧ (-9223372036854775808 ≤ B ∧ B ≤ 9223372036854775807) ∧ (-9223372036854775808 ≤ WA ∧ WA ≤ 9223372036854775807) ∧
      (-9223372036854775808 ≤ P ∧ P ≤ 9223372036854775807) ∧ (-9223372036854775808 ≤ S ∧ S ≤ 9223372036854775807) ∧ (-9223372036854775808 ≤ Q ∧ Q ≤ 9223372036854775807) ∧ (-9223372036854775808 ≤ BL ∧ BL ≤ 9223372036854775807) ∧ (-9223372036854775808 ≤ V ∧ V ≤ 9223372036854775807) ∧
      (∀ z ∈ zs, -9223372036854775808 ≤ z ∧ z ≤ 9223372036854775807) := by
  obtain ⟨cs, rfl, hsz⟩ := okWide_struct Tryd.underlying24 hv
  rw [c24] at hsz
  obtain ⟨l⟩ := cs
  simp only [List.size_toArray] at hsz
  match l, hsz with
  | [v0, v1, v2, v3, v4, v5, v6, v7, v8, v9, v10], _ =>
    obtain ⟨fuel, hf⟩ := h
    obtain ⟨xs, n, _, _, _, hlen, hfs⟩ := DataW.trod_struct Tryd.underlying24 hf
    have hlen : xs.length = 11 := hlen
    have g : ∀ i, i < 11 → ∃ y, xs[i]? = some y := fun i hi => ⟨xs[i], by simp⟩
    have int1 : ∀ (u : Value) (y : DataW H × List MemPlace), DataW.trod enc Tryd.prog W 0 (fun _ => true) true n 3 [u] = some y → ∃ k, u = .int .i64 k ∧ (-9223372036854775808 ≤ k ∧ k ≤ 9223372036854775807) := by
      intro u y hy
      obtain ⟨k, hk, _, hw⟩ := DataW.trod_int Tryd.underlying3 hy
      exact ⟨k, by simpa using hk, wf_bd hw⟩
    have q0 : DataW.trod enc Tryd.prog W 0 (fun _ => true) true n 3 (([v0, v1, v2, v3, v4, v5, v6, v7, v8, v9, v10].drop 0).take (Tryd.prog.cellsOf 3)) = xs[0]? := hfs 0 _ rfl
    rw [c3] at q0
    have q1 : DataW.trod enc Tryd.prog W 0 (fun _ => true) true n 3 (([v0, v1, v2, v3, v4, v5, v6, v7, v8, v9, v10].drop 1).take (Tryd.prog.cellsOf 3)) = xs[1]? := hfs 1 _ rfl
    rw [c3] at q1
    have q2 : DataW.trod enc Tryd.prog W 0 (fun _ => true) true n 3 (([v0, v1, v2, v3, v4, v5, v6, v7, v8, v9, v10].drop 2).take (Tryd.prog.cellsOf 3)) = xs[2]? := hfs 2 _ rfl
    rw [c3] at q2
    have q3 : DataW.trod enc Tryd.prog W 0 (fun _ => true) true n 3 (([v0, v1, v2, v3, v4, v5, v6, v7, v8, v9, v10].drop 3).take (Tryd.prog.cellsOf 3)) = xs[3]? := hfs 3 _ rfl
    rw [c3] at q3
    have q4 : DataW.trod enc Tryd.prog W 0 (fun _ => true) true n 3 (([v0, v1, v2, v3, v4, v5, v6, v7, v8, v9, v10].drop 4).take (Tryd.prog.cellsOf 3)) = xs[4]? := hfs 4 _ rfl
    rw [c3] at q4
    have q5 : DataW.trod enc Tryd.prog W 0 (fun _ => true) true n 3 (([v0, v1, v2, v3, v4, v5, v6, v7, v8, v9, v10].drop 5).take (Tryd.prog.cellsOf 3)) = xs[5]? := hfs 5 _ rfl
    rw [c3] at q5
    have q6 : DataW.trod enc Tryd.prog W 0 (fun _ => true) true n 3 (([v0, v1, v2, v3, v4, v5, v6, v7, v8, v9, v10].drop 6).take (Tryd.prog.cellsOf 3)) = xs[6]? := hfs 6 _ rfl
    rw [c3] at q6
    have q7 : DataW.trod enc Tryd.prog W 0 (fun _ => true) true n 3 (([v0, v1, v2, v3, v4, v5, v6, v7, v8, v9, v10].drop 7).take (Tryd.prog.cellsOf 3)) = xs[7]? := hfs 7 _ rfl
    rw [c3] at q7
    have q8 : DataW.trod enc Tryd.prog W 0 (fun _ => true) true n 3 (([v0, v1, v2, v3, v4, v5, v6, v7, v8, v9, v10].drop 8).take (Tryd.prog.cellsOf 3)) = xs[8]? := hfs 8 _ rfl
    rw [c3] at q8
    have q9 : DataW.trod enc Tryd.prog W 0 (fun _ => true) true n 3 (([v0, v1, v2, v3, v4, v5, v6, v7, v8, v9, v10].drop 9).take (Tryd.prog.cellsOf 3)) = xs[9]? := hfs 9 _ rfl
    rw [c3] at q9
    have q10 : DataW.trod enc Tryd.prog W 0 (fun _ => true) true n 22 (([v0, v1, v2, v3, v4, v5, v6, v7, v8, v9, v10].drop 10).take (Tryd.prog.cellsOf 22)) = xs[10]? := hfs 10 _ rfl
    rw [c22] at q10
    obtain ⟨y0, hy0⟩ := g 0 (by omega)
    rw [hy0] at q0
    obtain ⟨K, rfl, bK⟩ := int1 v0 y0 q0
    obtain ⟨y1, hy1⟩ := g 1 (by omega)
    rw [hy1] at q1
    obtain ⟨F, rfl, bF⟩ := int1 v1 y1 q1
    obtain ⟨y2, hy2⟩ := g 2 (by omega)
    rw [hy2] at q2
    obtain ⟨E, rfl, bE⟩ := int1 v2 y2 q2
    obtain ⟨y3, hy3⟩ := g 3 (by omega)
    rw [hy3] at q3
    obtain ⟨B, rfl, bB⟩ := int1 v3 y3 q3
    obtain ⟨y4, hy4⟩ := g 4 (by omega)
    rw [hy4] at q4
    obtain ⟨WA, rfl, bWA⟩ := int1 v4 y4 q4
    obtain ⟨y5, hy5⟩ := g 5 (by omega)
    rw [hy5] at q5
    obtain ⟨P, rfl, bP⟩ := int1 v5 y5 q5
    obtain ⟨y6, hy6⟩ := g 6 (by omega)
    rw [hy6] at q6
    obtain ⟨S, rfl, bS⟩ := int1 v6 y6 q6
    obtain ⟨y7, hy7⟩ := g 7 (by omega)
    rw [hy7] at q7
    obtain ⟨Q, rfl, bQ⟩ := int1 v7 y7 q7
    obtain ⟨y8, hy8⟩ := g 8 (by omega)
    rw [hy8] at q8
    obtain ⟨BL, rfl, bBL⟩ := int1 v8 y8 q8
    obtain ⟨y9, hy9⟩ := g 9 (by omega)
    rw [hy9] at q9
    obtain ⟨V, rfl, bV⟩ := int1 v9 y9 q9
    obtain ⟨y10, hy10⟩ := g 10 (by omega)
    rw [hy10] at q10
    rcases open_ints Tryd.underlying22 Tryd.underlying3 c3 q10 with ⟨hcs, _⟩ | ⟨ad, len, cap, zs, hcs, _, hl, hm, hzl, _, hcell, hwz⟩
    · have e10 : v10 = .slice none 0 0 := by simpa using hcs
      subst e10
      exact ⟨K, F, E, B, WA, P, S, Q, BL, V, none, [], 0, rfl, .inl rfl, bK, bF, bE, bB, bWA, bP, bS, bQ, bBL, bV, by simp⟩
    · have e10 : v10 = .slice (some ad) len cap := by simpa using hcs
      subst e10
      have hzl : zs.length = cap := by simpa using hzl
      have htl : (zs.take len).length = len := by rw [List.length_take]; omega
      refine ⟨K, F, E, B, WA, P, S, Q, BL, V, some ad, zs.take len, cap, by rw [htl], ?_, bK, bF, bE, bB, bWA, bP, bS, bQ, bBL, bV, fun z hz => wf_bd (hwz z (List.mem_of_mem_take hz))⟩
      by_cases h0 : len = 0
      · exact .inl (by simp [h0])
      · obtain ⟨b, off, rfl, hc⟩ := ints_at hcell (by omega)
        refine .inr ⟨b, off, rfl, World.block_lt_of_cell? W ⟨b, off + 0, none⟩ (hc 0 (by omega)), fun j hj => ?_⟩
        rw [htl] at hj
        rw [hc j (by omega)]
        simp [List.getD_eq_getElem?_getD, show j < zs.length by omega]

set_option maxRecDepth 100000 in
theorem coded_lifted (os : Os) (started : os.Started) (H : Type) (enc : TypeId × Value → H) :
    ReturnsInHanded {} Tryd.checked os 3 .any (fun w args => (Rows.codedSpec.pre enc Tryd.prog Tryd.f3 [] false w args ∧ laidMetH Tryd.prog laid2 w) ∧ sizedMet enc Tryd.prog Tryd.f3 (OpenSpec.ofChange Rows.codedSpec) false w args)
      (Rows.codedSpec.post enc Tryd.prog Tryd.f3 false true false false) := by
  refine returnsInHanded_of_change_and (C := Tryd.checked) (X := fun w _ => laidMetH Tryd.prog laid2 w) (fun _ _ _ hh h => h.of_heap hh) own started (by kernel_rfl) Tryd.func3
    (ChangeSpec.witness_shaped (enc := enc) (C := Tryd.checked) (os := os) (X := fun w _ => laidMetH Tryd.prog laid2 w) false (World.doorLaid Tryd.prog 400 os) #[.agg #[.int .i64 0, .int .i64 0, .int .i64 0, .int .i64 0, .int .i64 0, .int .i64 0, .int .i64 0, .int .i64 0, .int .i64 0, .int .i64 0, .slice none 0 0], .int .i64 0, .int .i64 0] 8 rfl (World.shaped_of_RefB (by kernel_rfl) (by kernel_rfl)) (by kernel_rfl) (by kernel_rfl) (by kernel_rfl) (door_met os _)) ?_
  intro W base args ds gs before hval0 hW _ _ hL _
  have hval : ∀ (j : Nat) t v, Tryd.f3.params[j]? = some t → args[j]? = some v → Value.okWide Tryd.prog W .any base t v := hval0
  have hW' := hW
  obtain ⟨p, q, hA0, hV, rfl, hfz, hnd⟩ := hW
  have hA : DataW.TrodAll enc Tryd.prog W 0 (fun _ => true) true Tryd.f3.params.toList args.toList ds p := hA0
  rw [Tryd.params3] at hA hval
  obtain ⟨v0, v1, v2, d0, d1, d2, p0, p1, p2, rfl, rfl, rfl, h0, h1, h2⟩ := trodAll_three hA
  obtain ⟨rfl, rfl⟩ := trodVars_none hV
  have h0k := h0
  obtain ⟨K, F, E, B, WA, P, S, Q, BL, V, a, zs, c, rfl, hin, bK, bF, bE, bB, bWA, bP, bS, bQ, bBL, bV, hzs⟩ := open_msg (hval 0 24 v0 rfl rfl) h0
  obtain ⟨AT, rfl, rfl, rfl, wa⟩ := open_int Tryd.underlying3 (hval 1 3 v1 rfl rfl) h1
  obtain ⟨TO, rfl, rfl, rfl, wt⟩ := open_int Tryd.underlying3 (hval 2 3 v2 rfl rfl) h2
  clear hA0 hval0
  simp only [List.append_nil] at hW'
  refine (coded_any K F E B WA P S Q BL V AT TO a zs c W (tabs_of_laid hL) hin bK bF bE bB bWA bP bS bQ bBL bV (wf_bd wa) (wf_bd wt) hzs).mono fun e W' ⟨he, hb⟩ => ?_
  subst he
  refine ⟨_, rfl, _, _, _, [], p0 ++ ([] ++ []), [], hW', trodAll_mk1 (shut_bool Tryd.underlying4 _), trodAll_mk3 (Below.trod laidOut (by kernel_rfl) (of_decide_eq_true (by kernel_rfl)) h0k hb (fun x hx => ?_)) (shut_int Tryd.underlying3 wa) (shut_int Tryd.underlying3 wt), rfl, hb.frame _, fun h => by cases h⟩
  simpa using hW'.lt x (by simp [hx])

theorem coded_holds : Rows.CodedSaid :=
  OpenClaim.holds_of_wide 3 Tryd.f3 rfl rfl rfl rfl rfl rfl rfl ⟨rfl, rfl, rfl, rfl, rfl⟩ rfl rfl rfl rfl rfl (by kernel_rfl) Tryd.func3 (by kernel_rfl)
    (of_decide_eq_true (by kernel_rfl)) (by unfold Func.isWrapper; first | (rw [if_pos (by decide +kernel)]; kernel_rfl) | (rw [if_neg (by decide +kernel)]; exact ⟨rfl, rfl⟩))
    (fun os started H enc _ => coded_lifted os started H enc)

theorem coded_card : Rows.CodedCardSaid :=
  Claim7.holds_tied_plain_at .later [] [.data, .data] true (true, "efb93beadbe50acd7d074e471fbca729404455a819d22f9c50d1121b00aca3a3") false
    coded_holds (fun _ h => by cases h) (by kernel_rfl) (fun _ h => by cases h) coded_row_tie rfl ⟨rfl, rfl⟩ (by kernel_rfl) rfl
    (fun f fn hf hfn => by
      obtain rfl : f = 3 := Option.some.inj ((show Tryd.prog.funcNamed "keystone/keystonekeep.Coded" = some 3 by kernel_rfl).symm.trans hf) |>.symm
      obtain rfl : fn = Tryd.f3 := (Option.some.inj (Tryd.func3.symm.trans hfn)).symm
      exact ⟨by kernel_rfl, fun j t ht => by
        rw [Tryd.params3] at ht
        have hm : t ∈ [24, 3, 3] := by simpa using Array.mem_of_getElem? ht
        have hall : ([24, 3, 3].all fun u => !Tryd.prog.wantsStandIn u) = true := by kernel_rfl
        exact (show Tryd.prog.wantsStandIn t = false by simpa using List.all_eq_true.1 hall t hm)⟩)
    (by kernel_rfl)
#print axioms coded_card
end Go.Proofs.YtdcainmlcpafbaaDoor
