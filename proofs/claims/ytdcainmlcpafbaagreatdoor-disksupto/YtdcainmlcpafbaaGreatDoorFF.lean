import Derived.Test.YtdcainmlcpafbaaGreatDoorFE
import Derived.Test.YtdcainmlcpafbaaGreatDoorG16
set_option linter.unusedSimpArgs false
set_option linter.unusedVariables false
namespace Go.Proofs.YtdcainmlcpafbaaGreatDoor
open Go.RowKit

theorem fGet_cons (f : FD) (fs : List FD) (x : List UInt8) : fGet (f :: fs) x = if f.n = x then some f else fGet fs x := by
  unfold fGet
  rw [List.find?_cons]
  by_cases h : f.n = x
  · rw [if_pos h, show (f.n == x) = true by simpa using h]
  · rw [if_neg h, show (f.n == x) = false by simpa using h]
theorem fGet_nil (x : List UInt8) : fGet [] x = none := rfl
theorem fGet_name {fs : List FD} {x : List UInt8} {f : FD} (h : fGet fs x = some f) : f.n = x ∧ f ∈ fs := by
  unfold fGet at h
  have h1 := List.find?_some h
  exact ⟨by simpa using h1, List.mem_of_find?_eq_some h⟩
theorem fGet_wOut (fs : List FD) (nm x : List UInt8) : fGet (wOut fs nm) x = if x = nm then none else fGet fs x := by
  induction fs with
  | nil => simp [wOut, fGet_nil]
  | cons f fs ih =>
    have hw : wOut (f :: fs) nm = if f.n = nm then wOut fs nm else f :: wOut fs nm := by
      unfold wOut
      rw [List.filter_cons]
      by_cases h : f.n = nm
      · simp [h]
      · simp [h]
    rw [hw, fGet_cons]
    by_cases h : f.n = nm
    · rw [if_pos h, ih]
      by_cases hx : x = nm
      · rw [if_pos hx, if_pos hx]
      · rw [if_neg hx, if_neg hx, if_neg (by intro hh; exact hx (by rw [← hh, h]))]
    · rw [if_neg h, fGet_cons, ih]
      by_cases hx : x = nm
      · subst hx
        rw [if_neg h, if_pos rfl, if_pos rfl]
      · rw [if_neg hx, if_neg hx]
theorem fGet_snoc (fs : List FD) (f : FD) (x : List UInt8) : fGet (fs ++ [f]) x = (fGet fs x).or (if f.n = x then some f else none) := by
  induction fs with
  | nil => rw [List.nil_append, fGet_cons, fGet_nil]; simp
  | cons g fs ih =>
    rw [List.cons_append, fGet_cons, fGet_cons, ih]
    by_cases h : g.n = x
    · rw [if_pos h, if_pos h]; rfl
    · rw [if_neg h, if_neg h]
theorem fIdx_cons (f : FD) (fs : List FD) (nm : List UInt8) : fIdx (f :: fs) nm = if f.n = nm then some 0 else (fIdx fs nm).map (· + 1) := by
  unfold fIdx
  rw [List.findIdx?_cons]
  by_cases h : f.n = nm
  · simp [h]
  · simp [h]
theorem fGet_set : ∀ (fs : List FD) (nm x : List UInt8) (i : Nat) (f' : FD), fIdx fs nm = some i → f'.n = nm → fGet (fs.set i f') x = if x = nm then some f' else fGet fs x := by
  intro fs
  induction fs with
  | nil => intro nm x i f' h; simp [fIdx] at h
  | cons f fs ih =>
    intro nm x i f' h hn
    rw [fIdx_cons] at h
    by_cases hf : f.n = nm
    · rw [if_pos hf] at h
      obtain rfl : i = 0 := by simpa using h.symm
      rw [List.set_cons_zero, fGet_cons, fGet_cons, hn, hf]
      by_cases hx : x = nm
      · subst hx; simp
      · rw [if_neg (fun hh => hx hh.symm), if_neg hx, if_neg (fun hh => hx hh.symm)]
    · rw [if_neg hf] at h
      cases hj : fIdx fs nm with
      | none => rw [hj] at h; simp at h
      | some j =>
        rw [hj] at h
        obtain rfl : i = j + 1 := by simpa using h.symm
        rw [List.set_cons_succ, fGet_cons, fGet_cons, ih nm x j f' hj hn]
        by_cases hx : x = nm
        · subst hx
          rw [if_neg hf, if_pos rfl, if_pos rfl]
        · rw [if_neg hx, if_neg hx]
theorem idx_file {fs : List FD} {nm : List UInt8} {i : Nat} (h : fIdx fs nm = some i) : ∃ f, fGet fs nm = some f ∧ fs.getD i noFile = f ∧ f.n = nm := by
  have hi : i < fs.length := by
    have h' := h
    unfold fIdx at h'
    rw [List.findIdx?_eq_some_iff_getElem] at h'
    exact h'.1
  have hg := fGet_of_idx h hi
  exact ⟨fs[i], hg, by rw [List.getD_eq_getElem?_getD, List.getElem?_eq_getElem hi, Option.getD_some], (fGet_name hg).1⟩
theorem aApp_get (fs : List FD) (nm dt x : List UInt8) : fGet (aApp fs nm dt) x = if x = nm then some ⟨nm, (fBox (fGet fs nm)).d ++ dt, (fBox (fGet fs nm)).s⟩ else fGet fs x := by
  unfold aApp
  cases h : fIdx fs nm with
  | none =>
    simp only
    rw [fGet_snoc]
    by_cases hx : x = nm
    · subst hx
      rw [fGet_of_none h, if_pos rfl, if_pos rfl]
      rfl
    · rw [if_neg hx, if_neg (fun hh => hx hh.symm)]
      cases fGet fs x <;> rfl
  | some i =>
    obtain ⟨f, h1, h2, h3⟩ := idx_file h
    simp only
    rw [fGet_set fs nm x i _ h (by rw [h2, h3]), h2, h1]
    by_cases hx : x = nm
    · rw [if_pos hx, if_pos hx, h3]; rfl
    · rw [if_neg hx, if_neg hx]
theorem rApp_get (fs : List FD) (nm dt x : List UInt8) : fGet (rApp fs nm dt) x = if x = nm then some ⟨nm, (fBox (fGet fs nm)).d ++ dt, (fBox (fGet fs nm)).s⟩ else fGet fs x := by
  unfold rApp
  rw [fGet_snoc, fGet_wOut]
  by_cases hx : x = nm
  · subst hx
    rw [if_pos rfl, if_pos rfl, if_pos rfl]
    rfl
  · rw [if_neg hx, if_neg hx, if_neg (fun hh => hx hh.symm)]
    cases fGet fs x <;> rfl
def synGet (fs : List FD) (nm x : List UInt8) : Option FD := match fGet fs nm with
  | none => fGet fs x
  | some f => if x = nm then some ⟨nm, f.d, f.d.length⟩ else fGet fs x
theorem aSyn_get (fs : List FD) (nm x : List UInt8) : fGet (aSyn fs nm) x = synGet fs nm x := by
  unfold aSyn synGet
  cases h : fIdx fs nm with
  | none => simp only; rw [fGet_of_none h]
  | some i =>
    obtain ⟨f, h1, h2, h3⟩ := idx_file h
    simp only
    rw [fGet_set fs nm x i _ h (by rw [h2, h3]), h2, h1, h3]
theorem rSyn_get (fs : List FD) (nm x : List UInt8) : fGet (rSyn fs nm) x = synGet fs nm x := by
  unfold rSyn synGet
  cases h : fGet fs nm with
  | none => rfl
  | some f =>
    simp only
    rw [fGet_snoc, fGet_wOut]
    by_cases hx : x = nm
    · subst hx
      rw [if_pos rfl, if_pos rfl, if_pos rfl]
      rfl
    · rw [if_neg hx, if_neg hx, if_neg (fun hh => hx hh.symm)]
      cases fGet fs x <;> rfl
def renGet (fs : List FD) (a b x : List UInt8) : Option FD := match fGet fs a with
  | none => fGet fs x
  | some f => if x = b then some ⟨b, f.d, f.s⟩ else if x = a then none else fGet fs x
theorem ren_list (fs : List FD) (a b x : List UInt8) (f : FD) (h : f.n = b) : fGet (wOut (wOut fs a) b ++ [f]) x = if x = b then some f else if x = a then none else fGet fs x := by
  rw [fGet_snoc, fGet_wOut, fGet_wOut, h]
  by_cases hx : x = b
  · subst hx
    rw [if_pos rfl, if_pos rfl, if_pos rfl]
    rfl
  · rw [if_neg hx, if_neg hx]
    generalize (if x = a then none else fGet fs x) = o
    rw [if_neg (fun hh => hx hh.symm)]
    cases o <;> rfl
theorem rRen_get (fs : List FD) (a b x : List UInt8) : fGet (rRen fs a b) x = renGet fs a b x := by
  unfold rRen renGet
  cases h : fGet fs a with
  | none => rfl
  | some f => exact ren_list fs a b x _ rfl
theorem aRen_get (fs : List FD) (a b x : List UInt8) : fGet (aRen fs a b) x = renGet fs a b x := by
  unfold aRen renGet
  cases h : fIdx fs a with
  | none => simp only; rw [fGet_of_none h]
  | some i =>
    obtain ⟨f, h1, h2, h3⟩ := idx_file h
    simp only
    rw [h1]
    by_cases hab : a = b
    · rw [if_pos hab]
      subst hab
      simp only
      by_cases hx : x = a
      · subst hx
        rw [if_pos rfl, h1, ← h3]
      · rw [if_neg hx, if_neg hx]
    · rw [if_neg hab, h2]
      exact ren_list fs a b x _ rfl
theorem cr_get (keep : Int) (fs : List FD) (x : List UInt8) : fGet (fs.map (crF keep)) x = (fGet fs x).map (crF keep) := by
  induction fs with
  | nil => rfl
  | cons f fs ih =>
    rw [List.map_cons, fGet_cons, fGet_cons, ih]
    show (if f.n = x then _ else _) = _
    by_cases h : f.n = x
    · rw [if_pos h, if_pos h]; rfl
    · rw [if_neg h, if_neg h]
/-- Two disks that a caller cannot tell apart. -/
structure Sim (B N : Nat) (fs gs : List FD) : Prop where
  get : ∀ x, fGet fs x = fGet gs x
  okf : ∀ f ∈ fs, f.s ≤ f.d.length ∧ f.d.length ≤ B
  okg : ∀ f ∈ gs, f.s ≤ f.d.length ∧ f.d.length ≤ B
  lf : fs.length ≤ N
  lg : gs.length ≤ N
theorem box_ok {B : Nat} {fs : List FD} (h : ∀ f ∈ fs, f.s ≤ f.d.length ∧ f.d.length ≤ B) (nm : List UInt8) : (fBox (fGet fs nm)).s ≤ (fBox (fGet fs nm)).d.length ∧ (fBox (fGet fs nm)).d.length ≤ B := by
  cases hg : fGet fs nm with
  | none => exact ⟨Nat.le_refl _, Nat.zero_le _⟩
  | some f => exact h f (fGet_name hg).2
theorem wOut_ok {B : Nat} {fs : List FD} (h : ∀ f ∈ fs, f.s ≤ f.d.length ∧ f.d.length ≤ B) (nm : List UInt8) : ∀ f ∈ wOut fs nm, f.s ≤ f.d.length ∧ f.d.length ≤ B := fun f hf => h f (List.mem_filter.1 hf).1
theorem wOut_le (fs : List FD) (nm : List UInt8) : (wOut fs nm).length ≤ fs.length := List.length_filter_le _ _
theorem snoc_ok {B : Nat} {fs : List FD} {f : FD} (h : ∀ f ∈ fs, f.s ≤ f.d.length ∧ f.d.length ≤ B) (hf : f.s ≤ f.d.length ∧ f.d.length ≤ B) : ∀ g ∈ fs ++ [f], g.s ≤ g.d.length ∧ g.d.length ≤ B := by
  intro g hg
  rcases List.mem_append.1 hg with hg | hg
  · exact h g hg
  · obtain rfl : g = f := by simpa using hg
    exact hf
theorem set_ok {B : Nat} {fs : List FD} {i : Nat} {f : FD} (h : ∀ f ∈ fs, f.s ≤ f.d.length ∧ f.d.length ≤ B) (hf : f.s ≤ f.d.length ∧ f.d.length ≤ B) : ∀ g ∈ fs.set i f, g.s ≤ g.d.length ∧ g.d.length ≤ B := by
  intro g hg
  rcases List.mem_or_eq_of_mem_set hg with hg | hg
  · exact h g hg
  · rw [hg]; exact hf
theorem ok_mono {B B' : Nat} {fs : List FD} (h : ∀ f ∈ fs, f.s ≤ f.d.length ∧ f.d.length ≤ B) (hB : B ≤ B') : ∀ f ∈ fs, f.s ≤ f.d.length ∧ f.d.length ≤ B' := fun f hf => ⟨(h f hf).1, Nat.le_trans (h f hf).2 hB⟩
theorem Sim.app {B N : Nat} {fs gs : List FD} (h : Sim B N fs gs) (nm dt : List UInt8) : Sim (B + dt.length) (N + 1) (aApp fs nm dt) (rApp gs nm dt) := by
  have bf := box_ok h.okf nm
  have bg := box_ok h.okg nm
  have hf := ok_mono h.okf (Nat.le_add_right B dt.length)
  have hg := ok_mono h.okg (Nat.le_add_right B dt.length)
  refine ⟨fun x => by rw [aApp_get, rApp_get, h.get nm, h.get x], ?_, ?_, ?_, ?_⟩
  · unfold aApp
    cases hi : fIdx fs nm with
    | none => exact snoc_ok hf ⟨Nat.zero_le _, by simp⟩
    | some i =>
      obtain ⟨f, h1, h2, h3⟩ := idx_file hi
      have h4 := h.okf f (fGet_name h1).2
      simp only
      rw [h2]
      exact set_ok hf ⟨by simp; omega, by simp; omega⟩
  · unfold rApp
    exact snoc_ok (wOut_ok hg nm) ⟨by simp; omega, by simp; omega⟩
  · unfold aApp
    have := h.lf
    cases hi : fIdx fs nm with
    | none => simp; omega
    | some i => simp; omega
  · unfold rApp
    have := h.lg
    have := wOut_le gs nm
    simp; omega
theorem Sim.rem {B N : Nat} {fs gs : List FD} (h : Sim B N fs gs) (nm : List UInt8) : Sim B N (wOut fs nm) (wOut gs nm) :=
  ⟨fun x => by rw [fGet_wOut, fGet_wOut, h.get x], wOut_ok h.okf nm, wOut_ok h.okg nm, Nat.le_trans (wOut_le fs nm) h.lf, Nat.le_trans (wOut_le gs nm) h.lg⟩
theorem Sim.syn {B N : Nat} {fs gs : List FD} (h : Sim B N fs gs) (nm : List UInt8) : Sim B (N + 1) (aSyn fs nm) (rSyn gs nm) := by
  refine ⟨fun x => by rw [aSyn_get, rSyn_get]; unfold synGet; rw [h.get nm, h.get x], ?_, ?_, ?_, ?_⟩
  · unfold aSyn
    cases hi : fIdx fs nm with
    | none => exact h.okf
    | some i =>
      obtain ⟨f, h1, h2, h3⟩ := idx_file hi
      have h4 := h.okf f (fGet_name h1).2
      simp only
      rw [h2]
      exact set_ok h.okf ⟨Nat.le_refl _, h4.2⟩
  · unfold rSyn
    cases hg : fGet gs nm with
    | none => exact h.okg
    | some f => exact snoc_ok (wOut_ok h.okg nm) ⟨Nat.le_refl _, (h.okg f (fGet_name hg).2).2⟩
  · unfold aSyn
    have := h.lf
    cases hi : fIdx fs nm with
    | none => simp only; omega
    | some i => simp; omega
  · unfold rSyn
    have := h.lg
    have := wOut_le gs nm
    cases hg : fGet gs nm with
    | none => simp only; omega
    | some f => simp; omega
theorem Sim.ren {B N : Nat} {fs gs : List FD} (h : Sim B N fs gs) (a b : List UInt8) : Sim B (N + 1) (aRen fs a b) (rRen gs a b) := by
  refine ⟨fun x => by rw [aRen_get, rRen_get]; unfold renGet; rw [h.get a, h.get x], ?_, ?_, ?_, ?_⟩
  · unfold aRen
    cases hi : fIdx fs a with
    | none => exact h.okf
    | some i =>
      obtain ⟨f, h1, h2, h3⟩ := idx_file hi
      have h4 := h.okf f (fGet_name h1).2
      simp only
      rw [h2]
      split
      · exact h.okf
      · exact snoc_ok (wOut_ok (wOut_ok h.okf a) b) h4
  · unfold rRen
    cases hg : fGet gs a with
    | none => exact h.okg
    | some f => exact snoc_ok (wOut_ok (wOut_ok h.okg a) b) (h.okg f (fGet_name hg).2)
  · unfold aRen
    have := h.lf
    have := wOut_le fs a
    have := wOut_le (wOut fs a) b
    cases hi : fIdx fs a with
    | none => simp only; omega
    | some i =>
      simp only
      split
      · omega
      · simp; omega
  · unfold rRen
    have := h.lg
    have := wOut_le gs a
    have := wOut_le (wOut gs a) b
    cases hg : fGet gs a with
    | none => simp only; omega
    | some f => simp; omega
theorem cr_ok {B : Nat} {fs : List FD} (h : ∀ f ∈ fs, f.s ≤ f.d.length ∧ f.d.length ≤ B) (keep : Int) : ∀ f ∈ fs.map (crF keep), f.s ≤ f.d.length ∧ f.d.length ≤ B := by
  intro f hf
  obtain ⟨g, hg, rfl⟩ := List.mem_map.1 hf
  have h1 := h g hg
  have h2 := cN_le keep g h1.1
  unfold crF
  simp only [List.length_take]
  omega
theorem Sim.cr {B N : Nat} {fs gs : List FD} (h : Sim B N fs gs) (keep : Int) : Sim B N (fs.map (crF keep)) (gs.map (crF keep)) :=
  ⟨fun x => by rw [cr_get, cr_get, h.get x], cr_ok h.okf keep, cr_ok h.okg keep, by rw [List.length_map]; exact h.lf, by rw [List.length_map]; exact h.lg⟩
theorem Sim.new (B N : Nat) : Sim B N [] [] := ⟨fun _ => rfl, by simp, by simp, Nat.zero_le _, Nat.zero_le _⟩
theorem Sim.mono {B B' N N' : Nat} {fs gs : List FD} (h : Sim B N fs gs) (hB : B ≤ B') (hN : N ≤ N') : Sim B' N' fs gs := ⟨h.get, ok_mono h.okf hB, ok_mono h.okg hB, Nat.le_trans h.lf hN, Nat.le_trans h.lg hN⟩

theorem DS.apart {ty e : TypeId} {low : Nat} {w : World} {S : Nat} {v : Value} {fs : List FD} {left : Int} (h : DS ty e low w S v fs left) {k : Nat} {cs : Array Value} {t : TypeId} (hk : w.heap[k]? = some (.cells cs t (0, 0))) (h1 : t ≠ ty) (h2 : t ≠ e) : k ≠ S ∧ some k ≠ v.ownBlock := by
  refine ⟨?_, ?_⟩
  · intro hh
    subst hh
    rw [h.st] at hk
    simp at hk
    exact h1 hk.2.symm
  · intro hh
    rcases h.row.2 with ⟨h3, _⟩ | ⟨g', cap, cur, h3, _, hg, _⟩
    · rw [h3] at hh; simp [Value.ownBlock] at hh
    · rw [h3] at hh
      simp [Value.ownBlock] at hh
      subst hh
      rw [hk] at hg
      simp at hg
      exact h2 hg.2
theorem DS.rowAt {ty e : TypeId} {low : Nat} {w : World} {S : Nat} {v : Value} {fs : List FD} {left : Int} (h : DS ty e low w S v fs left) {g : Nat} (hg : v.ownBlock = some g) : ∃ cur, w.heap[g]? = some (.cells cur e (0, 0)) := by
  rcases h.row.2 with ⟨h3, _⟩ | ⟨g', cap, cur, h3, _, hg', _⟩
  · rw [h3] at hg; simp [Value.ownBlock] at hg
  · rw [h3] at hg
    simp [Value.ownBlock] at hg
    subst hg
    exact ⟨cur, hg'⟩
/-- A step on one disk leaves another's state as it was. -/
theorem DS.other {ty e ty' e' : TypeId} {low low' : Nat} {w w' : World} {S R : Nat} {va vr : Value} {fs gs : List FD} {l l2 : Int} (a : DS ty e low w S va fs l) (r : DS ty' e' low' w R vr gs l2) (h1 : ty' ≠ ty) (h2 : ty' ≠ e) (h3 : e' ≠ ty) (h4 : e' ≠ e) (hk : Kpt (fun b => b = S ∨ some b = va.ownBlock) w w') : DS ty' e' low' w' R vr gs l2 := by
  have q := a.apart r.st h1 h2
  refine r.kept (hk.block R r.lt (by rintro (hh | hh); exact q.1 hh; exact q.2 hh)) (fun g hg => ?_)
  obtain ⟨cur, hc⟩ := r.rowAt hg
  have q2 := a.apart hc h3 h4
  exact hk.block g (r.row.lt g hg).2 (by rintro (hh | hh); exact q2.1 hh; exact q2.2 hh)
theorem Hands.other {w w' : World} {D' H' S' : Nat} {ty e : TypeId} {low : Nat} {va : Value} {fs : List FD} {l : Int} {T : Nat} (hh : Hands w D' H' S') (a : DS ty e low w T va fs l) (h1 : 100 ≠ ty) (h2 : 100 ≠ e) (h3 : 102 ≠ ty) (h4 : 102 ≠ e) (hk : Kpt (fun b => b = T ∨ some b = va.ownBlock) w w') : Hands w' D' H' S' := by
  have q1 := a.apart hh.d h1 h2
  have q2 := a.apart hh.h h3 h4
  exact hh.later (hk.block D' (Array.getElem?_eq_some_iff.1 hh.d).1 (by rintro (hx | hx); exact q1.1 hx; exact q1.2 hx)) (hk.block H' (Array.getElem?_eq_some_iff.1 hh.h).1 (by rintro (hx | hx); exact q2.1 hx; exact q2.2 hx))

theorem aappend_all (low D H S : Nat) (v : Value) (fs : List FD) (left : Int) (nm dt : List UInt8) (w : World) (hH : Hands w D H S) (hDS : D ≠ S) (h : DS 98 107 low w S v fs left) (hb : -9223372036854775808 ≤ left ∧ left ≤ 9223372036854775807) (hl : fs.length ≤ 3000000000) (hlow : low ≤ w.heap.size) (hcat : ∀ f ∈ fs, f.d.length + dt.length ≤ 3000000000) (hdt : dt.length ≤ 3000000000) :
    Calls Tryz.prog 32 #[.pointer (some ⟨D, 0, none⟩), .string (strOf nm), .string (strOf dt)] w fun r w' => r = .returned (.bool (decide (left ≠ 0))) ∧ Did 98 107 low w S v (if left = 0 then fs else aApp fs nm dt) (stepL left) w' := by
  by_cases h0 : left = 0
  · subst h0
    refine (aappend_zero low D H S v fs nm dt w hH h).mono ?_
    rintro r w' ⟨rfl, hd⟩
    exact ⟨rfl, hd⟩
  · refine (aappend_go low D H S v fs left nm dt w hH hDS h h0 hb hl hlow hcat hdt).mono ?_
    rintro r w' ⟨rfl, hd⟩
    refine ⟨?_, ?_⟩
    · rw [show decide (left ≠ 0) = true by simpa using h0]
    · rw [if_neg h0]; exact hd

theorem async_all (low D H S : Nat) (v : Value) (fs : List FD) (left : Int) (nm : List UInt8) (w : World) (hH : Hands w D H S) (hDS : D ≠ S) (h : DS 98 107 low w S v fs left) (hb : -9223372036854775808 ≤ left ∧ left ≤ 9223372036854775807) (hl : fs.length ≤ 3000000000) (hlow : low ≤ w.heap.size) (hdl : ∀ f ∈ fs, f.d.length ≤ 3000000000) :
    Calls Tryz.prog 34 #[.pointer (some ⟨D, 0, none⟩), .string (strOf nm)] w fun r w' => r = .returned (.bool (decide (left ≠ 0))) ∧ Did 98 107 low w S v (if left = 0 then fs else aSyn fs nm) (stepL left) w' := by
  by_cases h0 : left = 0
  · subst h0
    refine (async_zero low D H S v fs nm w hH h).mono ?_
    rintro r w' ⟨rfl, hd⟩
    exact ⟨rfl, hd⟩
  · refine (async_go low D H S v fs left nm w hH hDS h h0 hb hl hlow hdl).mono ?_
    rintro r w' ⟨rfl, hd⟩
    refine ⟨?_, ?_⟩
    · rw [show decide (left ≠ 0) = true by simpa using h0]
    · rw [if_neg h0]; exact hd

theorem arename_all (low D H S : Nat) (v : Value) (fs : List FD) (left : Int) (nm dt : List UInt8) (w : World) (hH : Hands w D H S) (hDS : D ≠ S) (h : DS 98 107 low w S v fs left) (hb : -9223372036854775808 ≤ left ∧ left ≤ 9223372036854775807) (hl : fs.length ≤ 3000000000) (hlow : low ≤ w.heap.size) :
    Calls Tryz.prog 36 #[.pointer (some ⟨D, 0, none⟩), .string (strOf nm), .string (strOf dt)] w fun r w' => r = .returned (.bool (decide (left ≠ 0))) ∧ Did 98 107 low w S v (if left = 0 then fs else aRen fs nm dt) (stepL left) w' := by
  by_cases h0 : left = 0
  · subst h0
    refine (arename_zero low D H S v fs nm dt w hH h).mono ?_
    rintro r w' ⟨rfl, hd⟩
    exact ⟨rfl, hd⟩
  · refine (arename_go low D H S v fs left nm dt w hH hDS h h0 hb hl hlow).mono ?_
    rintro r w' ⟨rfl, hd⟩
    refine ⟨?_, ?_⟩
    · rw [show decide (left ≠ 0) = true by simpa using h0]
    · rw [if_neg h0]; exact hd

theorem aremove_all (low D H S : Nat) (v : Value) (fs : List FD) (left : Int) (nm : List UInt8) (w : World) (hH : Hands w D H S) (hDS : D ≠ S) (h : DS 98 107 low w S v fs left) (hb : -9223372036854775808 ≤ left ∧ left ≤ 9223372036854775807) (hl : fs.length ≤ 3000000000) (hlow : low ≤ w.heap.size) :
    Calls Tryz.prog 38 #[.pointer (some ⟨D, 0, none⟩), .string (strOf nm)] w fun r w' => r = .returned (.bool (decide (left ≠ 0))) ∧ Did 98 107 low w S v (if left = 0 then fs else wOut fs nm) (stepL left) w' := by
  by_cases h0 : left = 0
  · subst h0
    refine (aremove_zero low D H S v fs nm w hH h).mono ?_
    rintro r w' ⟨rfl, hd⟩
    exact ⟨rfl, hd⟩
  · refine (aremove_go low D H S v fs left nm w hH hDS h h0 hb hl hlow).mono ?_
    rintro r w' ⟨rfl, hd⟩
    refine ⟨?_, ?_⟩
    · rw [show decide (left ≠ 0) = true by simpa using h0]
    · rw [if_neg h0]; exact hd

theorem rappend_all (low R : Nat) (v : Value) (fs : List FD) (left : Int) (nm dt : List UInt8) (w : World) (h : DS 105 109 low w R v fs left) (hb : -9223372036854775808 ≤ left ∧ left ≤ 9223372036854775807) (hl : fs.length ≤ 3000000000) (hlow : low ≤ w.heap.size) (hcat : (fBox (fGet fs nm)).d.length + dt.length ≤ 3000000000) :
    Calls Tryz.prog 33 #[.pointer (some ⟨R, 0, none⟩), .string (strOf nm), .string (strOf dt)] w fun r w' => r = .returned (.bool (decide (left ≠ 0))) ∧ Did 105 109 low w R v (if left = 0 then fs else rApp fs nm dt) (stepL left) w' := by
  by_cases h0 : left = 0
  · subst h0
    refine (rappend_zero low R v fs nm dt w h hl).mono ?_
    rintro r w' ⟨rfl, hd⟩
    exact ⟨rfl, hd⟩
  · refine (rappend_go low R v fs left nm dt w h h0 hb hl hlow hcat).mono ?_
    rintro r w' ⟨rfl, hd⟩
    refine ⟨?_, ?_⟩
    · rw [show decide (left ≠ 0) = true by simpa using h0]
    · rw [if_neg h0]; exact hd

theorem rsync_all (low R : Nat) (v : Value) (fs : List FD) (left : Int) (nm : List UInt8) (w : World) (h : DS 105 109 low w R v fs left) (hb : -9223372036854775808 ≤ left ∧ left ≤ 9223372036854775807) (hl : fs.length ≤ 3000000000) (hlow : low ≤ w.heap.size) (hdl : (fBox (fGet fs nm)).d.length ≤ 3000000000) :
    Calls Tryz.prog 35 #[.pointer (some ⟨R, 0, none⟩), .string (strOf nm)] w fun r w' => r = .returned (.bool (decide (left ≠ 0))) ∧ Did 105 109 low w R v (if left = 0 then fs else rSyn fs nm) (stepL left) w' := by
  by_cases h0 : left = 0
  · subst h0
    refine (rsync_zero low R v fs nm w h hl).mono ?_
    rintro r w' ⟨rfl, hd⟩
    exact ⟨rfl, hd⟩
  · refine (rsync_go low R v fs left nm w h h0 hb hl hlow hdl).mono ?_
    rintro r w' ⟨rfl, hd⟩
    refine ⟨?_, ?_⟩
    · rw [show decide (left ≠ 0) = true by simpa using h0]
    · rw [if_neg h0]; exact hd

theorem rrename_all (low R : Nat) (v : Value) (fs : List FD) (left : Int) (nm dt : List UInt8) (w : World) (h : DS 105 109 low w R v fs left) (hb : -9223372036854775808 ≤ left ∧ left ≤ 9223372036854775807) (hl : fs.length ≤ 3000000000) (hlow : low ≤ w.heap.size) :
    Calls Tryz.prog 37 #[.pointer (some ⟨R, 0, none⟩), .string (strOf nm), .string (strOf dt)] w fun r w' => r = .returned (.bool (decide (left ≠ 0))) ∧ Did 105 109 low w R v (if left = 0 then fs else rRen fs nm dt) (stepL left) w' := by
  by_cases h0 : left = 0
  · subst h0
    refine (rrename_zero low R v fs nm dt w h hl).mono ?_
    rintro r w' ⟨rfl, hd⟩
    exact ⟨rfl, hd⟩
  · refine (rrename_go low R v fs left nm dt w h h0 hb hl hlow).mono ?_
    rintro r w' ⟨rfl, hd⟩
    refine ⟨?_, ?_⟩
    · rw [show decide (left ≠ 0) = true by simpa using h0]
    · rw [if_neg h0]; exact hd

theorem rremove_all (low R : Nat) (v : Value) (fs : List FD) (left : Int) (nm : List UInt8) (w : World) (h : DS 105 109 low w R v fs left) (hb : -9223372036854775808 ≤ left ∧ left ≤ 9223372036854775807) (hl : fs.length ≤ 3000000000) (hlow : low ≤ w.heap.size) :
    Calls Tryz.prog 39 #[.pointer (some ⟨R, 0, none⟩), .string (strOf nm)] w fun r w' => r = .returned (.bool (decide (left ≠ 0))) ∧ Did 105 109 low w R v (if left = 0 then fs else wOut fs nm) (stepL left) w' := by
  by_cases h0 : left = 0
  · subst h0
    refine (rremove_zero low R v fs nm w h hl).mono ?_
    rintro r w' ⟨rfl, hd⟩
    exact ⟨rfl, hd⟩
  · refine (rremove_go low R v fs left nm w h h0 hb hl hlow).mono ?_
    rintro r w' ⟨rfl, hd⟩
    refine ⟨?_, ?_⟩
    · rw [show decide (left ≠ 0) = true by simpa using h0]
    · rw [if_neg h0]; exact hd


/-- A disk, what others have of it, the document's. -/
structure Plate (low : Nat) (w : World) (D H S R : Nat) (va vr : Value) (fs gs : List FD) (left : Int) (B N : Nat) : Prop where
  hands : Hands w D H S
  a : DS 98 107 low w S va fs left
  r : DS 105 109 low w R vr gs left
  sim : Sim B N fs gs
  lo : -1 ≤ left
  hi : left ≤ 9223372036854775807
theorem Plate.later {low : Nat} {w w' : World} {D H S R : Nat} {va vr : Value} {fs gs : List FD} {left : Int} {B N : Nat} (p : Plate low w D H S R va vr fs gs left B N) (hb : Below w.heap.size w w') : Plate low w' D H S R va vr fs gs left B N :=
  ⟨p.hands.later (hb.block D (Array.getElem?_eq_some_iff.1 p.hands.d).1) (hb.block H (Array.getElem?_eq_some_iff.1 p.hands.h).1), p.a.later hb, p.r.later hb, p.sim, p.lo, p.hi⟩
/-- What a step of a disk leaves behind. -/
def Acted (low : Nat) (w : World) (D H S R : Nat) (va vr : Value) (B N : Nat) (w' : World) : Prop :=
  ∃ va' vr' fs' gs' left', Plate low w' D H S R va' vr' fs' gs' left' B N ∧ Kpt (fun b => b = S ∨ b = R ∨ some b = va.ownBlock ∨ some b = vr.ownBlock) w w' ∧ (∀ g, va'.ownBlock = some g → va.ownBlock = some g ∨ w.heap.size ≤ g) ∧ ∀ g, vr'.ownBlock = some g → vr.ownBlock = some g ∨ w.heap.size ≤ g
theorem stepL_bd {left : Int} (h1 : -1 ≤ left) (h2 : left ≤ 9223372036854775807) : -1 ≤ stepL left ∧ stepL left ≤ 9223372036854775807 := by
  unfold stepL
  split <;> omega
theorem Acted.mk {low : Nat} {w w2 w3 w4 : World} {D H S R : Nat} {va vr : Value} {fs gs fs' gs' : List FD} {left left' : Int} {B N B' N' : Nat} (p : Plate low w D H S R va vr fs gs left B N) (hb : Below w.heap.size w w2) (d1 : Did 98 107 low w2 S va fs' left' w3) (d2 : Did 105 109 low w3 R vr gs' left' w4) (hs : Sim B' N' fs' gs') (h1 : -1 ≤ left') (h2 : left' ≤ 9223372036854775807) : Acted low w D H S R va vr B' N' w4 := by
  have p2 := p.later hb
  obtain ⟨va', a3, k3, o3⟩ := d1
  have r3 := DS.other p2.a p2.r (by decide) (by decide) (by decide) (by decide) k3
  have h3 := Hands.other p2.hands p2.a (by decide) (by decide) (by decide) (by decide) k3
  obtain ⟨vr', r4, k4, o4⟩ := d2
  have a4 := DS.other r3 a3 (by decide) (by decide) (by decide) (by decide) k4
  have h4 := Hands.other h3 r3 (by decide) (by decide) (by decide) (by decide) k4
  have s2 := hb.size
  have s3 := k3.size
  refine ⟨va', vr', fs', gs', left', ⟨h4, a4, r4, hs, h1, h2⟩, ⟨k4.os.trans (k3.os.trans hb.os), k4.tape.trans (k3.tape.trans hb.tape), k4.output.trans (k3.output.trans hb.output), by have := k4.size; omega, fun k hk hA => ?_⟩, fun g hg => ?_, fun g hg => ?_⟩
  · exact (k4.block k (by omega) (by rintro (hh | hh); exact hA (.inr (.inl hh)); exact hA (.inr (.inr (.inr hh))))).trans ((k3.block k (by omega) (by rintro (hh | hh); exact hA (.inl hh); exact hA (.inr (.inr (.inl hh))))).trans (hb.block k hk))
  · rcases o3 g hg with hh | hh
    · exact .inl hh
    · exact .inr (by omega)
  · rcases o4 g hg with hh | hh
    · exact .inl hh
    · exact .inr (by omega)
theorem Acted.none {low : Nat} {w w' : World} {D H S R : Nat} {va vr : Value} {fs gs : List FD} {left : Int} {B N B' N' : Nat} (p : Plate low w D H S R va vr fs gs left B N) (hb : Below w.heap.size w w') (hB : B ≤ B') (hN : N ≤ N') : Acted low w D H S R va vr B' N' w' := by
  have p2 := p.later hb
  exact ⟨va, vr, fs, gs, left, ⟨p2.hands, p2.a, p2.r, p2.sim.mono hB hN, p2.lo, p2.hi⟩, Kpt.of_below hb, fun g hg => .inl hg, fun g hg => .inl hg⟩

set_option maxHeartbeats 4000000 in
set_option maxRecDepth 20000 in
theorem acted_2 (low D H S R : Nat) (va vr : Value) (fs gs : List FD) (left : Int) (B N : Nat) (On n : Int) (s t : List UInt8) (w : World) (p : Plate low w D H S R va vr fs gs left B N) (hlow : low ≤ w.heap.size) (hN : N ≤ 3000000) (hB : B + t.length ≤ 3000000) :
    Calls Tryz.prog 17 #[.agg #[.pointer (some ⟨D, 0, none⟩), .pointer (some ⟨H, 0, none⟩), .pointer (some ⟨R, 0, none⟩)], .agg #[.int .i64 2, .int .i64 On, .int .i64 n, .string (strOf s), .string (strOf t)]] w fun r w' => r = .returned (.bool true) ∧ Acted low w D H S R va vr (B + t.length) (N + 1) w' := by
  have hb1 := (Below.refl w.heap.size w).alloc (Nat.le_refl _) (Obj.cells #[Value.pointer (some ⟨D, 0, none⟩), Value.pointer (some ⟨H, 0, none⟩), Value.pointer (some ⟨R, 0, none⟩)] 40)
  have hs1 : (w.alloc (Obj.cells #[Value.pointer (some ⟨D, 0, none⟩), Value.pointer (some ⟨H, 0, none⟩), Value.pointer (some ⟨R, 0, none⟩)] 40)).heap.size = w.heap.size + 1 := by simp
  have hb2 := hb1.alloc (by omega) (Obj.cells #[Value.int IntKind.i64 2, Value.int IntKind.i64 On, Value.int IntKind.i64 n, Value.string (strOf s), Value.string (strOf t)] 32)
  have hp2 : ((w.alloc (Obj.cells #[Value.pointer (some ⟨D, 0, none⟩), Value.pointer (some ⟨H, 0, none⟩), Value.pointer (some ⟨R, 0, none⟩)] 40)).alloc (Obj.cells #[Value.int IntKind.i64 2, Value.int IntKind.i64 On, Value.int IntKind.i64 n, Value.string (strOf s), Value.string (strOf t)] 32)).heap[w.heap.size]? = some (.cells #[Value.pointer (some ⟨D, 0, none⟩), Value.pointer (some ⟨H, 0, none⟩), Value.pointer (some ⟨R, 0, none⟩)] 40 (0, 0)) := (heap_alloc_old _ _ (by omega)).trans (heap_alloc_new w _)
  have hq2 : ((w.alloc (Obj.cells #[Value.pointer (some ⟨D, 0, none⟩), Value.pointer (some ⟨H, 0, none⟩), Value.pointer (some ⟨R, 0, none⟩)] 40)).alloc (Obj.cells #[Value.int IntKind.i64 2, Value.int IntKind.i64 On, Value.int IntKind.i64 n, Value.string (strOf s), Value.string (strOf t)] 32)).heap[w.heap.size + 1]? = some (.cells #[Value.int IntKind.i64 2, Value.int IntKind.i64 On, Value.int IntKind.i64 n, Value.string (strOf s), Value.string (strOf t)] 32 (0, 0)) := by
    have h9 := heap_alloc_new (w.alloc (Obj.cells #[Value.pointer (some ⟨D, 0, none⟩), Value.pointer (some ⟨H, 0, none⟩), Value.pointer (some ⟨R, 0, none⟩)] 40)) (Obj.cells #[Value.int IntKind.i64 2, Value.int IntKind.i64 On, Value.int IntKind.i64 n, Value.string (strOf s), Value.string (strOf t)] 32)
    rw [hs1] at h9
    exact h9
  have hs2 : ((w.alloc (Obj.cells #[Value.pointer (some ⟨D, 0, none⟩), Value.pointer (some ⟨H, 0, none⟩), Value.pointer (some ⟨R, 0, none⟩)] 40)).alloc (Obj.cells #[Value.int IntKind.i64 2, Value.int IntKind.i64 On, Value.int IntKind.i64 n, Value.string (strOf s), Value.string (strOf t)] 32)).heap.size = w.heap.size + 2 := by simp
  have HB2 : Hid (Below w.heap.size w ((w.alloc (Obj.cells #[Value.pointer (some ⟨D, 0, none⟩), Value.pointer (some ⟨H, 0, none⟩), Value.pointer (some ⟨R, 0, none⟩)] 40)).alloc (Obj.cells #[Value.int IntKind.i64 2, Value.int IntKind.i64 On, Value.int IntKind.i64 n, Value.string (strOf s), Value.string (strOf t)] 32))) := hb2
  have P2 : Hid (Plate low ((w.alloc (Obj.cells #[Value.pointer (some ⟨D, 0, none⟩), Value.pointer (some ⟨H, 0, none⟩), Value.pointer (some ⟨R, 0, none⟩)] 40)).alloc (Obj.cells #[Value.int IntKind.i64 2, Value.int IntKind.i64 On, Value.int IntKind.i64 n, Value.string (strOf s), Value.string (strOf t)] 32)) D H S R va vr fs gs left B N) := p.later hb2
  have P : Hid (Plate low w D H S R va vr fs gs left B N) := p
  clear p hb1 hb2
  go_enter Tryz.func17, Tryz.ntmps17
  go_wp2_with fail
  generalize ((w.alloc (Obj.cells #[Value.pointer (some ⟨D, 0, none⟩), Value.pointer (some ⟨H, 0, none⟩), Value.pointer (some ⟨R, 0, none⟩)] 40)).alloc (Obj.cells #[Value.int IntKind.i64 2, Value.int IntKind.i64 On, Value.int IntKind.i64 n, Value.string (strOf s), Value.string (strOf t)] 32)) = W2 at *
  have hDS : D ≠ S := (P2.out.a.apart P2.out.hands.d (by decide) (by decide)).1
  have hlf := P2.out.sim.lf
  have hlg := P2.out.sim.lg
  have hlo := P2.out.lo
  have hhi := P2.out.hi
  refine (aappend_all low D H S va fs left s t W2 P2.out.hands hDS P2.out.a (by omega) (by omega) (by omega) (fun f hf => by have := P2.out.sim.okf f hf; omega) (by omega)).mono ?_
  rintro r w3 ⟨rfl, d1⟩
  obtain ⟨bb, HBB⟩ : ∃ b : Bool, Hid (decide (left ≠ 0) = b) := ⟨_, rfl⟩
  rw [HBB.out]
  have HD1 : Hid (Did 98 107 low W2 S va (if left = 0 then fs else aApp fs s t) (stepL left) w3) := d1
  obtain ⟨va', a3, k3, o3⟩ := d1
  have h9 := P2.out.a.apart hp2 (by decide) (by decide)
  have h8 := P2.out.a.apart hq2 (by decide) (by decide)
  have hp3 : w3.heap[w.heap.size]? = some (.cells #[Value.pointer (some ⟨D, 0, none⟩), Value.pointer (some ⟨H, 0, none⟩), Value.pointer (some ⟨R, 0, none⟩)] 40 (0, 0)) := (k3.block _ (by omega) (by rintro (hh | hh); exact h9.1 hh; exact h9.2 hh)).trans hp2
  have hq3 : w3.heap[w.heap.size + 1]? = some (.cells #[Value.int IntKind.i64 2, Value.int IntKind.i64 On, Value.int IntKind.i64 n, Value.string (strOf s), Value.string (strOf t)] 32 (0, 0)) := (k3.block _ (by omega) (by rintro (hh | hh); exact h8.1 hh; exact h8.2 hh)).trans hq2
  have cp : ∀ i, w3.cell? ⟨w.heap.size, i, none⟩ = #[Value.pointer (some ⟨D, 0, none⟩), Value.pointer (some ⟨H, 0, none⟩), Value.pointer (some ⟨R, 0, none⟩)][i]? := fun i => by simp [World.cell?, hp3]
  have cq : ∀ i, w3.cell? ⟨w.heap.size + 1, i, none⟩ = #[Value.int IntKind.i64 2, Value.int IntKind.i64 On, Value.int IntKind.i64 n, Value.string (strOf s), Value.string (strOf t)][i]? := fun i => by simp [World.cell?, hq3]
  have r3 : Hid (DS 105 109 low w3 R vr gs left) := DS.other P2.out.a P2.out.r (by decide) (by decide) (by decide) (by decide) k3
  have hs3 := k3.size
  clear a3 k3 o3 h9 h8 hp2 hq2 hp3 hq3
  go_wp2_with fail
  refine (rappend_all low R vr gs left s t w3 r3.out (by omega) (by omega) (by omega) (by have := box_ok P2.out.sim.okg s; omega)).mono ?_
  rintro r w4 ⟨rfl, d2⟩
  rw [HBB.out]
  have hsim : Sim (B + t.length) (N + 1) (if left = 0 then fs else aApp fs s t) (if left = 0 then gs else rApp gs s t) := by
    by_cases h0 : left = 0
    · rw [if_pos h0, if_pos h0]; exact P.out.sim.mono (by omega) (by omega)
    · rw [if_neg h0, if_neg h0]; exact (P.out.sim.app s t).mono (by omega) (by omega)
  have hbd := stepL_bd P.out.lo P.out.hi
  have HF : Hid (Acted low w D H S R va vr (B + t.length) (N + 1) w4) := Acted.mk P.out HB2.out HD1.out d2 hsim hbd.1 hbd.2
  clear d2 hsim hbd cp cq
  go_wp2
  go_ret
  exact ⟨ret_bool (by simp), HF.out⟩

set_option maxHeartbeats 4000000 in
set_option maxRecDepth 20000 in
theorem acted_3 (low D H S R : Nat) (va vr : Value) (fs gs : List FD) (left : Int) (B N : Nat) (On n : Int) (s t : List UInt8) (w : World) (p : Plate low w D H S R va vr fs gs left B N) (hlow : low ≤ w.heap.size) (hN : N ≤ 3000000) (hB : B + t.length ≤ 3000000) :
    Calls Tryz.prog 17 #[.agg #[.pointer (some ⟨D, 0, none⟩), .pointer (some ⟨H, 0, none⟩), .pointer (some ⟨R, 0, none⟩)], .agg #[.int .i64 3, .int .i64 On, .int .i64 n, .string (strOf s), .string (strOf t)]] w fun r w' => r = .returned (.bool true) ∧ Acted low w D H S R va vr (B + t.length) (N + 1) w' := by
  have hb1 := (Below.refl w.heap.size w).alloc (Nat.le_refl _) (Obj.cells #[Value.pointer (some ⟨D, 0, none⟩), Value.pointer (some ⟨H, 0, none⟩), Value.pointer (some ⟨R, 0, none⟩)] 40)
  have hs1 : (w.alloc (Obj.cells #[Value.pointer (some ⟨D, 0, none⟩), Value.pointer (some ⟨H, 0, none⟩), Value.pointer (some ⟨R, 0, none⟩)] 40)).heap.size = w.heap.size + 1 := by simp
  have hb2 := hb1.alloc (by omega) (Obj.cells #[Value.int IntKind.i64 3, Value.int IntKind.i64 On, Value.int IntKind.i64 n, Value.string (strOf s), Value.string (strOf t)] 32)
  have hp2 : ((w.alloc (Obj.cells #[Value.pointer (some ⟨D, 0, none⟩), Value.pointer (some ⟨H, 0, none⟩), Value.pointer (some ⟨R, 0, none⟩)] 40)).alloc (Obj.cells #[Value.int IntKind.i64 3, Value.int IntKind.i64 On, Value.int IntKind.i64 n, Value.string (strOf s), Value.string (strOf t)] 32)).heap[w.heap.size]? = some (.cells #[Value.pointer (some ⟨D, 0, none⟩), Value.pointer (some ⟨H, 0, none⟩), Value.pointer (some ⟨R, 0, none⟩)] 40 (0, 0)) := (heap_alloc_old _ _ (by omega)).trans (heap_alloc_new w _)
  have hq2 : ((w.alloc (Obj.cells #[Value.pointer (some ⟨D, 0, none⟩), Value.pointer (some ⟨H, 0, none⟩), Value.pointer (some ⟨R, 0, none⟩)] 40)).alloc (Obj.cells #[Value.int IntKind.i64 3, Value.int IntKind.i64 On, Value.int IntKind.i64 n, Value.string (strOf s), Value.string (strOf t)] 32)).heap[w.heap.size + 1]? = some (.cells #[Value.int IntKind.i64 3, Value.int IntKind.i64 On, Value.int IntKind.i64 n, Value.string (strOf s), Value.string (strOf t)] 32 (0, 0)) := by
    have h9 := heap_alloc_new (w.alloc (Obj.cells #[Value.pointer (some ⟨D, 0, none⟩), Value.pointer (some ⟨H, 0, none⟩), Value.pointer (some ⟨R, 0, none⟩)] 40)) (Obj.cells #[Value.int IntKind.i64 3, Value.int IntKind.i64 On, Value.int IntKind.i64 n, Value.string (strOf s), Value.string (strOf t)] 32)
    rw [hs1] at h9
    exact h9
  have hs2 : ((w.alloc (Obj.cells #[Value.pointer (some ⟨D, 0, none⟩), Value.pointer (some ⟨H, 0, none⟩), Value.pointer (some ⟨R, 0, none⟩)] 40)).alloc (Obj.cells #[Value.int IntKind.i64 3, Value.int IntKind.i64 On, Value.int IntKind.i64 n, Value.string (strOf s), Value.string (strOf t)] 32)).heap.size = w.heap.size + 2 := by simp
  have HB2 : Hid (Below w.heap.size w ((w.alloc (Obj.cells #[Value.pointer (some ⟨D, 0, none⟩), Value.pointer (some ⟨H, 0, none⟩), Value.pointer (some ⟨R, 0, none⟩)] 40)).alloc (Obj.cells #[Value.int IntKind.i64 3, Value.int IntKind.i64 On, Value.int IntKind.i64 n, Value.string (strOf s), Value.string (strOf t)] 32))) := hb2
  have P2 : Hid (Plate low ((w.alloc (Obj.cells #[Value.pointer (some ⟨D, 0, none⟩), Value.pointer (some ⟨H, 0, none⟩), Value.pointer (some ⟨R, 0, none⟩)] 40)).alloc (Obj.cells #[Value.int IntKind.i64 3, Value.int IntKind.i64 On, Value.int IntKind.i64 n, Value.string (strOf s), Value.string (strOf t)] 32)) D H S R va vr fs gs left B N) := p.later hb2
  have P : Hid (Plate low w D H S R va vr fs gs left B N) := p
  clear p hb1 hb2
  go_enter Tryz.func17, Tryz.ntmps17
  go_wp2_with fail
  generalize ((w.alloc (Obj.cells #[Value.pointer (some ⟨D, 0, none⟩), Value.pointer (some ⟨H, 0, none⟩), Value.pointer (some ⟨R, 0, none⟩)] 40)).alloc (Obj.cells #[Value.int IntKind.i64 3, Value.int IntKind.i64 On, Value.int IntKind.i64 n, Value.string (strOf s), Value.string (strOf t)] 32)) = W2 at *
  have hDS : D ≠ S := (P2.out.a.apart P2.out.hands.d (by decide) (by decide)).1
  have hlf := P2.out.sim.lf
  have hlg := P2.out.sim.lg
  have hlo := P2.out.lo
  have hhi := P2.out.hi
  refine (async_all low D H S va fs left s W2 P2.out.hands hDS P2.out.a (by omega) (by omega) (by omega) (fun f hf => by have := P2.out.sim.okf f hf; omega)).mono ?_
  rintro r w3 ⟨rfl, d1⟩
  obtain ⟨bb, HBB⟩ : ∃ b : Bool, Hid (decide (left ≠ 0) = b) := ⟨_, rfl⟩
  rw [HBB.out]
  have HD1 : Hid (Did 98 107 low W2 S va (if left = 0 then fs else aSyn fs s) (stepL left) w3) := d1
  obtain ⟨va', a3, k3, o3⟩ := d1
  have h9 := P2.out.a.apart hp2 (by decide) (by decide)
  have h8 := P2.out.a.apart hq2 (by decide) (by decide)
  have hp3 : w3.heap[w.heap.size]? = some (.cells #[Value.pointer (some ⟨D, 0, none⟩), Value.pointer (some ⟨H, 0, none⟩), Value.pointer (some ⟨R, 0, none⟩)] 40 (0, 0)) := (k3.block _ (by omega) (by rintro (hh | hh); exact h9.1 hh; exact h9.2 hh)).trans hp2
  have hq3 : w3.heap[w.heap.size + 1]? = some (.cells #[Value.int IntKind.i64 3, Value.int IntKind.i64 On, Value.int IntKind.i64 n, Value.string (strOf s), Value.string (strOf t)] 32 (0, 0)) := (k3.block _ (by omega) (by rintro (hh | hh); exact h8.1 hh; exact h8.2 hh)).trans hq2
  have cp : ∀ i, w3.cell? ⟨w.heap.size, i, none⟩ = #[Value.pointer (some ⟨D, 0, none⟩), Value.pointer (some ⟨H, 0, none⟩), Value.pointer (some ⟨R, 0, none⟩)][i]? := fun i => by simp [World.cell?, hp3]
  have cq : ∀ i, w3.cell? ⟨w.heap.size + 1, i, none⟩ = #[Value.int IntKind.i64 3, Value.int IntKind.i64 On, Value.int IntKind.i64 n, Value.string (strOf s), Value.string (strOf t)][i]? := fun i => by simp [World.cell?, hq3]
  have r3 : Hid (DS 105 109 low w3 R vr gs left) := DS.other P2.out.a P2.out.r (by decide) (by decide) (by decide) (by decide) k3
  have hs3 := k3.size
  clear a3 k3 o3 h9 h8 hp2 hq2 hp3 hq3
  go_wp2_with fail
  refine (rsync_all low R vr gs left s w3 r3.out (by omega) (by omega) (by omega) (by have := box_ok P2.out.sim.okg s; omega)).mono ?_
  rintro r w4 ⟨rfl, d2⟩
  rw [HBB.out]
  have hsim : Sim (B + t.length) (N + 1) (if left = 0 then fs else aSyn fs s) (if left = 0 then gs else rSyn gs s) := by
    by_cases h0 : left = 0
    · rw [if_pos h0, if_pos h0]; exact P.out.sim.mono (by omega) (by omega)
    · rw [if_neg h0, if_neg h0]; exact (P.out.sim.syn s).mono (by omega) (by omega)
  have hbd := stepL_bd P.out.lo P.out.hi
  have HF : Hid (Acted low w D H S R va vr (B + t.length) (N + 1) w4) := Acted.mk P.out HB2.out HD1.out d2 hsim hbd.1 hbd.2
  clear d2 hsim hbd cp cq
  go_wp2
  go_ret
  exact ⟨ret_bool (by simp), HF.out⟩

set_option maxHeartbeats 4000000 in
set_option maxRecDepth 20000 in
theorem acted_4 (low D H S R : Nat) (va vr : Value) (fs gs : List FD) (left : Int) (B N : Nat) (On n : Int) (s t : List UInt8) (w : World) (p : Plate low w D H S R va vr fs gs left B N) (hlow : low ≤ w.heap.size) (hN : N ≤ 3000000) (hB : B + t.length ≤ 3000000) :
    Calls Tryz.prog 17 #[.agg #[.pointer (some ⟨D, 0, none⟩), .pointer (some ⟨H, 0, none⟩), .pointer (some ⟨R, 0, none⟩)], .agg #[.int .i64 4, .int .i64 On, .int .i64 n, .string (strOf s), .string (strOf t)]] w fun r w' => r = .returned (.bool true) ∧ Acted low w D H S R va vr (B + t.length) (N + 1) w' := by
  have hb1 := (Below.refl w.heap.size w).alloc (Nat.le_refl _) (Obj.cells #[Value.pointer (some ⟨D, 0, none⟩), Value.pointer (some ⟨H, 0, none⟩), Value.pointer (some ⟨R, 0, none⟩)] 40)
  have hs1 : (w.alloc (Obj.cells #[Value.pointer (some ⟨D, 0, none⟩), Value.pointer (some ⟨H, 0, none⟩), Value.pointer (some ⟨R, 0, none⟩)] 40)).heap.size = w.heap.size + 1 := by simp
  have hb2 := hb1.alloc (by omega) (Obj.cells #[Value.int IntKind.i64 4, Value.int IntKind.i64 On, Value.int IntKind.i64 n, Value.string (strOf s), Value.string (strOf t)] 32)
  have hp2 : ((w.alloc (Obj.cells #[Value.pointer (some ⟨D, 0, none⟩), Value.pointer (some ⟨H, 0, none⟩), Value.pointer (some ⟨R, 0, none⟩)] 40)).alloc (Obj.cells #[Value.int IntKind.i64 4, Value.int IntKind.i64 On, Value.int IntKind.i64 n, Value.string (strOf s), Value.string (strOf t)] 32)).heap[w.heap.size]? = some (.cells #[Value.pointer (some ⟨D, 0, none⟩), Value.pointer (some ⟨H, 0, none⟩), Value.pointer (some ⟨R, 0, none⟩)] 40 (0, 0)) := (heap_alloc_old _ _ (by omega)).trans (heap_alloc_new w _)
  have hq2 : ((w.alloc (Obj.cells #[Value.pointer (some ⟨D, 0, none⟩), Value.pointer (some ⟨H, 0, none⟩), Value.pointer (some ⟨R, 0, none⟩)] 40)).alloc (Obj.cells #[Value.int IntKind.i64 4, Value.int IntKind.i64 On, Value.int IntKind.i64 n, Value.string (strOf s), Value.string (strOf t)] 32)).heap[w.heap.size + 1]? = some (.cells #[Value.int IntKind.i64 4, Value.int IntKind.i64 On, Value.int IntKind.i64 n, Value.string (strOf s), Value.string (strOf t)] 32 (0, 0)) := by
    have h9 := heap_alloc_new (w.alloc (Obj.cells #[Value.pointer (some ⟨D, 0, none⟩), Value.pointer (some ⟨H, 0, none⟩), Value.pointer (some ⟨R, 0, none⟩)] 40)) (Obj.cells #[Value.int IntKind.i64 4, Value.int IntKind.i64 On, Value.int IntKind.i64 n, Value.string (strOf s), Value.string (strOf t)] 32)
    rw [hs1] at h9
    exact h9
  have hs2 : ((w.alloc (Obj.cells #[Value.pointer (some ⟨D, 0, none⟩), Value.pointer (some ⟨H, 0, none⟩), Value.pointer (some ⟨R, 0, none⟩)] 40)).alloc (Obj.cells #[Value.int IntKind.i64 4, Value.int IntKind.i64 On, Value.int IntKind.i64 n, Value.string (strOf s), Value.string (strOf t)] 32)).heap.size = w.heap.size + 2 := by simp
  have HB2 : Hid (Below w.heap.size w ((w.alloc (Obj.cells #[Value.pointer (some ⟨D, 0, none⟩), Value.pointer (some ⟨H, 0, none⟩), Value.pointer (some ⟨R, 0, none⟩)] 40)).alloc (Obj.cells #[Value.int IntKind.i64 4, Value.int IntKind.i64 On, Value.int IntKind.i64 n, Value.string (strOf s), Value.string (strOf t)] 32))) := hb2
  have P2 : Hid (Plate low ((w.alloc (Obj.cells #[Value.pointer (some ⟨D, 0, none⟩), Value.pointer (some ⟨H, 0, none⟩), Value.pointer (some ⟨R, 0, none⟩)] 40)).alloc (Obj.cells #[Value.int IntKind.i64 4, Value.int IntKind.i64 On, Value.int IntKind.i64 n, Value.string (strOf s), Value.string (strOf t)] 32)) D H S R va vr fs gs left B N) := p.later hb2
  have P : Hid (Plate low w D H S R va vr fs gs left B N) := p
  clear p hb1 hb2
  go_enter Tryz.func17, Tryz.ntmps17
  go_wp2_with fail
  generalize ((w.alloc (Obj.cells #[Value.pointer (some ⟨D, 0, none⟩), Value.pointer (some ⟨H, 0, none⟩), Value.pointer (some ⟨R, 0, none⟩)] 40)).alloc (Obj.cells #[Value.int IntKind.i64 4, Value.int IntKind.i64 On, Value.int IntKind.i64 n, Value.string (strOf s), Value.string (strOf t)] 32)) = W2 at *
  have hDS : D ≠ S := (P2.out.a.apart P2.out.hands.d (by decide) (by decide)).1
  have hlf := P2.out.sim.lf
  have hlg := P2.out.sim.lg
  have hlo := P2.out.lo
  have hhi := P2.out.hi
  refine (arename_all low D H S va fs left s t W2 P2.out.hands hDS P2.out.a (by omega) (by omega) (by omega)).mono ?_
  rintro r w3 ⟨rfl, d1⟩
  obtain ⟨bb, HBB⟩ : ∃ b : Bool, Hid (decide (left ≠ 0) = b) := ⟨_, rfl⟩
  rw [HBB.out]
  have HD1 : Hid (Did 98 107 low W2 S va (if left = 0 then fs else aRen fs s t) (stepL left) w3) := d1
  obtain ⟨va', a3, k3, o3⟩ := d1
  have h9 := P2.out.a.apart hp2 (by decide) (by decide)
  have h8 := P2.out.a.apart hq2 (by decide) (by decide)
  have hp3 : w3.heap[w.heap.size]? = some (.cells #[Value.pointer (some ⟨D, 0, none⟩), Value.pointer (some ⟨H, 0, none⟩), Value.pointer (some ⟨R, 0, none⟩)] 40 (0, 0)) := (k3.block _ (by omega) (by rintro (hh | hh); exact h9.1 hh; exact h9.2 hh)).trans hp2
  have hq3 : w3.heap[w.heap.size + 1]? = some (.cells #[Value.int IntKind.i64 4, Value.int IntKind.i64 On, Value.int IntKind.i64 n, Value.string (strOf s), Value.string (strOf t)] 32 (0, 0)) := (k3.block _ (by omega) (by rintro (hh | hh); exact h8.1 hh; exact h8.2 hh)).trans hq2
  have cp : ∀ i, w3.cell? ⟨w.heap.size, i, none⟩ = #[Value.pointer (some ⟨D, 0, none⟩), Value.pointer (some ⟨H, 0, none⟩), Value.pointer (some ⟨R, 0, none⟩)][i]? := fun i => by simp [World.cell?, hp3]
  have cq : ∀ i, w3.cell? ⟨w.heap.size + 1, i, none⟩ = #[Value.int IntKind.i64 4, Value.int IntKind.i64 On, Value.int IntKind.i64 n, Value.string (strOf s), Value.string (strOf t)][i]? := fun i => by simp [World.cell?, hq3]
  have r3 : Hid (DS 105 109 low w3 R vr gs left) := DS.other P2.out.a P2.out.r (by decide) (by decide) (by decide) (by decide) k3
  have hs3 := k3.size
  clear a3 k3 o3 h9 h8 hp2 hq2 hp3 hq3
  go_wp2_with fail
  refine (rrename_all low R vr gs left s t w3 r3.out (by omega) (by omega) (by omega)).mono ?_
  rintro r w4 ⟨rfl, d2⟩
  rw [HBB.out]
  have hsim : Sim (B + t.length) (N + 1) (if left = 0 then fs else aRen fs s t) (if left = 0 then gs else rRen gs s t) := by
    by_cases h0 : left = 0
    · rw [if_pos h0, if_pos h0]; exact P.out.sim.mono (by omega) (by omega)
    · rw [if_neg h0, if_neg h0]; exact (P.out.sim.ren s t).mono (by omega) (by omega)
  have hbd := stepL_bd P.out.lo P.out.hi
  have HF : Hid (Acted low w D H S R va vr (B + t.length) (N + 1) w4) := Acted.mk P.out HB2.out HD1.out d2 hsim hbd.1 hbd.2
  clear d2 hsim hbd cp cq
  go_wp2
  go_ret
  exact ⟨ret_bool (by simp), HF.out⟩

set_option maxHeartbeats 4000000 in
set_option maxRecDepth 20000 in
theorem acted_5 (low D H S R : Nat) (va vr : Value) (fs gs : List FD) (left : Int) (B N : Nat) (On n : Int) (s t : List UInt8) (w : World) (p : Plate low w D H S R va vr fs gs left B N) (hlow : low ≤ w.heap.size) (hN : N ≤ 3000000) (hB : B + t.length ≤ 3000000) :
    Calls Tryz.prog 17 #[.agg #[.pointer (some ⟨D, 0, none⟩), .pointer (some ⟨H, 0, none⟩), .pointer (some ⟨R, 0, none⟩)], .agg #[.int .i64 5, .int .i64 On, .int .i64 n, .string (strOf s), .string (strOf t)]] w fun r w' => r = .returned (.bool true) ∧ Acted low w D H S R va vr (B + t.length) (N + 1) w' := by
  have hb1 := (Below.refl w.heap.size w).alloc (Nat.le_refl _) (Obj.cells #[Value.pointer (some ⟨D, 0, none⟩), Value.pointer (some ⟨H, 0, none⟩), Value.pointer (some ⟨R, 0, none⟩)] 40)
  have hs1 : (w.alloc (Obj.cells #[Value.pointer (some ⟨D, 0, none⟩), Value.pointer (some ⟨H, 0, none⟩), Value.pointer (some ⟨R, 0, none⟩)] 40)).heap.size = w.heap.size + 1 := by simp
  have hb2 := hb1.alloc (by omega) (Obj.cells #[Value.int IntKind.i64 5, Value.int IntKind.i64 On, Value.int IntKind.i64 n, Value.string (strOf s), Value.string (strOf t)] 32)
  have hp2 : ((w.alloc (Obj.cells #[Value.pointer (some ⟨D, 0, none⟩), Value.pointer (some ⟨H, 0, none⟩), Value.pointer (some ⟨R, 0, none⟩)] 40)).alloc (Obj.cells #[Value.int IntKind.i64 5, Value.int IntKind.i64 On, Value.int IntKind.i64 n, Value.string (strOf s), Value.string (strOf t)] 32)).heap[w.heap.size]? = some (.cells #[Value.pointer (some ⟨D, 0, none⟩), Value.pointer (some ⟨H, 0, none⟩), Value.pointer (some ⟨R, 0, none⟩)] 40 (0, 0)) := (heap_alloc_old _ _ (by omega)).trans (heap_alloc_new w _)
  have hq2 : ((w.alloc (Obj.cells #[Value.pointer (some ⟨D, 0, none⟩), Value.pointer (some ⟨H, 0, none⟩), Value.pointer (some ⟨R, 0, none⟩)] 40)).alloc (Obj.cells #[Value.int IntKind.i64 5, Value.int IntKind.i64 On, Value.int IntKind.i64 n, Value.string (strOf s), Value.string (strOf t)] 32)).heap[w.heap.size + 1]? = some (.cells #[Value.int IntKind.i64 5, Value.int IntKind.i64 On, Value.int IntKind.i64 n, Value.string (strOf s), Value.string (strOf t)] 32 (0, 0)) := by
    have h9 := heap_alloc_new (w.alloc (Obj.cells #[Value.pointer (some ⟨D, 0, none⟩), Value.pointer (some ⟨H, 0, none⟩), Value.pointer (some ⟨R, 0, none⟩)] 40)) (Obj.cells #[Value.int IntKind.i64 5, Value.int IntKind.i64 On, Value.int IntKind.i64 n, Value.string (strOf s), Value.string (strOf t)] 32)
    rw [hs1] at h9
    exact h9
  have hs2 : ((w.alloc (Obj.cells #[Value.pointer (some ⟨D, 0, none⟩), Value.pointer (some ⟨H, 0, none⟩), Value.pointer (some ⟨R, 0, none⟩)] 40)).alloc (Obj.cells #[Value.int IntKind.i64 5, Value.int IntKind.i64 On, Value.int IntKind.i64 n, Value.string (strOf s), Value.string (strOf t)] 32)).heap.size = w.heap.size + 2 := by simp
  have HB2 : Hid (Below w.heap.size w ((w.alloc (Obj.cells #[Value.pointer (some ⟨D, 0, none⟩), Value.pointer (some ⟨H, 0, none⟩), Value.pointer (some ⟨R, 0, none⟩)] 40)).alloc (Obj.cells #[Value.int IntKind.i64 5, Value.int IntKind.i64 On, Value.int IntKind.i64 n, Value.string (strOf s), Value.string (strOf t)] 32))) := hb2
  have P2 : Hid (Plate low ((w.alloc (Obj.cells #[Value.pointer (some ⟨D, 0, none⟩), Value.pointer (some ⟨H, 0, none⟩), Value.pointer (some ⟨R, 0, none⟩)] 40)).alloc (Obj.cells #[Value.int IntKind.i64 5, Value.int IntKind.i64 On, Value.int IntKind.i64 n, Value.string (strOf s), Value.string (strOf t)] 32)) D H S R va vr fs gs left B N) := p.later hb2
  have P : Hid (Plate low w D H S R va vr fs gs left B N) := p
  clear p hb1 hb2
  go_enter Tryz.func17, Tryz.ntmps17
  go_wp2_with fail
  generalize ((w.alloc (Obj.cells #[Value.pointer (some ⟨D, 0, none⟩), Value.pointer (some ⟨H, 0, none⟩), Value.pointer (some ⟨R, 0, none⟩)] 40)).alloc (Obj.cells #[Value.int IntKind.i64 5, Value.int IntKind.i64 On, Value.int IntKind.i64 n, Value.string (strOf s), Value.string (strOf t)] 32)) = W2 at *
  have hDS : D ≠ S := (P2.out.a.apart P2.out.hands.d (by decide) (by decide)).1
  have hlf := P2.out.sim.lf
  have hlg := P2.out.sim.lg
  have hlo := P2.out.lo
  have hhi := P2.out.hi
  refine (aremove_all low D H S va fs left s W2 P2.out.hands hDS P2.out.a (by omega) (by omega) (by omega)).mono ?_
  rintro r w3 ⟨rfl, d1⟩
  obtain ⟨bb, HBB⟩ : ∃ b : Bool, Hid (decide (left ≠ 0) = b) := ⟨_, rfl⟩
  rw [HBB.out]
  have HD1 : Hid (Did 98 107 low W2 S va (if left = 0 then fs else wOut fs s) (stepL left) w3) := d1
  obtain ⟨va', a3, k3, o3⟩ := d1
  have h9 := P2.out.a.apart hp2 (by decide) (by decide)
  have h8 := P2.out.a.apart hq2 (by decide) (by decide)
  have hp3 : w3.heap[w.heap.size]? = some (.cells #[Value.pointer (some ⟨D, 0, none⟩), Value.pointer (some ⟨H, 0, none⟩), Value.pointer (some ⟨R, 0, none⟩)] 40 (0, 0)) := (k3.block _ (by omega) (by rintro (hh | hh); exact h9.1 hh; exact h9.2 hh)).trans hp2
  have hq3 : w3.heap[w.heap.size + 1]? = some (.cells #[Value.int IntKind.i64 5, Value.int IntKind.i64 On, Value.int IntKind.i64 n, Value.string (strOf s), Value.string (strOf t)] 32 (0, 0)) := (k3.block _ (by omega) (by rintro (hh | hh); exact h8.1 hh; exact h8.2 hh)).trans hq2
  have cp : ∀ i, w3.cell? ⟨w.heap.size, i, none⟩ = #[Value.pointer (some ⟨D, 0, none⟩), Value.pointer (some ⟨H, 0, none⟩), Value.pointer (some ⟨R, 0, none⟩)][i]? := fun i => by simp [World.cell?, hp3]
  have cq : ∀ i, w3.cell? ⟨w.heap.size + 1, i, none⟩ = #[Value.int IntKind.i64 5, Value.int IntKind.i64 On, Value.int IntKind.i64 n, Value.string (strOf s), Value.string (strOf t)][i]? := fun i => by simp [World.cell?, hq3]
  have r3 : Hid (DS 105 109 low w3 R vr gs left) := DS.other P2.out.a P2.out.r (by decide) (by decide) (by decide) (by decide) k3
  have hs3 := k3.size
  clear a3 k3 o3 h9 h8 hp2 hq2 hp3 hq3
  go_wp2_with fail
  refine (rremove_all low R vr gs left s w3 r3.out (by omega) (by omega) (by omega)).mono ?_
  rintro r w4 ⟨rfl, d2⟩
  rw [HBB.out]
  have hsim : Sim (B + t.length) (N + 1) (if left = 0 then fs else wOut fs s) (if left = 0 then gs else wOut gs s) := by
    by_cases h0 : left = 0
    · rw [if_pos h0, if_pos h0]; exact P.out.sim.mono (by omega) (by omega)
    · rw [if_neg h0, if_neg h0]; exact (P.out.sim.rem s).mono (by omega) (by omega)
  have hbd := stepL_bd P.out.lo P.out.hi
  have HF : Hid (Acted low w D H S R va vr (B + t.length) (N + 1) w4) := Acted.mk P.out HB2.out HD1.out d2 hsim hbd.1 hbd.2
  clear d2 hsim hbd cp cq
  go_wp2
  go_ret
  exact ⟨ret_bool (by simp), HF.out⟩


set_option maxHeartbeats 4000000 in
set_option maxRecDepth 20000 in
theorem acted_other (low D H S R : Nat) (va vr : Value) (fs gs : List FD) (left : Int) (B N : Nat) (K : Int) (On n : Int) (s t : List UInt8) (w : World) (p : Plate low w D H S R va vr fs gs left B N) (hlow : low ≤ w.heap.size) (hN : N ≤ 3000000) (hB : B + t.length ≤ 3000000) (hK : K < 2 ∨ 7 < K) :
    Calls Tryz.prog 17 #[.agg #[.pointer (some ⟨D, 0, none⟩), .pointer (some ⟨H, 0, none⟩), .pointer (some ⟨R, 0, none⟩)], .agg #[.int .i64 K, .int .i64 On, .int .i64 n, .string (strOf s), .string (strOf t)]] w fun r w' => r = .returned (.bool true) ∧ Acted low w D H S R va vr (B + t.length) (N + 1) w' := by
  have hb1 := (Below.refl w.heap.size w).alloc (Nat.le_refl _) (Obj.cells #[Value.pointer (some ⟨D, 0, none⟩), Value.pointer (some ⟨H, 0, none⟩), Value.pointer (some ⟨R, 0, none⟩)] 40)
  have hs1 : (w.alloc (Obj.cells #[Value.pointer (some ⟨D, 0, none⟩), Value.pointer (some ⟨H, 0, none⟩), Value.pointer (some ⟨R, 0, none⟩)] 40)).heap.size = w.heap.size + 1 := by simp
  have hb2 := hb1.alloc (by omega) (Obj.cells #[Value.int IntKind.i64 K, Value.int IntKind.i64 On, Value.int IntKind.i64 n, Value.string (strOf s), Value.string (strOf t)] 32)
  have hp2 : ((w.alloc (Obj.cells #[Value.pointer (some ⟨D, 0, none⟩), Value.pointer (some ⟨H, 0, none⟩), Value.pointer (some ⟨R, 0, none⟩)] 40)).alloc (Obj.cells #[Value.int IntKind.i64 K, Value.int IntKind.i64 On, Value.int IntKind.i64 n, Value.string (strOf s), Value.string (strOf t)] 32)).heap[w.heap.size]? = some (.cells #[Value.pointer (some ⟨D, 0, none⟩), Value.pointer (some ⟨H, 0, none⟩), Value.pointer (some ⟨R, 0, none⟩)] 40 (0, 0)) := (heap_alloc_old _ _ (by omega)).trans (heap_alloc_new w _)
  have hq2 : ((w.alloc (Obj.cells #[Value.pointer (some ⟨D, 0, none⟩), Value.pointer (some ⟨H, 0, none⟩), Value.pointer (some ⟨R, 0, none⟩)] 40)).alloc (Obj.cells #[Value.int IntKind.i64 K, Value.int IntKind.i64 On, Value.int IntKind.i64 n, Value.string (strOf s), Value.string (strOf t)] 32)).heap[w.heap.size + 1]? = some (.cells #[Value.int IntKind.i64 K, Value.int IntKind.i64 On, Value.int IntKind.i64 n, Value.string (strOf s), Value.string (strOf t)] 32 (0, 0)) := by
    have h9 := heap_alloc_new (w.alloc (Obj.cells #[Value.pointer (some ⟨D, 0, none⟩), Value.pointer (some ⟨H, 0, none⟩), Value.pointer (some ⟨R, 0, none⟩)] 40)) (Obj.cells #[Value.int IntKind.i64 K, Value.int IntKind.i64 On, Value.int IntKind.i64 n, Value.string (strOf s), Value.string (strOf t)] 32)
    rw [hs1] at h9
    exact h9
  have hs2 : ((w.alloc (Obj.cells #[Value.pointer (some ⟨D, 0, none⟩), Value.pointer (some ⟨H, 0, none⟩), Value.pointer (some ⟨R, 0, none⟩)] 40)).alloc (Obj.cells #[Value.int IntKind.i64 K, Value.int IntKind.i64 On, Value.int IntKind.i64 n, Value.string (strOf s), Value.string (strOf t)] 32)).heap.size = w.heap.size + 2 := by simp
  have HB2 : Hid (Below w.heap.size w ((w.alloc (Obj.cells #[Value.pointer (some ⟨D, 0, none⟩), Value.pointer (some ⟨H, 0, none⟩), Value.pointer (some ⟨R, 0, none⟩)] 40)).alloc (Obj.cells #[Value.int IntKind.i64 K, Value.int IntKind.i64 On, Value.int IntKind.i64 n, Value.string (strOf s), Value.string (strOf t)] 32))) := hb2
  have P2 : Hid (Plate low ((w.alloc (Obj.cells #[Value.pointer (some ⟨D, 0, none⟩), Value.pointer (some ⟨H, 0, none⟩), Value.pointer (some ⟨R, 0, none⟩)] 40)).alloc (Obj.cells #[Value.int IntKind.i64 K, Value.int IntKind.i64 On, Value.int IntKind.i64 n, Value.string (strOf s), Value.string (strOf t)] 32)) D H S R va vr fs gs left B N) := p.later hb2
  have P : Hid (Plate low w D H S R va vr fs gs left B N) := p
  clear p hb1 hb2
  have HF : Hid (Acted low w D H S R va vr (B + t.length) (N + 1) ((w.alloc (Obj.cells #[Value.pointer (some ⟨D, 0, none⟩), Value.pointer (some ⟨H, 0, none⟩), Value.pointer (some ⟨R, 0, none⟩)] 40)).alloc (Obj.cells #[Value.int IntKind.i64 K, Value.int IntKind.i64 On, Value.int IntKind.i64 n, Value.string (strOf s), Value.string (strOf t)] 32))) := Acted.none P.out HB2.out (by omega) (by omega)
  have q2 : (K == 2) = false := by simp; omega
  have q3 : (K == 3) = false := by simp; omega
  have q4 : (K == 4) = false := by simp; omega
  have q5 : (K == 5) = false := by simp; omega
  have q6 : (K == 6) = false := by simp; omega
  have q7 : (K == 7) = false := by simp; omega
  clear hp2 hq2
  go_enter Tryz.func17, Tryz.ntmps17
  go_wp2
  go_ret
  exact ⟨rfl, HF.out⟩

set_option maxHeartbeats 4000000 in
set_option maxRecDepth 20000 in
theorem acted_7 (low D H S R : Nat) (va vr : Value) (fs gs : List FD) (left : Int) (B N : Nat) (On n : Int) (s t : List UInt8) (w : World) (p : Plate low w D H S R va vr fs gs left B N) (hlow : low ≤ w.heap.size) (hN : N ≤ 3000000) (hB : B + t.length ≤ 3000000) (hn : -9223372036854775808 ≤ n ∧ n ≤ 9223372036854775807) :
    Calls Tryz.prog 17 #[.agg #[.pointer (some ⟨D, 0, none⟩), .pointer (some ⟨H, 0, none⟩), .pointer (some ⟨R, 0, none⟩)], .agg #[.int .i64 7, .int .i64 On, .int .i64 n, .string (strOf s), .string (strOf t)]] w fun r w' => r = .returned (.bool true) ∧ Acted low w D H S R va vr (B + t.length) (N + 1) w' := by
  have hb1 := (Below.refl w.heap.size w).alloc (Nat.le_refl _) (Obj.cells #[Value.pointer (some ⟨D, 0, none⟩), Value.pointer (some ⟨H, 0, none⟩), Value.pointer (some ⟨R, 0, none⟩)] 40)
  have hs1 : (w.alloc (Obj.cells #[Value.pointer (some ⟨D, 0, none⟩), Value.pointer (some ⟨H, 0, none⟩), Value.pointer (some ⟨R, 0, none⟩)] 40)).heap.size = w.heap.size + 1 := by simp
  have hb2 := hb1.alloc (by omega) (Obj.cells #[Value.int IntKind.i64 7, Value.int IntKind.i64 On, Value.int IntKind.i64 n, Value.string (strOf s), Value.string (strOf t)] 32)
  have hp2 : ((w.alloc (Obj.cells #[Value.pointer (some ⟨D, 0, none⟩), Value.pointer (some ⟨H, 0, none⟩), Value.pointer (some ⟨R, 0, none⟩)] 40)).alloc (Obj.cells #[Value.int IntKind.i64 7, Value.int IntKind.i64 On, Value.int IntKind.i64 n, Value.string (strOf s), Value.string (strOf t)] 32)).heap[w.heap.size]? = some (.cells #[Value.pointer (some ⟨D, 0, none⟩), Value.pointer (some ⟨H, 0, none⟩), Value.pointer (some ⟨R, 0, none⟩)] 40 (0, 0)) := (heap_alloc_old _ _ (by omega)).trans (heap_alloc_new w _)
  have hq2 : ((w.alloc (Obj.cells #[Value.pointer (some ⟨D, 0, none⟩), Value.pointer (some ⟨H, 0, none⟩), Value.pointer (some ⟨R, 0, none⟩)] 40)).alloc (Obj.cells #[Value.int IntKind.i64 7, Value.int IntKind.i64 On, Value.int IntKind.i64 n, Value.string (strOf s), Value.string (strOf t)] 32)).heap[w.heap.size + 1]? = some (.cells #[Value.int IntKind.i64 7, Value.int IntKind.i64 On, Value.int IntKind.i64 n, Value.string (strOf s), Value.string (strOf t)] 32 (0, 0)) := by
    have h9 := heap_alloc_new (w.alloc (Obj.cells #[Value.pointer (some ⟨D, 0, none⟩), Value.pointer (some ⟨H, 0, none⟩), Value.pointer (some ⟨R, 0, none⟩)] 40)) (Obj.cells #[Value.int IntKind.i64 7, Value.int IntKind.i64 On, Value.int IntKind.i64 n, Value.string (strOf s), Value.string (strOf t)] 32)
    rw [hs1] at h9
    exact h9
  have hs2 : ((w.alloc (Obj.cells #[Value.pointer (some ⟨D, 0, none⟩), Value.pointer (some ⟨H, 0, none⟩), Value.pointer (some ⟨R, 0, none⟩)] 40)).alloc (Obj.cells #[Value.int IntKind.i64 7, Value.int IntKind.i64 On, Value.int IntKind.i64 n, Value.string (strOf s), Value.string (strOf t)] 32)).heap.size = w.heap.size + 2 := by simp
  have HB2 : Hid (Below w.heap.size w ((w.alloc (Obj.cells #[Value.pointer (some ⟨D, 0, none⟩), Value.pointer (some ⟨H, 0, none⟩), Value.pointer (some ⟨R, 0, none⟩)] 40)).alloc (Obj.cells #[Value.int IntKind.i64 7, Value.int IntKind.i64 On, Value.int IntKind.i64 n, Value.string (strOf s), Value.string (strOf t)] 32))) := hb2
  have P2 : Hid (Plate low ((w.alloc (Obj.cells #[Value.pointer (some ⟨D, 0, none⟩), Value.pointer (some ⟨H, 0, none⟩), Value.pointer (some ⟨R, 0, none⟩)] 40)).alloc (Obj.cells #[Value.int IntKind.i64 7, Value.int IntKind.i64 On, Value.int IntKind.i64 n, Value.string (strOf s), Value.string (strOf t)] 32)) D H S R va vr fs gs left B N) := p.later hb2
  have P : Hid (Plate low w D H S R va vr fs gs left B N) := p
  clear p hb1 hb2
  go_enter Tryz.func17, Tryz.ntmps17
  go_wp2_with fail
  generalize ((w.alloc (Obj.cells #[Value.pointer (some ⟨D, 0, none⟩), Value.pointer (some ⟨H, 0, none⟩), Value.pointer (some ⟨R, 0, none⟩)] 40)).alloc (Obj.cells #[Value.int IntKind.i64 7, Value.int IntKind.i64 On, Value.int IntKind.i64 n, Value.string (strOf s), Value.string (strOf t)] 32)) = W2 at *
  have hlo := P2.out.lo
  have hhi := P2.out.hi
  refine (astop_any low D H S va fs left n W2 P2.out.hands P2.out.a).mono ?_
  rintro r w3 ⟨rfl, d1⟩
  have HD1 : Hid (Did 98 107 low W2 S va fs (stopL left n) w3) := d1
  obtain ⟨va', a3, k3, o3⟩ := d1
  have h9 := P2.out.a.apart hp2 (by decide) (by decide)
  have h8 := P2.out.a.apart hq2 (by decide) (by decide)
  have hp3 : w3.heap[w.heap.size]? = some (.cells #[Value.pointer (some ⟨D, 0, none⟩), Value.pointer (some ⟨H, 0, none⟩), Value.pointer (some ⟨R, 0, none⟩)] 40 (0, 0)) := (k3.block _ (by omega) (by rintro (hh | hh); exact h9.1 hh; exact h9.2 hh)).trans hp2
  have hq3 : w3.heap[w.heap.size + 1]? = some (.cells #[Value.int IntKind.i64 7, Value.int IntKind.i64 On, Value.int IntKind.i64 n, Value.string (strOf s), Value.string (strOf t)] 32 (0, 0)) := (k3.block _ (by omega) (by rintro (hh | hh); exact h8.1 hh; exact h8.2 hh)).trans hq2
  have cpw3 : ∀ i, w3.cell? ⟨w.heap.size, i, none⟩ = #[Value.pointer (some ⟨D, 0, none⟩), Value.pointer (some ⟨H, 0, none⟩), Value.pointer (some ⟨R, 0, none⟩)][i]? := fun i => by simp [World.cell?, hp3]
  have cqw3 : ∀ i, w3.cell? ⟨w.heap.size + 1, i, none⟩ = #[Value.int IntKind.i64 7, Value.int IntKind.i64 On, Value.int IntKind.i64 n, Value.string (strOf s), Value.string (strOf t)][i]? := fun i => by simp [World.cell?, hq3]
  have r3 : Hid (DS 105 109 low w3 R vr gs left) := DS.other P2.out.a P2.out.r (by decide) (by decide) (by decide) (by decide) k3
  have hs3 := k3.size
  clear a3 k3 o3 h9 h8 hp2 hq2 hp3 hq3
  go_wp2_with fail
  refine (rstop_any low R vr gs left n w3 r3.out (by omega)).mono ?_
  rintro r w4 ⟨rfl, d2⟩
  have hbd : -1 ≤ stopL left n ∧ stopL left n ≤ 9223372036854775807 := by unfold stopL; split; omega; split <;> omega
  have HF : Hid (Acted low w D H S R va vr (B + t.length) (N + 1) w4) := Acted.mk P.out HB2.out HD1.out d2 (P.out.sim.mono (by omega) (by omega)) hbd.1 hbd.2
  clear d2 hbd cpw3 cqw3
  go_wp2
  go_ret
  exact ⟨rfl, HF.out⟩

set_option maxHeartbeats 4000000 in
set_option maxRecDepth 20000 in
theorem acted_6 (low D H S R : Nat) (va vr : Value) (fs gs : List FD) (left : Int) (B N : Nat) (On n : Int) (s t : List UInt8) (w : World) (p : Plate low w D H S R va vr fs gs left B N) (hlow : low ≤ w.heap.size) (hN : N ≤ 3000000) (hB : B + t.length ≤ 3000000) :
    Calls Tryz.prog 17 #[.agg #[.pointer (some ⟨D, 0, none⟩), .pointer (some ⟨H, 0, none⟩), .pointer (some ⟨R, 0, none⟩)], .agg #[.int .i64 6, .int .i64 On, .int .i64 n, .string (strOf s), .string (strOf t)]] w fun r w' => r = .returned (.bool true) ∧ Acted low w D H S R va vr (B + t.length) (N + 1) w' := by
  have hb1 := (Below.refl w.heap.size w).alloc (Nat.le_refl _) (Obj.cells #[Value.pointer (some ⟨D, 0, none⟩), Value.pointer (some ⟨H, 0, none⟩), Value.pointer (some ⟨R, 0, none⟩)] 40)
  have hs1 : (w.alloc (Obj.cells #[Value.pointer (some ⟨D, 0, none⟩), Value.pointer (some ⟨H, 0, none⟩), Value.pointer (some ⟨R, 0, none⟩)] 40)).heap.size = w.heap.size + 1 := by simp
  have hb2 := hb1.alloc (by omega) (Obj.cells #[Value.int IntKind.i64 6, Value.int IntKind.i64 On, Value.int IntKind.i64 n, Value.string (strOf s), Value.string (strOf t)] 32)
  have hp2 : ((w.alloc (Obj.cells #[Value.pointer (some ⟨D, 0, none⟩), Value.pointer (some ⟨H, 0, none⟩), Value.pointer (some ⟨R, 0, none⟩)] 40)).alloc (Obj.cells #[Value.int IntKind.i64 6, Value.int IntKind.i64 On, Value.int IntKind.i64 n, Value.string (strOf s), Value.string (strOf t)] 32)).heap[w.heap.size]? = some (.cells #[Value.pointer (some ⟨D, 0, none⟩), Value.pointer (some ⟨H, 0, none⟩), Value.pointer (some ⟨R, 0, none⟩)] 40 (0, 0)) := (heap_alloc_old _ _ (by omega)).trans (heap_alloc_new w _)
  have hq2 : ((w.alloc (Obj.cells #[Value.pointer (some ⟨D, 0, none⟩), Value.pointer (some ⟨H, 0, none⟩), Value.pointer (some ⟨R, 0, none⟩)] 40)).alloc (Obj.cells #[Value.int IntKind.i64 6, Value.int IntKind.i64 On, Value.int IntKind.i64 n, Value.string (strOf s), Value.string (strOf t)] 32)).heap[w.heap.size + 1]? = some (.cells #[Value.int IntKind.i64 6, Value.int IntKind.i64 On, Value.int IntKind.i64 n, Value.string (strOf s), Value.string (strOf t)] 32 (0, 0)) := by
    have h9 := heap_alloc_new (w.alloc (Obj.cells #[Value.pointer (some ⟨D, 0, none⟩), Value.pointer (some ⟨H, 0, none⟩), Value.pointer (some ⟨R, 0, none⟩)] 40)) (Obj.cells #[Value.int IntKind.i64 6, Value.int IntKind.i64 On, Value.int IntKind.i64 n, Value.string (strOf s), Value.string (strOf t)] 32)
    rw [hs1] at h9
    exact h9
  have hs2 : ((w.alloc (Obj.cells #[Value.pointer (some ⟨D, 0, none⟩), Value.pointer (some ⟨H, 0, none⟩), Value.pointer (some ⟨R, 0, none⟩)] 40)).alloc (Obj.cells #[Value.int IntKind.i64 6, Value.int IntKind.i64 On, Value.int IntKind.i64 n, Value.string (strOf s), Value.string (strOf t)] 32)).heap.size = w.heap.size + 2 := by simp
  have HB2 : Hid (Below w.heap.size w ((w.alloc (Obj.cells #[Value.pointer (some ⟨D, 0, none⟩), Value.pointer (some ⟨H, 0, none⟩), Value.pointer (some ⟨R, 0, none⟩)] 40)).alloc (Obj.cells #[Value.int IntKind.i64 6, Value.int IntKind.i64 On, Value.int IntKind.i64 n, Value.string (strOf s), Value.string (strOf t)] 32))) := hb2
  have P2 : Hid (Plate low ((w.alloc (Obj.cells #[Value.pointer (some ⟨D, 0, none⟩), Value.pointer (some ⟨H, 0, none⟩), Value.pointer (some ⟨R, 0, none⟩)] 40)).alloc (Obj.cells #[Value.int IntKind.i64 6, Value.int IntKind.i64 On, Value.int IntKind.i64 n, Value.string (strOf s), Value.string (strOf t)] 32)) D H S R va vr fs gs left B N) := p.later hb2
  have P : Hid (Plate low w D H S R va vr fs gs left B N) := p
  clear p hb1 hb2
  go_enter Tryz.func17, Tryz.ntmps17
  go_wp2_with fail
  generalize ((w.alloc (Obj.cells #[Value.pointer (some ⟨D, 0, none⟩), Value.pointer (some ⟨H, 0, none⟩), Value.pointer (some ⟨R, 0, none⟩)] 40)).alloc (Obj.cells #[Value.int IntKind.i64 6, Value.int IntKind.i64 On, Value.int IntKind.i64 n, Value.string (strOf s), Value.string (strOf t)] 32)) = W2 at *
  have cpW2 : ∀ i, W2.cell? ⟨w.heap.size, i, none⟩ = #[Value.pointer (some ⟨D, 0, none⟩), Value.pointer (some ⟨H, 0, none⟩), Value.pointer (some ⟨R, 0, none⟩)][i]? := fun i => by simp [World.cell?, hp2]
  have cqW2 : ∀ i, W2.cell? ⟨w.heap.size + 1, i, none⟩ = #[Value.int IntKind.i64 6, Value.int IntKind.i64 On, Value.int IntKind.i64 n, Value.string (strOf s), Value.string (strOf t)][i]? := fun i => by simp [World.cell?, hq2]
  have HG : Hid (fGet fs s = fGet gs s) := P2.out.sim.get s
  have hlf := P2.out.sim.lf
  have hlg := P2.out.sim.lg
  refine (aread_any low D H S va fs left s W2 P2.out.hands P2.out.a (by omega)).mono ?_
  rintro r w' ⟨rfl, hh⟩
  replace hh := hh.symm
  subst hh
  rw [HG.out]
  go_wp2_with fail
  refine (ahas_any low D H S va fs left s W2 P2.out.hands P2.out.a (by omega)).mono ?_
  rintro r w' ⟨rfl, hh⟩
  replace hh := hh.symm
  subst hh
  rw [HG.out]
  go_wp2_with fail
  refine (astopped_any low D H S va fs left W2 P2.out.hands P2.out.a).mono ?_
  rintro r w' ⟨rfl, hh⟩
  replace hh := hh.symm
  subst hh
  go_wp2_with fail
  refine (file_any low R vr gs left s W2 P2.out.r (by omega)).mono ?_
  rintro r w3 ⟨rfl, hb3⟩
  have r3 := P2.out.r.later hb3
  have cR : w3.cell? ⟨R, 1, none⟩ = some (.int .i64 left) := by rw [r3.cell 1]; rfl
  have hRlt := r3.lt
  have cp3 : ∀ i, w3.cell? ⟨w.heap.size, i, none⟩ = #[Value.pointer (some ⟨D, 0, none⟩), Value.pointer (some ⟨H, 0, none⟩), Value.pointer (some ⟨R, 0, none⟩)][i]? := fun i => (hb3.cell (by show w.heap.size < _; omega)).trans (cpW2 i)
  have hs3 := hb3.size
  have hlt3 : w.heap.size < w3.heap.size := by omega
  generalize fBox (fGet gs s) = X at *
  generalize (fGet gs s).isSome = FB at *
  have HBF : Hid (Below w.heap.size w (w3.alloc (Obj.cells #[Value.string (strOf X.n), Value.string (strOf X.d), Value.int IntKind.i64 (X.s : Int)] 109))) := (HB2.out.trans (hb3.mono (by omega))).alloc (by omega) _
  have HF : Hid (Acted low w D H S R va vr (B + t.length) (N + 1) (w3.alloc (Obj.cells #[Value.string (strOf X.n), Value.string (strOf X.d), Value.int IntKind.i64 (X.s : Int)] 109))) := Acted.none P.out HBF.out (by omega) (by omega)
  clear cpW2 cqW2 hp2 hq2 r3 hb3
  go_wp2
  go_ret
  exact ⟨rfl, HF.out⟩


structure PD where
  D : Nat
  H : Nat
  S : Nat
  R : Nat
  va : Value
  vr : Value
  fs : List FD
  gs : List FD
  left : Int
def PD.cells (p : PD) : List Value := [.pointer (some ⟨p.D, 0, none⟩), .pointer (some ⟨p.H, 0, none⟩), .pointer (some ⟨p.R, 0, none⟩)]
/-- The blocks that a plate takes. -/
def PD.foot (p : PD) (b : Nat) : Prop := b = p.D ∨ b = p.H ∨ b = p.S ∨ b = p.R ∨ some b = p.va.ownBlock ∨ some b = p.vr.ownBlock
def PD.at (p : PD) (low : Nat) (w : World) (B N : Nat) : Prop := Plate low w p.D p.H p.S p.R p.va p.vr p.fs p.gs p.left B N
theorem plate_len (ps : List PD) : (ps.flatMap PD.cells).length = ps.length * 3 := by
  induction ps with
  | nil => rfl
  | cons f fs ih => rw [List.flatMap_cons, List.length_append, ih]; simp [PD.cells]; omega
theorem plate_at : ∀ (ps : List PD) (i : Nat) (h : i < ps.length) (k : Nat) (hk : k < 3), (ps.flatMap PD.cells)[i * 3 + k]? = some (ps[i].cells.getD k undef) := by
  intro ps
  induction ps with
  | nil => intro i h; simp at h
  | cons f fs ih =>
    intro i h k hk
    rw [List.flatMap_cons]
    have hlen : f.cells.length = 3 := rfl
    match i with
    | 0 =>
      rw [List.getElem?_append_left (by rw [hlen]; omega)]
      simp only [Nat.zero_mul, Nat.zero_add, List.getElem_cons_zero]
      rw [List.getD_eq_getElem?_getD, List.getElem?_eq_getElem (by rw [hlen]; exact hk)]
      rfl
    | i + 1 =>
      rw [List.getElem?_append_right (by rw [hlen]; omega), hlen, show (i + 1) * 3 + k - 3 = i * 3 + k by omega]
      exact ih i (by simpa using h) k hk
section
variable {low : Nat} {w w' : World} {p : PD} {B N : Nat}
/-- Each block of a plate is there, and is of a type of its own. -/
theorem PD.at.typed (h : p.at low w B N) {b : Nat} (hb : p.foot b) : ∃ cs t, w.heap[b]? = some (.cells cs t (0, 0)) ∧ t ≠ 40 := by
  rcases hb with rfl | rfl | rfl | rfl | hb | hb
  · exact ⟨_, _, h.hands.d, by decide⟩
  · exact ⟨_, _, h.hands.h, by decide⟩
  · exact ⟨_, _, h.a.st, by decide⟩
  · exact ⟨_, _, h.r.st, by decide⟩
  · obtain ⟨cur, hc⟩ := h.a.rowAt hb.symm
    exact ⟨_, _, hc, by decide⟩
  · obtain ⟨cur, hc⟩ := h.r.rowAt hb.symm
    exact ⟨_, _, hc, by decide⟩
theorem PD.at.lt (h : p.at low w B N) {b : Nat} (hb : p.foot b) : b < w.heap.size := by
  obtain ⟨cs, t, h1, _⟩ := h.typed hb
  exact (Array.getElem?_eq_some_iff.1 h1).1
theorem PD.at.kept (h : p.at low w B N) (hk : ∀ b, p.foot b → w'.heap[b]? = w.heap[b]?) : p.at low w' B N :=
  ⟨h.hands.later (hk _ (.inl rfl)) (hk _ (.inr (.inl rfl))), h.a.kept (hk _ (.inr (.inr (.inl rfl)))) (fun g hg => hk g (.inr (.inr (.inr (.inr (.inl hg.symm)))))), h.r.kept (hk _ (.inr (.inr (.inr (.inl rfl))))) (fun g hg => hk g (.inr (.inr (.inr (.inr (.inr hg.symm)))))), h.sim, h.lo, h.hi⟩
theorem PD.at.mono {B' N' : Nat} (h : p.at low w B N) (hB : B ≤ B') (hN : N ≤ N') : p.at low w B' N' := ⟨h.hands, h.a, h.r, h.sim.mono hB hN, h.lo, h.hi⟩
end
/-- All disks of a script. -/
structure PS (low : Nat) (w : World) (lv : Value) (ps : List PD) (B N : Nat) : Prop where
  row : w.ownsRow low 40 3 lv ps.length (ps.flatMap PD.cells)
  each : ∀ p ∈ ps, p.at low w B N ∧ low ≤ p.S ∧ low ≤ p.R
  sep : ∀ i (hi : i < ps.length) j (hj : j < ps.length), i ≠ j → ∀ b, ps[i].foot b → ¬ ps[j].foot b
section
variable {low : Nat} {w w' : World} {lv : Value} {ps : List PD} {B N : Nat}
theorem PS.off (h : PS low w lv ps B N) {p : PD} (hp : p ∈ ps) {b : Nat} (hb : p.foot b) : lv.ownBlock ≠ some b := by
  intro hh
  obtain ⟨cs, t, h1, h2⟩ := (h.each p hp).1.typed hb
  rcases h.row.2 with ⟨h3, _⟩ | ⟨g', cap, cur, h3, _, hg, _⟩
  · rw [h3] at hh; simp [Value.ownBlock] at hh
  · rw [h3] at hh
    simp [Value.ownBlock] at hh
    subst hh
    rw [h1] at hg
    simp at hg
    exact h2 hg.2
theorem PS.later (h : PS low w lv ps B N) (hb : Below w.heap.size w w') : PS low w' lv ps B N := by
  refine ⟨?_, fun p hp => ⟨(h.each p hp).1.kept (fun b hb' => hb.block b ((h.each p hp).1.lt hb')), (h.each p hp).2⟩, h.sep⟩
  exact h.row.kept ⟨hb.os, hb.tape, hb.output, hb.size, fun k hk _ => hb.block k hk⟩ (row := none) (by cases lv.ownBlock <;> simp)
theorem PS.mono {B' N' : Nat} (h : PS low w lv ps B N) (hB : B ≤ B') (hN : N ≤ N') : PS low w lv ps B' N' :=
  ⟨h.row, fun p hp => ⟨(h.each p hp).1.mono hB hN, (h.each p hp).2⟩, h.sep⟩
/-- One disk more. -/
theorem PS.push {v5 : Value} {p' : PD} {n0 : Nat} (h : PS low w lv ps B N) (hp : p'.at low w B N) (hn : ∀ b, p'.foot b → n0 ≤ b) (ho : ∀ p ∈ ps, ∀ b, p.foot b → b < n0) (hS : low ≤ p'.S) (hR : low ≤ p'.R)
    (hlv : ∀ b, lv.ownBlock = some b → b < n0) (hg : w.grownBy w' lv.ownBlock) (hrow : w'.ownsRow low 40 3 v5 (ps.length + 1) (ps.flatMap PD.cells ++ p'.cells)) : PS low w' v5 (ps ++ [p']) B N := by
  refine ⟨?_, ?_, ?_⟩
  · rw [List.length_append, List.flatMap_append]
    simp only [List.length_cons, List.length_nil, List.flatMap_cons, List.flatMap_nil, List.append_nil]
    exact hrow
  · intro p hp1
    rcases List.mem_append.1 hp1 with hp1 | hp1
    · exact ⟨(h.each p hp1).1.kept (fun b hb => hg.block b ((h.each p hp1).1.lt hb) (Ne.symm (h.off hp1 hb))), (h.each p hp1).2⟩
    · obtain rfl : p = p' := by simpa using hp1
      exact ⟨hp.kept (fun b hb => hg.block b (hp.lt hb) (fun hh => by have h1 := hlv b hh.symm; have h2 := hn b hb; omega)), hS, hR⟩
  · intro i hi j hj hij b hb hb2
    rw [List.length_append] at hi hj
    simp only [List.length_cons, List.length_nil] at hi hj
    by_cases h1 : i < ps.length
    · rw [List.getElem_append_left h1] at hb
      by_cases h2 : j < ps.length
      · rw [List.getElem_append_left h2] at hb2
        exact h.sep i h1 j h2 hij b hb hb2
      · have e : j = ps.length := by omega
        subst e
        rw [List.getElem_append_right (Nat.le_refl _)] at hb2
        simp at hb2
        have h3 := ho _ (List.getElem_mem h1) b hb
        have h4 := hn b hb2
        omega
    · have e : i = ps.length := by omega
      subst e
      rw [List.getElem_append_right (Nat.le_refl _)] at hb
      simp at hb
      have h2 : j < ps.length := by omega
      rw [List.getElem_append_left h2] at hb2
      have h3 := ho _ (List.getElem_mem h2) b hb2
      have h4 := hn b hb
      omega
theorem plates_set (ps : List PD) (i : Nat) (h : i < ps.length) (p' : PD) (hc : p'.cells = ps[i].cells) : (ps.set i p').flatMap PD.cells = ps.flatMap PD.cells := by
  apply List.ext_getElem?
  intro j
  by_cases hj : j / 3 < ps.length
  · have a1 := plate_at (ps.set i p') (j / 3) (by rw [List.length_set]; exact hj) (j % 3) (by omega)
    have a2 := plate_at ps (j / 3) hj (j % 3) (by omega)
    rw [show j / 3 * 3 + j % 3 = j by omega] at a1 a2
    rw [a1, a2]
    by_cases he : j / 3 = i
    · subst he
      rw [List.getElem_set_self, hc]
    · rw [List.getElem_set_ne (by omega)]
  · rw [List.getElem?_eq_none (by rw [plate_len, List.length_set]; omega), List.getElem?_eq_none (by rw [plate_len]; omega)]
/-- A step on one of them. -/
theorem PS.act {i : Nat} {B' N' : Nat} (h : PS low w lv ps B N) (hi : i < ps.length) (ha : Acted low w ps[i].D ps[i].H ps[i].S ps[i].R ps[i].va ps[i].vr B' N' w') (hB : B ≤ B') (hN : N ≤ N') : ∃ ps', ps'.length = ps.length ∧ PS low w' lv ps' B' N' ∧ Below low w w' := by
  obtain ⟨va', vr', fs', gs', left', hp, hk, o1, o2⟩ := ha
  have hm := List.getElem_mem hi
  have hei := (h.each _ hm).1
  have hfoot : ∀ b, (b = ps[i].S ∨ b = ps[i].R ∨ some b = ps[i].va.ownBlock ∨ some b = ps[i].vr.ownBlock) → ps[i].foot b := by
    rintro b (hb | hb | hb | hb)
    · exact .inr (.inr (.inl hb))
    · exact .inr (.inr (.inr (.inl hb)))
    · exact .inr (.inr (.inr (.inr (.inl hb))))
    · exact .inr (.inr (.inr (.inr (.inr hb))))
  have hnew : ∀ b, (⟨ps[i].D, ps[i].H, ps[i].S, ps[i].R, va', vr', fs', gs', left'⟩ : PD).foot b → ps[i].foot b ∨ w.heap.size ≤ b := by
    rintro b (hb | hb | hb | hb | hb | hb)
    · exact .inl (.inl hb)
    · exact .inl (.inr (.inl hb))
    · exact .inl (.inr (.inr (.inl hb)))
    · exact .inl (.inr (.inr (.inr (.inl hb))))
    · rcases o1 b hb.symm with h1 | h1
      · exact .inl (.inr (.inr (.inr (.inr (.inl h1.symm)))))
      · exact .inr h1
    · rcases o2 b hb.symm with h1 | h1
      · exact .inl (.inr (.inr (.inr (.inr (.inr h1.symm)))))
      · exact .inr h1
  refine ⟨ps.set i ⟨ps[i].D, ps[i].H, ps[i].S, ps[i].R, va', vr', fs', gs', left'⟩, by rw [List.length_set], ⟨?_, ?_, ?_⟩, ?_⟩
  · rw [plates_set ps i hi ⟨ps[i].D, ps[i].H, ps[i].S, ps[i].R, va', vr', fs', gs', left'⟩ rfl, List.length_set]
    refine ⟨h.row.1, ?_⟩
    rcases h.row.2 with h0 | ⟨g, cap, cur, h1, h2, h3, h4⟩
    · exact .inl h0
    · refine .inr ⟨g, cap, cur, h1, h2, ?_, h4⟩
      have hgl : g < w.heap.size := (Array.getElem?_eq_some_iff.1 h3).1
      exact (hk.block g hgl (fun hb => h.off hm (hfoot g hb) (by rw [h1]; rfl))).trans h3
  · intro q hq
    obtain ⟨j, hj, rfl⟩ := List.getElem_of_mem hq
    rw [List.length_set] at hj
    by_cases hij : i = j
    · subst hij
      rw [List.getElem_set_self]
      exact ⟨hp, (h.each _ hm).2⟩
    · rw [List.getElem_set_ne hij]
      have hmj := List.getElem_mem hj
      exact ⟨((h.each _ hmj).1.kept (fun b hb => hk.block b ((h.each _ hmj).1.lt hb) (fun hb2 => h.sep j hj i hi (fun e => hij e.symm) b hb (hfoot b hb2)))).mono hB hN, (h.each _ hmj).2⟩
  · intro a ha' b hb' hab k hka hkb
    rw [List.length_set] at ha' hb'
    by_cases h1 : i = a
    · subst h1
      rw [List.getElem_set_self] at hka
      rw [List.getElem_set_ne hab] at hkb
      rcases hnew k hka with h2 | h2
      · exact h.sep i hi b hb' hab k h2 hkb
      · have := (h.each _ (List.getElem_mem hb')).1.lt hkb; omega
    · rw [List.getElem_set_ne h1] at hka
      by_cases h3 : i = b
      · subst h3
        rw [List.getElem_set_self] at hkb
        rcases hnew k hkb with h2 | h2
        · exact h.sep a ha' i hi hab k hka h2
        · have := (h.each _ (List.getElem_mem ha')).1.lt hka; omega
      · rw [List.getElem_set_ne h3] at hkb
        exact h.sep a ha' b hb' hab k hka hkb
  · have hl := (h.each _ hm).2
    refine ⟨hk.os, hk.tape, hk.output, hk.size, fun k hk1 => ?_⟩
    by_cases hkw : k < w.heap.size
    · refine hk.block k hkw ?_
      rintro (hb | hb | hb | hb)
      · omega
      · omega
      · have := (hei.a.row.lt k hb.symm).1; omega
      · have := (hei.r.row.lt k hb.symm).1; omega
    · have hlw : low ≤ ps[i].S := hl.1
      have := hei.lt (b := ps[i].S) (.inr (.inr (.inl rfl)))
      omega
end

structure ActD where
  K : Int
  On : Int
  n : Int
  s : List UInt8
  t : List UInt8
def ActD.cells (o : ActD) : List Value := [.int .i64 o.K, .int .i64 o.On, .int .i64 o.n, .string (strOf o.s), .string (strOf o.t)]
def ActD.ok (o : ActD) : Prop := (-9223372036854775808 ≤ o.On ∧ o.On ≤ 9223372036854775807) ∧ (-9223372036854775808 ≤ o.n ∧ o.n ≤ 9223372036854775807)
def actsAt (w : World) (ao : Option Addr) (os : List ActD) : Prop :=
  os = [] ∨ ∃ g off, ao = some ⟨g, off, none⟩ ∧ g < w.heap.size ∧ ∀ j (h : j < os.length) i, i < 5 → w.cell? ⟨g, off + j * 5 + i, none⟩ = some (os[j].cells.getD i undef)
def sumT (os : List ActD) : Nat := (os.map (fun o => o.t.length)).sum
theorem sumT_take (os : List ActD) (t : Nat) (h : t < os.length) : sumT (os.take (t + 1)) = sumT (os.take t) + os[t].t.length := by
  unfold sumT
  rw [List.take_succ_eq_append_getElem h, List.map_append, List.sum_append]
  simp
theorem sumT_le (os : List ActD) (t : Nat) : sumT (os.take t) ≤ sumT os := by
  have h : sumT (os.take t) + sumT (os.drop t) = sumT os := by
    unfold sumT
    rw [← List.sum_append, ← List.map_append, List.take_append_drop]
  omega
theorem info40 : (Tryz.prog.info? 40).map (fun i => (i.zero, i.size, i.bytes)) = some (some (.agg #[.pointer none, .pointer none, .pointer none]), 3, 24) := by kernel_rfl
/-- One act of any kind on a disk that is there. -/
theorem acted_all (low D H S R : Nat) (va vr : Value) (fs gs : List FD) (left : Int) (B N : Nat) (K On n : Int) (s t : List UInt8) (w : World) (p : Plate low w D H S R va vr fs gs left B N) (hlow : low ≤ w.heap.size) (hN : N ≤ 3000000) (hB : B + t.length ≤ 3000000) (hn : -9223372036854775808 ≤ n ∧ n ≤ 9223372036854775807) :
    Calls Tryz.prog 17 #[.agg #[.pointer (some ⟨D, 0, none⟩), .pointer (some ⟨H, 0, none⟩), .pointer (some ⟨R, 0, none⟩)], .agg #[.int .i64 K, .int .i64 On, .int .i64 n, .string (strOf s), .string (strOf t)]] w fun r w' => r = .returned (.bool true) ∧ Acted low w D H S R va vr (B + t.length) (N + 1) w' := by
  by_cases h : K < 2 ∨ 7 < K
  · exact acted_other low D H S R va vr fs gs left B N K On n s t w p hlow hN hB h
  · rcases (show K = 2 ∨ K = 3 ∨ K = 4 ∨ K = 5 ∨ K = 6 ∨ K = 7 by omega) with rfl | rfl | rfl | rfl | rfl | rfl
    · exact acted_2 low D H S R va vr fs gs left B N On n s t w p hlow hN hB
    · exact acted_3 low D H S R va vr fs gs left B N On n s t w p hlow hN hB
    · exact acted_4 low D H S R va vr fs gs left B N On n s t w p hlow hN hB
    · exact acted_5 low D H S R va vr fs gs left B N On n s t w p hlow hN hB
    · exact acted_6 low D H S R va vr fs gs left B N On n s t w p hlow hN hB
    · exact acted_7 low D H S R va vr fs gs left B N On n s t w p hlow hN hB hn
set_option maxHeartbeats 8000000 in
set_option maxRecDepth 20000 in
theorem disks_any (ao : Option Addr) (c : Nat) (os : List ActD) (w : World) (ht : Tabs w) (hos : actsAt w ao os) (hok : ∀ o ∈ os, o.ok) (hl : os.length ≤ 1048576) (hsum : sumT os ≤ 1048576) :
    Calls Tryz.prog 5 #[.slice ao os.length c] w fun r w' => r = .returned (.bool true) ∧ Below w.heap.size w w' := by
  obtain ⟨i0, hi0, hz0, hz1, hz2⟩ := info_parts info40
  have HOS : Hid _ := hos
  have HOK : Hid _ := hok
  have HT0 : Hid (sumT (os.take 0) = 0) := rfl
  clear hos hok
  go_enter Tryz.func5, Tryz.ntmps5
  go_wp2_with fail
  refine (messages_any none 0 [] (.slice none 0 0) none 0 [] w ht (by simp) (by simp) (.inl rfl) (by simp) (by simp) ⟨.inl rfl, by simp⟩).mono ?_
  rintro r w1 ⟨rfl, hb1⟩
  have HB1 : Hid (Below w.heap.size w w1) := hb1
  clear hb1 ht
  go_wp2_with fail
  go_loopw [3, 4, 5, 6, 7, 8, 9, 10, 11] (fun okx lx ix _ _ _ _ _ _ wr => ∃ (t : Nat) (ps : List PD), t ≤ os.length ∧ okx = .bool true ∧ ix = .int .i64 t ∧ PS w.heap.size wr lx ps (sumT (os.take t)) t ∧ ps.length ≤ t ∧ Below w.heap.size w wr) (fun _ _ ix _ _ _ _ _ _ _ => os.length - (intOf ix).toNat)
  case atStart => exact ⟨0, [], by omega, rfl, rfl, ⟨World.ownsRow_nil _ _ _ _, by simp, fun i hi => by simp at hi⟩, by simp, HB1.out⟩
  case round =>
    clear HB1
    obtain ⟨t, ps, ht, rfl, rfl, hps, hpl, hbr⟩ := hrel
    have hbs := hbr.size
    obtain ⟨la, lc, hlv, _⟩ : ∃ la lc, u4 = .slice la ps.length lc ∧ True := by
      rcases hps.row.2 with ⟨h1, h2⟩ | ⟨g, cap, cur, h1, _⟩
      · exact ⟨none, 0, by rw [h1, h2], trivial⟩
      · exact ⟨_, _, h1, trivial⟩
    subst hlv
    by_cases htl : t < os.length
    · obtain ⟨g, off, ha, hgl, hcc⟩ := HOS.out.resolve_left (by intro h; subst h; simp at htl)
      subst ha
      have j0 := (hbr.cell (p := ⟨g, off + t * 5 + 0, none⟩) hgl).trans (hcc t htl 0 (by omega))
      have j1 := (hbr.cell (p := ⟨g, off + t * 5 + 1, none⟩) hgl).trans (hcc t htl 1 (by omega))
      have j2 := (hbr.cell (p := ⟨g, off + t * 5 + 2, none⟩) hgl).trans (hcc t htl 2 (by omega))
      have j3 := (hbr.cell (p := ⟨g, off + t * 5 + 3, none⟩) hgl).trans (hcc t htl 3 (by omega))
      have j4 := (hbr.cell (p := ⟨g, off + t * 5 + 4, none⟩) hgl).trans (hcc t htl 4 (by omega))
      simp [ActD.cells] at j0 j1 j2 j3 j4
      have htl2 : (t : Int) < (os.length : Int) := by omega
      have hokt := HOK.out os[t] (List.getElem_mem htl)
      have HS1 : Hid _ := sumT_take os t htl
      have hs2 := sumT_le os (t + 1)
      rw [HS1.out] at hs2
      clear hcc
      generalize os[t] = o at *
      obtain ⟨K, On, n, s, tt⟩ := o
      obtain ⟨⟨on1, on2⟩, n1, n2⟩ := hokt
      simp only at j0 j1 j2 j3 j4 on1 on2 n1 n2 hs2
      have hb2 := (Below.refl wr.heap.size wr).alloc (Nat.le_refl _) (Obj.cells #[Value.int IntKind.i64 K, Value.int IntKind.i64 On, Value.int IntKind.i64 n, Value.string (strOf s), Value.string (strOf tt)] 32)
      have oc : ∀ i, (wr.alloc (Obj.cells #[Value.int IntKind.i64 K, Value.int IntKind.i64 On, Value.int IntKind.i64 n, Value.string (strOf s), Value.string (strOf tt)] 32)).cell? ⟨wr.heap.size, i, none⟩ = #[Value.int IntKind.i64 K, Value.int IntKind.i64 On, Value.int IntKind.i64 n, Value.string (strOf s), Value.string (strOf tt)][i]? := fun i => World.cell?_alloc_at _ _ _ _ rfl
      have hsz2 : (wr.alloc (Obj.cells #[Value.int IntKind.i64 K, Value.int IntKind.i64 On, Value.int IntKind.i64 n, Value.string (strOf s), Value.string (strOf tt)] 32)).heap.size = wr.heap.size + 1 := by simp
      have P2 : Hid (PS w.heap.size (wr.alloc (Obj.cells #[Value.int IntKind.i64 K, Value.int IntKind.i64 On, Value.int IntKind.i64 n, Value.string (strOf s), Value.string (strOf tt)] 32)) (.slice la ps.length lc) ps (sumT (os.take t)) t) := hps.later hb2
      have HB2 : Hid (Below w.heap.size w (wr.alloc (Obj.cells #[Value.int IntKind.i64 K, Value.int IntKind.i64 On, Value.int IntKind.i64 n, Value.string (strOf s), Value.string (strOf tt)] 32))) := hbr.trans (hb2.mono hbs)
      have HLV : Hid (∀ b, Value.ownBlock (.slice la ps.length lc) = some b → b < wr.heap.size) := fun b hb => (hps.row.lt b hb).2
      clear hps hbr hb2
      by_cases hK1 : K = 1
      · subst hK1
        go_wp2_with fail
        generalize (wr.alloc (Obj.cells #[Value.int IntKind.i64 1, Value.int IntKind.i64 On, Value.int IntKind.i64 n, Value.string (strOf s), Value.string (strOf tt)] 32)) = W2 at *
        have hlt2 : wr.heap.size < W2.heap.size := by omega
        clear hsz2
        refine (anew_any w.heap.size W2).mono ?_
        rintro r w3 ⟨rfl, d3, hh3, hb3, hs3⟩
        have hlt3 : W2.heap.size + 2 < w3.heap.size := by omega
        clear hs3
        have oc3 : ∀ i, w3.cell? ⟨wr.heap.size, i, none⟩ = #[Value.int IntKind.i64 1, Value.int IntKind.i64 On, Value.int IntKind.i64 n, Value.string (strOf s), Value.string (strOf tt)][i]? := fun i => (hb3.cell (by show wr.heap.size < _; omega)).trans (oc i)
        go_wp2_with fail
        refine (rnew_any w.heap.size w3).mono ?_
        rintro r w4 ⟨rfl, d4, hb4, hs4⟩
        have hlt4 : w3.heap.size < w4.heap.size := by omega
        clear hs4
        have oc4 : ∀ i, w4.cell? ⟨wr.heap.size, i, none⟩ = #[Value.int IntKind.i64 1, Value.int IntKind.i64 On, Value.int IntKind.i64 n, Value.string (strOf s), Value.string (strOf tt)][i]? := fun i => (hb4.cell (by show wr.heap.size < _; omega)).trans (oc3 i)
        have hat : PD.at (⟨W2.heap.size + 1, W2.heap.size + 2, W2.heap.size, w3.heap.size, .slice none 0 0, .slice none 0 0, [], [], -1⟩ : PD) w.heap.size w4 (sumT (os.take t)) t := ⟨hh3.later (hb4.block _ (by omega)) (hb4.block _ (by omega)), d3.later hb4, d4, Sim.new _ _, (by show (-1 : Int) ≤ -1; omega), (by show (-1 : Int) ≤ 9223372036854775807; omega)⟩
        have P4 : Hid (PS w.heap.size w4 (.slice la ps.length lc) ps (sumT (os.take t)) t) := (P2.out.later hb3).later hb4
        have HB4 : Hid (Below w.heap.size w w4) := (HB2.out.trans (hb3.mono HB2.out.size)).trans (hb4.mono (by have h9 := HB2.out.size; omega))
        have oc5 : ∀ w5, w4.grownBy w5 none → True := fun _ _ => trivial
        clear oc oc3 oc5 d3 hh3 hb3 hb4 d4 j0 j1 j2 j3 j4
        go_wp2_with (at_builtin; go_loud (refine wpList_append_own _ rfl _ _ 30 rfl w.heap.size 40 i0 (.agg #[.pointer none, .pointer none, .pointer none]) 3 24 Tryz.underlying30 hi0 hz0 hz1 hz2 rfl (by decide) _ ps.length (ps.flatMap PD.cells) rfl (World.ownsRow.alloc P4.out.row _) ⟨w4.heap.size, 0, none⟩ 1 1 [Value.pointer (some ⟨W2.heap.size + 1, 0, none⟩), Value.pointer (some ⟨W2.heap.size + 2, 0, none⟩), Value.pointer (some ⟨w3.heap.size, 0, none⟩)] rfl rfl ?c1 ?c2 ?c3 ?c4 ?c5 ?_))
        case c1 =>
          intro j u hu
          rw [Go.WideShapes.add_plain]
          refine (World.cell?_alloc_at _ _ _ _ (by simp)).trans ?_
          simpa using hu
        case c2 => intro u hu; simp at hu; rcases hu with rfl | rfl | rfl <;> rfl
        case c3 => unfold maxLen; omega
        case c4 => omega
        case c5 => have h9 := HB4.out.size; simp; omega
        intro v5 w5 ho5 hg5 _
        obtain ⟨xa, xc, rfl⟩ : ∃ la lc, v5 = .slice la (ps.length + 1) lc := by
          obtain ⟨x, y, h1, _⟩ := row3 ho5
          exact ⟨x, y, h1⟩
        have hba := (Below.refl w4.heap.size w4).alloc (Nat.le_refl _) (Obj.cells #[Value.pointer (some ⟨W2.heap.size + 1, 0, none⟩), Value.pointer (some ⟨W2.heap.size + 2, 0, none⟩), Value.pointer (some ⟨w3.heap.size, 0, none⟩)] 40)
        have HN : Hid (PS w.heap.size w5 (.slice xa (ps.length + 1) xc) (ps ++ [(⟨W2.heap.size + 1, W2.heap.size + 2, W2.heap.size, w3.heap.size, .slice none 0 0, .slice none 0 0, [], [], -1⟩ : PD)]) (sumT (os.take (t + 1))) (t + 1)) := by
          unfold Hid
          refine PS.mono (PS.push (n0 := W2.heap.size) (P4.out.later hba) (PD.at.kept hat (fun b hb => hba.block b (PD.at.lt hat hb))) (by rintro b (hb | hb | hb | hb | hb | hb); (have h9 : b = W2.heap.size + 1 := hb; omega); (have h9 : b = W2.heap.size + 2 := hb; omega); (have h9 : b = W2.heap.size := hb; omega); (have h9 : b = w3.heap.size := hb; omega); (exact absurd hb (by simp [Value.ownBlock])); (exact absurd hb (by simp [Value.ownBlock]))) (fun p hp b hb => (P2.out.each p hp).1.lt hb) ?_ ?_ (fun b hb => (P2.out.row.lt b hb).2) hg5 ho5) (by rw [HS1.out]; omega) (by omega)
          · show w.heap.size ≤ W2.heap.size; have h9 := HB2.out.size; omega
          · show w.heap.size ≤ w3.heap.size; have h9 := HB2.out.size; omega
        have HBN : Hid (Below w.heap.size w w5) := (HB4.out.alloc HB4.out.size _).grown hg5 (by have h9 := HB4.out.size; simp; omega) (fun g hg => (World.ownsRow.lt P4.out.row g hg).1)
        have oc5 : ∀ i, w5.cell? ⟨wr.heap.size, i, none⟩ = #[Value.int IntKind.i64 1, Value.int IntKind.i64 On, Value.int IntKind.i64 n, Value.string (strOf s), Value.string (strOf tt)][i]? := fun i => (World.cell?_of_block (w := w4.alloc (Obj.cells #[Value.pointer (some ⟨W2.heap.size + 1, 0, none⟩), Value.pointer (some ⟨W2.heap.size + 2, 0, none⟩), Value.pointer (some ⟨w3.heap.size, 0, none⟩)] 40)) (a := ⟨wr.heap.size, i, none⟩) (hg5.block wr.heap.size (by simp; omega) (fun hh => by have h9 := HLV.out _ hh.symm; omega))).trans ((World.cell?_alloc_past _ _ _ (by omega)).trans (oc4 i))
        clear ho5 hg5 hba oc4
        go_wp2
        go_roundw
        case rel => exact ⟨t + 1, _, by omega, rfl, by go_num, HN.out, by simp; omega, HBN.out⟩
        case measure => simp [intOf]; omega
      · have q1 : (K == 1) = false := by simpa using hK1
        by_cases hp0 : ps = []
        · subst hp0
          have HN : Hid (PS w.heap.size (wr.alloc (Obj.cells #[Value.int IntKind.i64 K, Value.int IntKind.i64 On, Value.int IntKind.i64 n, Value.string (strOf s), Value.string (strOf tt)] 32)) (.slice la 0 lc) [] (sumT (os.take (t + 1))) (t + 1)) := P2.out.mono (by rw [HS1.out]; omega) (by omega)
          clear P2
          go_wp2
          go_roundw
          case rel => exact ⟨t + 1, [], by omega, rfl, by go_num, HN.out, by simp, HB2.out⟩
          case measure => simp [intOf]; omega
        · have hpos : 0 < ps.length := List.length_pos_iff.mpr hp0
          have hposI : (0 : Int) < (ps.length : Int) := by omega
          have q0 : ((ps.length : Int) == 0) = false := by simp; omega
          obtain ⟨J, hJ⟩ := Int.eq_ofNat_of_zero_le (Int.emod_nonneg (raw On) (show (ps.length : Int) ≠ 0 by omega))
          have hJl : J < ps.length := by have := Int.emod_lt_of_pos (raw On) hposI; omega
          have hJi : (J : Int) < (ps.length : Int) := by omega
          have hrow3 := row3 P2.out.row
          obtain ⟨a', c', hv', hrow⟩ := hrow3
          cases hv'
          obtain ⟨gl, ha, _, hgl2, hcl⟩ := hrow.resolve_left (by omega)
          subst ha
          have k0 := hcl _ _ (plate_at ps J hJl 0 (by omega))
          have k1 := hcl _ _ (plate_at ps J hJl 1 (by omega))
          have k2 := hcl _ _ (plate_at ps J hJl 2 (by omega))
          simp [PD.cells] at k0 k1 k2
          have hmem := List.getElem_mem hJl
          have HM : Hid (ps[J] ∈ ps) := hmem
          have HE : Hid (ps[J].at w.heap.size (wr.alloc (Obj.cells #[Value.int IntKind.i64 K, Value.int IntKind.i64 On, Value.int IntKind.i64 n, Value.string (strOf s), Value.string (strOf tt)] 32)) (sumT (os.take t)) t) := (P2.out.each _ hmem).1
          clear hcl hrow hmem
          generalize hpp : ps[J] = p at *
          have HPP : Hid (ps[J] = p) := hpp
          clear hpp
          have hb3 := (Below.refl (wr.alloc (Obj.cells #[Value.int IntKind.i64 K, Value.int IntKind.i64 On, Value.int IntKind.i64 n, Value.string (strOf s), Value.string (strOf tt)] 32)).heap.size (wr.alloc (Obj.cells #[Value.int IntKind.i64 K, Value.int IntKind.i64 On, Value.int IntKind.i64 n, Value.string (strOf s), Value.string (strOf tt)] 32))).alloc (Nat.le_refl _) (Obj.cells #[Value.pointer (some ⟨p.D, 0, none⟩), Value.pointer (some ⟨p.H, 0, none⟩), Value.pointer (some ⟨p.R, 0, none⟩)] 40)
          have oc3 : ∀ i, ((wr.alloc (Obj.cells #[Value.int IntKind.i64 K, Value.int IntKind.i64 On, Value.int IntKind.i64 n, Value.string (strOf s), Value.string (strOf tt)] 32)).alloc (Obj.cells #[Value.pointer (some ⟨p.D, 0, none⟩), Value.pointer (some ⟨p.H, 0, none⟩), Value.pointer (some ⟨p.R, 0, none⟩)] 40)).cell? ⟨wr.heap.size, i, none⟩ = #[Value.int IntKind.i64 K, Value.int IntKind.i64 On, Value.int IntKind.i64 n, Value.string (strOf s), Value.string (strOf tt)][i]? := fun i => (hb3.cell (by show wr.heap.size < _; omega)).trans (oc i)
          have pc3 : ∀ i, ((wr.alloc (Obj.cells #[Value.int IntKind.i64 K, Value.int IntKind.i64 On, Value.int IntKind.i64 n, Value.string (strOf s), Value.string (strOf tt)] 32)).alloc (Obj.cells #[Value.pointer (some ⟨p.D, 0, none⟩), Value.pointer (some ⟨p.H, 0, none⟩), Value.pointer (some ⟨p.R, 0, none⟩)] 40)).cell? ⟨wr.heap.size + 1, i, none⟩ = #[Value.pointer (some ⟨p.D, 0, none⟩), Value.pointer (some ⟨p.H, 0, none⟩), Value.pointer (some ⟨p.R, 0, none⟩)][i]? := fun i => World.cell?_alloc_at _ _ _ _ (by simp)
          have hs3 : ((wr.alloc (Obj.cells #[Value.int IntKind.i64 K, Value.int IntKind.i64 On, Value.int IntKind.i64 n, Value.string (strOf s), Value.string (strOf tt)] 32)).alloc (Obj.cells #[Value.pointer (some ⟨p.D, 0, none⟩), Value.pointer (some ⟨p.H, 0, none⟩), Value.pointer (some ⟨p.R, 0, none⟩)] 40)).heap.size = wr.heap.size + 2 := by simp
          have P3 : Hid (PS w.heap.size ((wr.alloc (Obj.cells #[Value.int IntKind.i64 K, Value.int IntKind.i64 On, Value.int IntKind.i64 n, Value.string (strOf s), Value.string (strOf tt)] 32)).alloc (Obj.cells #[Value.pointer (some ⟨p.D, 0, none⟩), Value.pointer (some ⟨p.H, 0, none⟩), Value.pointer (some ⟨p.R, 0, none⟩)] 40)) (.slice (some ⟨gl, 0, none⟩) ps.length lc) ps (sumT (os.take t)) t) := P2.out.later hb3
          have HE3 : Hid (p.at w.heap.size ((wr.alloc (Obj.cells #[Value.int IntKind.i64 K, Value.int IntKind.i64 On, Value.int IntKind.i64 n, Value.string (strOf s), Value.string (strOf tt)] 32)).alloc (Obj.cells #[Value.pointer (some ⟨p.D, 0, none⟩), Value.pointer (some ⟨p.H, 0, none⟩), Value.pointer (some ⟨p.R, 0, none⟩)] 40)) (sumT (os.take t)) t) := HE.out.kept (fun b hb => hb3.block b (HE.out.lt hb))
          have HB3 : Hid (Below w.heap.size w ((wr.alloc (Obj.cells #[Value.int IntKind.i64 K, Value.int IntKind.i64 On, Value.int IntKind.i64 n, Value.string (strOf s), Value.string (strOf tt)] 32)).alloc (Obj.cells #[Value.pointer (some ⟨p.D, 0, none⟩), Value.pointer (some ⟨p.H, 0, none⟩), Value.pointer (some ⟨p.R, 0, none⟩)] 40))) := HB2.out.trans (hb3.mono HB2.out.size)
          clear hb3
          by_cases hK8 : K = 8
          · subst hK8
            have hokc := HE3.out.sim.okf
            have hokc2 := HE3.out.sim.okg
            have hlf := HE3.out.sim.lf
            have hlg := HE3.out.sim.lg
            have HA8 : Hid _ := acrash_any w.heap.size p.D p.H p.S p.va p.fs p.left n ((wr.alloc (Obj.cells #[Value.int IntKind.i64 8, Value.int IntKind.i64 On, Value.int IntKind.i64 n, Value.string (strOf s), Value.string (strOf tt)] 32)).alloc (Obj.cells #[Value.pointer (some ⟨p.D, 0, none⟩), Value.pointer (some ⟨p.H, 0, none⟩), Value.pointer (some ⟨p.R, 0, none⟩)] 40)) HE3.out.hands HE3.out.a (by omega) ⟨n1, n2⟩ (fun f hf => by have h9 := hokc f hf; omega)
            clear hokc
            go_wp2_with (first | (go_at_call 14; refine (pick_any _ _ _ (by omega) (by omega) (by omega)).mono ?_; rintro e w' ⟨rfl, hh⟩; replace hh := hh.symm; subst hh; rw [hJ]) | (go_at_call 15; refine Calls.mono HA8.out ?_))
            generalize ((wr.alloc (Obj.cells #[Value.int IntKind.i64 8, Value.int IntKind.i64 On, Value.int IntKind.i64 n, Value.string (strOf s), Value.string (strOf tt)] 32)).alloc (Obj.cells #[Value.pointer (some ⟨p.D, 0, none⟩), Value.pointer (some ⟨p.H, 0, none⟩), Value.pointer (some ⟨p.R, 0, none⟩)] 40)) = W3 at *
            have hlt3 : wr.heap.size + 1 < W3.heap.size := by omega
            clear hs3 hsz2
            rintro r w4 ⟨rfl, ⟨v4, d4⟩, hh4, hb4⟩
            have hs34 := hb4.size
            have oc4 : ∀ i, w4.cell? ⟨wr.heap.size, i, none⟩ = #[Value.int IntKind.i64 8, Value.int IntKind.i64 On, Value.int IntKind.i64 n, Value.string (strOf s), Value.string (strOf tt)][i]? := fun i => (hb4.cell (by show wr.heap.size < _; omega)).trans (oc3 i)
            have pc4 : ∀ i, w4.cell? ⟨wr.heap.size + 1, i, none⟩ = #[Value.pointer (some ⟨p.D, 0, none⟩), Value.pointer (some ⟨p.H, 0, none⟩), Value.pointer (some ⟨p.R, 0, none⟩)][i]? := fun i => (hb4.cell (by show wr.heap.size + 1 < _; omega)).trans (pc3 i)
            have HR8 : Hid _ := rcrash_any w.heap.size p.R p.vr p.gs p.left n w4 (HE3.out.r.later hb4) (by omega) ⟨n1, n2⟩ (fun f hf => by have h9 := hokc2 f hf; omega)
            have HD4 : Hid (DS 98 107 W3.heap.size w4 W3.heap.size v4 (p.fs.map (crF n)) (-1)) := d4
            have HH4 : Hid (Hands w4 (W3.heap.size + 1) (W3.heap.size + 2) W3.heap.size) := hh4
            have HB4 : Hid (Below W3.heap.size W3 w4) := hb4
            clear hokc2 d4 hh4 hb4 oc oc3 pc3 k0 k1 k2 HA8
            go_wp2_with fail
            refine Calls.mono HR8.out ?_
            rintro r w5 ⟨rfl, ⟨v5c, d5⟩, hb5⟩
            have hlt4 := HD4.out.lt
            have hltD : W3.heap.size + 1 < w4.heap.size := (Array.getElem?_eq_some_iff.1 HH4.out.d).1
            have hltH : W3.heap.size + 2 < w4.heap.size := (Array.getElem?_eq_some_iff.1 HH4.out.h).1
            have hw3 := HB3.out.size
            have hs45 := hb5.size
            have hat : PD.at (⟨W3.heap.size + 1, W3.heap.size + 2, W3.heap.size, w4.heap.size, v4, v5c, p.fs.map (crF n), p.gs.map (crF n), -1⟩ : PD) w.heap.size w5 (sumT (os.take t)) t := ⟨HH4.out.later (hb5.block _ hltD) (hb5.block _ hltH), ⟨(HD4.out.later hb5).st, row_low (HD4.out.later hb5).row hw3⟩, ⟨d5.st, row_low d5.row (by omega)⟩, HE3.out.sim.cr n, (by show (-1 : Int) ≤ -1; omega), (by show (-1 : Int) ≤ 9223372036854775807; omega)⟩
            have HN8 : Hid (∀ b, PD.foot (⟨W3.heap.size + 1, W3.heap.size + 2, W3.heap.size, w4.heap.size, v4, v5c, p.fs.map (crF n), p.gs.map (crF n), -1⟩ : PD) b → W3.heap.size ≤ b) := by
              rintro b (hb | hb | hb | hb | hb | hb)
              · have h9 : b = W3.heap.size + 1 := hb; omega
              · have h9 : b = W3.heap.size + 2 := hb; omega
              · have h9 : b = W3.heap.size := hb; omega
              · have h9 : b = w4.heap.size := hb; omega
              · exact (HD4.out.row.lt b hb.symm).1
              · exact Nat.le_trans hs34 (d5.row.lt b hb.symm).1
            have P5 : Hid (PS w.heap.size w5 (.slice (some ⟨gl, 0, none⟩) ps.length lc) ps (sumT (os.take t)) t) := (P3.out.later HB4.out).later hb5
            have HB5 : Hid (Below w.heap.size w w5) := (HB3.out.trans (HB4.out.mono hw3)).trans (hb5.mono (by omega))
            clear d5 hb5 oc4 pc4 HR8
            go_wp2_with (at_builtin; go_loud (refine wpList_append_own _ rfl _ _ 30 rfl w.heap.size 40 i0 (.agg #[.pointer none, .pointer none, .pointer none]) 3 24 Tryz.underlying30 hi0 hz0 hz1 hz2 rfl (by decide) _ ps.length (ps.flatMap PD.cells) rfl (World.ownsRow.alloc P5.out.row _) ⟨w5.heap.size, 0, none⟩ 1 1 [Value.pointer (some ⟨W3.heap.size + 1, 0, none⟩), Value.pointer (some ⟨W3.heap.size + 2, 0, none⟩), Value.pointer (some ⟨w4.heap.size, 0, none⟩)] rfl rfl ?c1 ?c2 ?c3 ?c4 ?c5 ?_))
            case c1 =>
              intro j u hu
              rw [Go.WideShapes.add_plain]
              refine (World.cell?_alloc_at _ _ _ _ (by simp)).trans ?_
              simpa using hu
            case c2 => intro u hu; simp at hu; rcases hu with rfl | rfl | rfl <;> rfl
            case c3 => unfold maxLen; omega
            case c4 => omega
            case c5 => have h9 := HB5.out.size; simp; omega
            intro v5 w6 ho5 hg5 _
            obtain ⟨xa, xc, rfl⟩ : ∃ la lc, v5 = .slice la (ps.length + 1) lc := by
              obtain ⟨x, y, h1, _⟩ := row3 ho5
              exact ⟨x, y, h1⟩
            have hba := (Below.refl w5.heap.size w5).alloc (Nat.le_refl _) (Obj.cells #[Value.pointer (some ⟨W3.heap.size + 1, 0, none⟩), Value.pointer (some ⟨W3.heap.size + 2, 0, none⟩), Value.pointer (some ⟨w4.heap.size, 0, none⟩)] 40)
            have HN : Hid (PS w.heap.size w6 (.slice xa (ps.length + 1) xc) (ps ++ [(⟨W3.heap.size + 1, W3.heap.size + 2, W3.heap.size, w4.heap.size, v4, v5c, p.fs.map (crF n), p.gs.map (crF n), -1⟩ : PD)]) (sumT (os.take (t + 1))) (t + 1)) := by
              unfold Hid
              refine PS.mono (PS.push (n0 := W3.heap.size) (P5.out.later hba) (PD.at.kept hat (fun b hb => hba.block b (PD.at.lt hat hb))) HN8.out (fun p hp b hb => (P3.out.each p hp).1.lt hb) ?_ ?_ (fun b hb => (P3.out.row.lt b hb).2) hg5 ho5) (by rw [HS1.out]; omega) (by omega)
              · show w.heap.size ≤ W3.heap.size; have h9 := HB3.out.size; omega
              · show w.heap.size ≤ w4.heap.size; have h9 := HB3.out.size; omega
            have HBN : Hid (Below w.heap.size w w6) := (HB5.out.alloc HB5.out.size _).grown hg5 (by have h9 := HB5.out.size; simp; omega) (fun g hg => (World.ownsRow.lt P5.out.row g hg).1)
            clear ho5 hg5 hba
            go_wp2
            go_roundw
            case rel => exact ⟨t + 1, _, by omega, rfl, by go_num, HN.out, by simp; omega, HBN.out⟩
            case measure => simp [intOf]; omega
          · have q8 : (K == 8) = false := by simpa using hK8
            go_wp2_with (first | (go_at_call 14; refine (pick_any _ _ _ (by omega) (by omega) (by omega)).mono ?_; rintro e w' ⟨rfl, hh⟩; replace hh := hh.symm; subst hh; rw [hJ]) | (go_at_call 17; refine (acted_all w.heap.size p.D p.H p.S p.R p.va p.vr p.fs p.gs p.left (sumT (os.take t)) t K On n s tt ((wr.alloc (Obj.cells #[Value.int IntKind.i64 K, Value.int IntKind.i64 On, Value.int IntKind.i64 n, Value.string (strOf s), Value.string (strOf tt)] 32)).alloc (Obj.cells #[Value.pointer (some ⟨p.D, 0, none⟩), Value.pointer (some ⟨p.H, 0, none⟩), Value.pointer (some ⟨p.R, 0, none⟩)] 40)) HE3.out (by have h9 := HB3.out.size; omega) (by omega) (by omega) ⟨n1, n2⟩).mono ?_))
            rintro r w4 ⟨rfl, hact⟩
            obtain ⟨ps', e1, e2, e3⟩ := P3.out.act (B' := sumT (os.take t) + tt.length) (N' := t + 1) hJl (by rw [HPP.out]; exact hact) (by omega) (by omega)
            have HN : Hid (PS w.heap.size w4 (.slice (some ⟨gl, 0, none⟩) ps.length lc) ps' (sumT (os.take (t + 1))) (t + 1)) := by unfold Hid; rw [HS1.out]; exact e2
            have HBN : Hid (Below w.heap.size w w4) := HB3.out.trans e3
            have hpl' : ps'.length ≤ t + 1 := by omega
            clear hact e2 e3 oc oc3 pc3 k0 k1 k2
            go_wp2
            go_roundw
            case rel => exact ⟨t + 1, ps', by omega, rfl, by go_num, HN.out, hpl', HBN.out⟩
            case measure => simp [intOf]; omega
    · have HBr : Hid _ := hbr
      clear hps hbr
      go_wp2
      go_ret
      exact ⟨rfl, HBr.out⟩
end Go.Proofs.YtdcainmlcpafbaaGreatDoor
