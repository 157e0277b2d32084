import Derived.Test.YtdcainmlcpafbaaGreatDoorG1
import Derived.Laws.OwnMore
set_option linter.unusedSimpArgs false
set_option linter.unusedVariables false
namespace Go.Proofs.YtdcainmlcpafbaaGreatDoor
open Go.RowKit

section
variable {P : Program} (w : World)
/-- append to a row of one's own: the row itself still reads as it did, and where the new one lies. -/
theorem run_append_keep (base : Nat) (t ty e : TypeId) (i : TypeInfo) (z : Value) (size bytes : Nat) (ht : P.underlying t = some (.slice e)) (hi : P.info? e = some i) (hz : i.zero = some z)
    (hsize : i.size = size) (hby : i.bytes = bytes) (hzs : z.cells.size = size) (hsz : 0 < size)
    (v : Value) (n : Nat) (xs : List Value) (hown : w.ownsRow base e size v n xs)
    (a : Addr) (m c : Nat) (news : List Value) (hm0 : 0 < m) (hl : news.length = m * size) (hnews : ∀ j u, news[j]? = some u → w.cell? (a.add j) = some u) (h1 : ∀ u ∈ news, u.oneCell' = true)
    (h63 : n + m ≤ maxLen) (hbytes : (n + m) * bytes ≤ 140737488355328) (hbase : base ≤ w.heap.size) :
    ∃ v' w', (Builtin.append_ #[t, t] ty #[v, .slice (some a) m c]).run P w = .ok v' w' ∧ w'.ownsRow base e size v' (n + m) (xs ++ news) ∧ w.grownBy w' v.ownBlock ∧ w'.ownsRow base e size v n xs ∧
      ∃ g', v'.ownBlock = some g' ∧ (v.ownBlock = some g' ∨ w.heap.size ≤ g' ∧ w.grownBy w' none) := by
  obtain ⟨v', w', hr, h2, h3, _⟩ := run_append_own (P := P) w base t ty e i z size bytes ht hi hz hsize hby hzs hsz v n xs hown a m c news hl hnews h1 h63 hbytes hbase
  refine ⟨v', w', hr, h2, h3, ?_⟩
  subst hsize
  subst hby
  have h63' : n + m ≤ 9223372036854775807 := by simp only [maxLen] at h63; omega
  rcases hown.2 with ⟨rfl, rfl⟩ | ⟨g, cap, cur, rfl, hbg, hg, hnc, hcm, hcs, htake⟩
  · have hx : xs = [] := List.eq_nil_of_length_eq_zero (by simpa using hown.1)
    subst hx
    have hr2 := run_append_nil (P := P) w t ty e i z ht hi hz a m c news hl hnews hm0 (by omega) (by have hb := hbytes; simp only [Nat.zero_add] at hb; omega)
    rw [hr] at hr2
    injection hr2 with e1 e2
    subst e1
    exact ⟨World.ownsRow_nil _ _ _ _, w.heap.size, rfl, .inr ⟨Nat.le_refl _, h3⟩⟩
  · by_cases hroom : n + m ≤ cap
    · have hfit : n * i.size + news.length ≤ cur.size := by rw [hl, hcs, ← Nat.add_mul]; exact Nat.mul_le_mul_right _ hroom
      have hr2 := run_append_room (P := P) w t ty e i ht hi g n cap cur hg a m c news hl hnews h1 hroom hfit
      rw [hr] at hr2
      injection hr2 with e1 e2
      subst e1
      subst e2
      refine ⟨⟨hown.1, .inr ⟨g, cap, _, rfl, hbg, setRow_heap w g cur _ e _ hg, hnc, hcm, ?_, ?_⟩⟩, g, rfl, .inl rfl⟩
      · simp only [List.size_toArray, List.length_append, List.length_take, List.length_drop, Array.length_toList]
        omega
      · rw [htake, List.append_assoc, ← hown.1]
        exact List.take_left
    · have holds : ∀ j u, xs[j]? = some u → w.cell? ((⟨g, 0, none⟩ : Addr).add j) = some u := hown.cells (g := g) rfl
      have hr2 := run_append_grow (P := P) w t ty e i z ht hi hz ⟨g, 0, none⟩ n cap xs hown.1 holds a m c news hl hnews (by omega) (by omega) (growslice_fits (by omega) hbytes)
      rw [hr] at hr2
      injection hr2 with e1 e2
      subst e1
      subst e2
      have hglt : g < w.heap.size := (hown.lt g rfl).2
      refine ⟨⟨hown.1, .inr ⟨g, cap, cur, rfl, hbg, (heap_alloc_old w.drew _ hglt).trans hg, hnc, hcm, hcs, htake⟩⟩, w.heap.size, rfl, .inr ⟨Nat.le_refl _, h3.os, h3.tape, h3.output, h3.size, fun k hk _ => heap_alloc_old w.drew _ hk⟩⟩
/-- Places that read as val says. -/
def MA (val : Nat → Value) (w : World) (g k : Nat) : Prop := ∀ j, j < k → w.cell? ⟨g, j, none⟩ = some (val j)
theorem wpList_append_marks {ops : Array Oper} {rest : List Oper} {o : Oper} {a : Act} {Q : Exit → Act → World → Prop} (hgd : o.guard = none) (s x : Operand) (t : TypeId)
    (ho : o.op = .call { callee := .builtin .append, args := #[s, x], argTypes := #[t, t] })
    (base : Nat) (e : TypeId) (i : TypeInfo) (z : Value) (bytes : Nat) (ht : P.underlying t = some (.slice e)) (hi : P.info? e = some i) (hz : i.zero = some z)
    (hsize : i.size = 1) (hby : i.bytes = bytes) (hzs : z.cells.size = 1) (val : Nat → Value) (hone : ∀ j, (val j).oneCell' = true)
    (v : Value) (n : Nat) (xs : List Value) (hs : a.eval s = v) (hown : w.ownsRow base e 1 v n xs) (hxs : ∀ j, j < n → xs[j]? = some (val j))
    (ad : Addr) (m c : Nat) (hm0 : 0 < m) (hx : a.eval x = .slice (some ad) m c) (hnews : ∀ j, j < m → w.cell? (ad.add j) = some (val (n + j)))
    (h63 : n + m ≤ maxLen) (hbytes : (n + m) * bytes ≤ 140737488355328) (hbase : base ≤ w.heap.size)
    (h : ∀ g cp w', w'.ownsRow base e 1 v n xs → w.grownBy w' v.ownBlock → base ≤ g → g < w'.heap.size → (v.ownBlock = some g ∨ w.heap.size ≤ g) → MA val w' g (n + m) → (∀ ga k, ga < w.heap.size → k ≤ n + m → MA val w ga k → MA val w' ga k) → wpList P ops Q rest (a.put o.dst (.slice (some ⟨g, 0, none⟩) (n + m) cp)) w') : wpList P ops Q (o :: rest) a w := by
  refine wpList_plain hgd fun _ hK => ?_
  have hxl : xs.length = n := by simpa using hown.1
  obtain ⟨v', w', hr, h2, h3, h4, g', h5, h6⟩ := run_append_keep (P := P) w base t o.type e i z 1 bytes ht hi hz hsize hby hzs (by omega) v n xs hown ad m c ((List.range m).map fun j => val (n + j)) hm0 (by simp)
    (by
      intro j u hu
      have hj : j < m := by have := (List.getElem?_eq_some_iff.1 hu).1; simpa using this
      rw [hnews j hj]
      simpa [hj] using hu)
    (by
      intro u hu
      obtain ⟨j, _, rfl⟩ := List.mem_map.1 hu
      exact hone _) h63 hbytes hbase
  have hv : ∃ cp, v' = .slice (some ⟨g', 0, none⟩) (n + m) cp := by
    rcases h2.2 with ⟨rfl, h0⟩ | ⟨g, cap, cur, rfl, _⟩
    · omega
    · simp [Value.ownBlock] at h5
      subst h5
      exact ⟨cap, rfl⟩
  obtain ⟨cp, rfl⟩ := hv
  have hma : MA val w' g' (n + m) := by
    intro j hj
    have hc := h2.cells (g := g') rfl j (val j) (by
      by_cases hjn : j < n
      · rw [List.getElem?_append_left (by omega)]; exact hxs j hjn
      · rw [List.getElem?_append_right (by omega), hxl]
        rw [List.getElem?_map, List.getElem?_range (by omega)]
        simp only [Option.map_some]
        congr 2
        omega)
    rw [Go.WideShapes.add_plain] at hc
    simpa using hc
  have hlt := h2.lt g' h5
  unfold Oper.wp execOp
  simp only [ho, resolve, invoke, builtin, Sem.run_bind, Sem.run_pure, Result.andThen_ok, List.map_toArray, List.map_cons, List.map_nil, hs, hx, hr]
  refine hK _ _ (h g' cp w' h4 h3 hlt.1 hlt.2 ?_ hma ?_)
  · rcases h6 with h6 | ⟨h6, _⟩
    · exact .inl h6
    · exact .inr h6
  · intro ga k hga hk hM j hj
    rcases h6 with h6 | ⟨_, h6⟩
    · by_cases he : ga = g'
      · subst he; exact hma j (by omega)
      · rw [World.cell?_of_block (w := w) (a := ⟨ga, j, none⟩) (h3.block ga hga (by rw [h6]; simpa using he))]
        exact hM j hj
    · rw [World.cell?_of_block (w := w) (a := ⟨ga, j, none⟩) (h6.block ga hga (by simp))]
      exact hM j hj
end
end Go.Proofs.YtdcainmlcpafbaaGreatDoor
