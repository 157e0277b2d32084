import Derived.Test.YtdcainmlcpafbaaGreatDoorJ29
import Derived.Shelf.SlSortCmp.NoneTotal
set_option linter.all false
namespace Go.Proofs.YtdcainmlcpafbaaGreatDoor
open Go.RowKit Go.Maps Go.Sort Go.Shelf Go.Lib

theorem I0{w : World}{base g cap : Nat}{ks : List Int}(h : w.ownsRow base 321 1 (.slice (some ⟨g, 0, none⟩) ks.length cap) ks.length (ks.map gB)) : HoldsK gH 1 w g 0 ks.toArray := by
 intro j hj
 rw [size_flatK]at hj
 have hj' : j < ks.length := by simpa using hj
 have hfl : (flatK gH 1 ks.toArray)[j]! = .int .i64 ks[j] := by
  rw [get_flatK _ _ _ _ hj]
  simp [gH, Nat.mod_one, hj']
 rcases h.2 with ⟨h0, _⟩ | ⟨g', cap', cur, h1, h2, h3, h4, h5, h6, h7⟩
 ·cases h0
 ·cases h1
  have hc : cur.toList.take (ks.length * 1) = ks.map gB := h7
  have hx : cur[j]? = some (.int .i64 ks[j]) := by
   have h8 : (cur.toList.take (ks.length * 1))[j]? = some (gB ks[j]) := by rw [hc]; simp [hj']
   rw [List.getElem?_take, if_pos (by omega)]at h8
   simpa [gB] using h8
  refine ⟨?_, by simp [World.frozen?, h3]⟩
  rw [hfl]
  simp only [World.cell?, h3, Nat.zero_add, id]
  exact hx
theorem yR{C : Nat}{w w1 : World}(h : Below C w w1)(hC : C ≤ w1.heap.size){blk : Nat}(hb : C ≤ blk)(n : Nat)(d : Array Int)(os : Array Obj) : Below C w (sortWorldK gH 1 w1 blk 0 n d os) := by
 refine h.trans ⟨rfl, rfl, rfl, ?_, fun k hk => ?_⟩
 ·unfold sortWorldK putRowK
  rw [size_grow, size_putRow]
  exact Nat.le_add_right _ _
 ·have hk1 : k < w1.heap.size := by omega
  unfold sortWorldK putRowK
  rw [heap_grow_old _ _ (by rw [size_putRow]; exact hk1)]
  show (w1.heap.modify blk _)[k]? = _
  rw [Array.getElem?_modify, if_neg (by omega)]
theorem CK{w1 : World}{g : Nat}{ks : List Int}(hg : g < w1.heap.size)(hH : HoldsK gH 1 w1 g 0 ks.toArray)(n : Nat)(d : Array Int)(hd : d.size = ks.length)(os : Array Obj)(cap : Nat) : aP (sortWorldK gH 1 w1 g 0 n d os) (.slice (some ⟨g, 0, none⟩) ks.length cap) ks.length (d.toList.map gB) := by
 refine .inr ⟨g, cap, rfl, ?_, fun j u hu => ?_⟩
 ·unfold sortWorldK putRowK
  rw [size_grow, size_putRow]
  exact Nat.lt_of_lt_of_le hg (Nat.le_add_right _ _)
 ·have hj : j < d.size := by
   have := (List.getElem?_eq_some_iff.1 hu).1
   simpa using this
  unfold sortWorldK putRowK
  rw [cell?_grow _ _ _ (by rw [size_putRow]; exact hg)]
  have h9 := cell?_putRow id (Sort.ahead w1 n) g 0 (flatK gH 1 ks.toArray) (flatK gH 1 d) (fun j hj => hH j hj) (by simp [hd]) j (by simpa using hj)
  rw [Nat.zero_add]at h9
  rw [h9, get_flatK _ _ _ _ (by simpa using hj)]
  rw [List.getElem?_map]at hu
  have h8 : d.toList[j]? = some d[j] := by simp [hj]
  rw [h8]at hu
  simp at hu
  rw [← hu]
  simp [gH, gB, Nat.mod_one, hj]
theorem JI{ks : List Int}{d : Array Int}(h : PermIn 0 ks.toArray.size ks.toArray d) : d.toList.Perm ks ∧ d.size = ks.length := by
 obtain ⟨h1, _, h3⟩ := h
 have e : d.size = ks.length := by simpa using h1
 have e1 : (d.extract 0 ks.toArray.size).toList = d.toList := by rw [← h1]; simp
 have e2 : (ks.toArray.extract 0 ks.toArray.size).toList = ks := by simp
 rw [e1, e2]at h3
 exact ⟨h3, e⟩
set_option maxRecDepth 20000 in
set_option maxHeartbeats 2000000 in
/-- The keys of the votes, sorted. -/
theorem yS(Bm b : Nat)(vs : List (Int × PV))(hN : vs.length ≤ 100000000)(w : World)(hBm : Bm < w.heap.size)(hm : w.cell? ⟨Bm, 0, none⟩ = some (.map (some b)))(hown : VM w b vs):
  Calls Tryz.prog 260 #[Value.func (Fn.func 268) #[] #[Value.pointer (some ⟨Bm, 0, none⟩)], Value.func (Fn.func 262) #[] #[]] w fun e w' => ∃(v : Value) (ks : List Int), e = .returned v ∧ ks.Perm (vs.map (·.1)) ∧ aP w' v ks.length (ks.map gB) ∧ (∀ad n c, v = .slice (some ad) n c → w.heap.size ≤ ad.block) ∧ Below w.heap.size w w' := by
 have h266 := wD Bm b vs (by unfold maxLen; omega) (by omega) w hBm hm hown
 clear hm hown
 go_enter Tryz.func260, Tryz.ntmps260
 go_wp2_with fail
 refine h266.mono ?_
 rintro r w1 ⟨v, ks, rfl, hp, hr, hb⟩
 have hlen : ks.length ≤ 100000000 := by have := hp.length_eq; simp at this; omega
 clear h266
 rcases hr.2 with ⟨h0, h1⟩ | ⟨g, cap, cur, h1, h2, h3, h4, h5, h6, h7⟩
 ·subst h0
  have hk0 : ks = [] := List.eq_nil_of_length_eq_zero h1
  have hcon := AnyF.slices_SortFunc_none (P := Tryz.prog) (ρ := sG) uB none 0 (Value.func (Fn.func 262) #[] #[]) w1
  change Calls Tryz.prog 267 _ _ _ at hcon
  go_wp2_with fail
  refine hcon.mono ?_
  rintro r w2 ⟨rfl, rfl⟩
  go_wp2
  go_ret
  exact ⟨.slice none 0 0, ks, rfl, hp, .inl ⟨rfl, h1, by rw [hk0]; rfl⟩, (fun ad n c h => by cases h), hb⟩
 ·subst h1
  have hH := I0 hr
  have hg := (hr.lt g (by simp [Value.ownBlock])).2
  have hcon := CJ g 0 cap ks.toArray w1 hH hg (by simp; omega)
  have HSZ : Hid (ks.toArray.size = ks.length) := by unfold Hid; simp
  rw [HSZ.out]at hcon
  clear hr h3 h4 h5 h6 h7
  go_wp2_with fail
  refine hcon.mono ?_
  rintro r w2 ⟨rfl, d', n, os, hp2, _, rfl⟩
  have hpl := JI (by rw [HSZ.out]; exact hp2)
  have HR := CK hg hH n d' hpl.2 os cap
  have HB := yR hb hb.size h2 n d' os
  generalize sortWorldK gH 1 w1 g 0 n d' os = w2 at*
  clear hcon hH
  go_wp2
  go_ret
  refine ⟨.slice (some ⟨g, 0, none⟩) ks.length cap, d'.toList, rfl, hpl.1.trans hp, ?_, (fun ad n c h => by cases h; exact h2), HB⟩
  have e9 : d'.toList.length = ks.length := by simpa using hpl.2
  rw [e9]
  exact HR
theorem EY : cU := fun Bm b vs w h1 h2 h3 h4 => yS Bm b vs h1 w h2 h3 h4
end Go.Proofs.YtdcainmlcpafbaaGreatDoor
