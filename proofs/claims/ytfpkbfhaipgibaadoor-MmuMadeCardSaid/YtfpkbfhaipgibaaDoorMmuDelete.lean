/- slices.DeleteFunc over entries that the call owns, walked. -/
import Derived.Test.YtfpkbfhaipgibaaDoorMmuClear
import Derived.Test.YtfpkbfhaipgibaaDoorMmuIxSpace
namespace Go.Proofs.YtfpkbfhaipgibaaDoor.Mmu
open Go.RowKit Go.Proofs.YtfpkbfhaipgibaaDoor.Mem Go.Proofs.YtfpkbfhaipgibaaDoor.Bw Go.Proofs.YtfpkbfhaipgibaaDoor.Nums

theorem cellsE_set (m : List Ent) (i : Nat) (h : i < m.length) (x y z : Int) (u : Bool) : ((((cellsE m).set (i * 4) (.int .i64 x)).set (i * 4 + 1) (.int .i64 y)).set (i * 4 + 2) (.int .i64 z)).set (i * 4 + 3) (.bool u) = cellsE (m.set i (x, y, z, u)) := by
  induction m generalizing i with
  | nil => simp at h
  | cons q m ih =>
    cases i with
    | zero => rfl
    | succ i =>
      have e2 : (i + 1) * 4 = i * 4 + 4 := by omega
      rw [List.set_cons_succ, cellsE_cons, cellsE_cons, ← ih i (by simpa using h), e2]
      rfl
def goneR (p : Ent → Bool) (l : List Ent) : List Ent := l.filter fun e => !p e
structure Mid (p : Ent → Bool) (l m : List Ent) (i j : Nat) : Prop where
  lt : i < j
  le : j ≤ l.length
  len : m.length = l.length
  lo : m.take i = goneR p (l.take j)
  hi : m.drop j = l.drop j
theorem Mid.start {p : Ent → Bool} {l : List Ent} (h : l.findIdx p < l.length) : Mid p l l (l.findIdx p) (l.findIdx p + 1) := by
  refine ⟨by omega, by omega, rfl, ?_, rfl⟩
  unfold goneR
  rw [List.take_succ_eq_append_getElem h, List.filter_append]
  have h1 : (l.take (l.findIdx p)).filter (fun e => !p e) = l.take (l.findIdx p) := by
    rw [List.filter_eq_self]
    intro a ha
    obtain ⟨k, hk, rfl⟩ := List.mem_iff_getElem.1 ha
    rw [List.getElem_take]
    rw [List.length_take] at hk
    have := List.not_of_lt_findIdx (p := p) (xs := l) (i := k) (by omega)
    simpa using this
  have h2 := List.findIdx_getElem (w := h)
  rw [h1, List.filter_cons_of_neg (by simp [h2])]
  simp
theorem Mid.at {p : Ent → Bool} {l m : List Ent} {i j : Nat} (h : Mid p l m i j) (hj : j < l.length) (hm : j < m.length) : m[j] = l[j] := by
  have := congrArg (fun x => x[0]?) h.hi
  simp only [List.getElem?_drop, Nat.add_zero] at this
  rw [List.getElem?_eq_getElem hm, List.getElem?_eq_getElem hj] at this
  exact Option.some.inj this
theorem Mid.skip {p : Ent → Bool} {l m : List Ent} {i j : Nat} (h : Mid p l m i j) (hj : j < l.length) (hp : p l[j] = true) : Mid p l m i (j + 1) := by
  refine ⟨by have := h.lt; omega, by omega, h.len, ?_, ?_⟩
  · rw [h.lo]
    unfold goneR
    rw [List.take_succ_eq_append_getElem hj, List.filter_append, List.filter_cons_of_neg (by simp [hp])]
    simp
  · rw [← List.drop_drop, h.hi, List.drop_drop]
theorem Mid.keep {p : Ent → Bool} {l m : List Ent} {i j : Nat} (h : Mid p l m i j) (hj : j < l.length) (hp : p l[j] = false) : Mid p l (m.set i l[j]) (i + 1) (j + 1) := by
  have hlt := h.lt
  have hlen := h.len
  refine ⟨by omega, by omega, by rw [List.length_set, h.len], ?_, ?_⟩
  · rw [List.take_succ_eq_append_getElem (by rw [List.length_set]; omega), List.take_set_of_le (Nat.le_refl _), h.lo, List.getElem_set_self]
    unfold goneR
    rw [List.take_succ_eq_append_getElem hj, List.filter_append, List.filter_cons_of_pos (by simp [hp])]
    simp
  · rw [List.drop_set_of_lt (by omega), ← List.drop_drop, h.hi, List.drop_drop]
theorem Mid.done {p : Ent → Bool} {l m : List Ent} {i : Nat} (h : Mid p l m i l.length) : goneR p l = m.take i := by
  rw [h.lo, List.take_length]
theorem cellsE_take (m : List Ent) (i : Nat) : (cellsE m).take (i * 4) = cellsE (m.take i) := by
  induction m generalizing i with
  | nil => simp [cellsE]
  | cons q m ih =>
    cases i with
    | zero => simp [cellsE]
    | succ i =>
      have e2 : (i + 1) * 4 = i * 4 + 4 := by omega
      rw [List.take_succ_cons, cellsE_cons, cellsE_cons, ← ih i, e2]
      rfl
theorem gone_all {p : Ent → Bool} {l : List Ent} (h : ¬ l.findIdx p < l.length) : goneR p l = l := by
  unfold goneR
  rw [List.filter_eq_self]
  intro a ha
  obtain ⟨k, hk, rfl⟩ := List.mem_iff_getElem.1 ha
  have := List.not_of_lt_findIdx (p := p) (xs := l) (i := k) (by omega)
  simpa using this
end Go.Proofs.YtfpkbfhaipgibaaDoor.Mmu
