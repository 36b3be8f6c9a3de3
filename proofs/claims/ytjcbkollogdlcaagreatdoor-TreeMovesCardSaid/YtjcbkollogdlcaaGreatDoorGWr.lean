/- One cell, or one row, of a world of one's own, written. (Written by mk_wr.py.) -/
import Derived.Test.YtjcbkollogdlcaaGreatDoorGWt
namespace Go.Proofs.YtjcbkollogdlcaaGreatDoor.Wd
open Go.RowKit Go.Proofs.YtjcbkollogdlcaaGreatDoor.Mem Go.Proofs.YtjcbkollogdlcaaGreatDoor.Bw Go.Proofs.YtjcbkollogdlcaaGreatDoor.Nums Go.Proofs.YtjcbkollogdlcaaGreatDoor.Mmu

/-- One number of a row is another one. -/
def upd (f : Nat → Int) (k : Nat) (x : Int) : Nat → Int := fun j => if j = k then x else f j
theorem rowsC_cell (n : Nat) (hn : 0 < n) (fs : List (Nat → Int)) (i k : Nat) (hi : i < fs.length) (hk : k < n) (x : Int) : (rowsC n fs).set (i * n + k) (.int .i64 x) = rowsC n (fs.set i (upd fs[i] k x)) := by
  apply List.ext_getElem?
  intro j
  have hl : (rowsC n fs).length = fs.length * n := rowsC_len n fs
  have hl2 : (rowsC n (fs.set i (upd fs[i] k x))).length = fs.length * n := by rw [rowsC_len, List.length_set]
  by_cases hj : j < fs.length * n
  · have e : j = j / n * n + j % n := by rw [Nat.mul_comm]; exact (Nat.div_add_mod j n).symm
    have hq : j / n < fs.length := (Nat.div_lt_iff_lt_mul hn).2 hj
    have hr : j % n < n := Nat.mod_lt _ hn
    have a1 := rowsC_at n fs (j / n) (j % n) hq hr
    have a2 := rowsC_at n (fs.set i (upd fs[i] k x)) (j / n) (j % n) (by rw [List.length_set]; exact hq) hr
    rw [← e] at a1 a2
    by_cases h : i * n + k = j
    · have q1 : j / n = i := by rw [← h, Nat.mul_comm, Nat.mul_add_div hn, Nat.div_eq_of_lt hk, Nat.add_zero]
      have q2 : j % n = k := by rw [← h, Nat.mul_comm, Nat.mul_add_mod, Nat.mod_eq_of_lt hk]
      have a3 : ((rowsC n fs).set (i * n + k) (.int .i64 x))[j]? = some (.int .i64 x) := by rw [h, List.getElem?_set_self (by rw [hl]; exact hj)]
      rw [a2, a3]
      subst q1
      rw [List.getElem_set_self, q2]
      unfold upd
      rw [if_pos rfl]
    · rw [List.getElem?_set_ne h, a1, a2]
      by_cases hi2 : j / n = i
      · subst hi2
        rw [List.getElem_set_self]
        unfold upd
        rw [if_neg (fun e2 => h (by rw [← e2]; exact e.symm))]
      · rw [List.getElem_set_ne (fun e => hi2 e.symm)]
  · rw [List.getElem?_eq_none (by rw [List.length_set, hl]; omega), List.getElem?_eq_none (by rw [hl2]; omega)]
theorem ints_set (zs : List Int) (i : Nat) (x : Int) : (ints zs).set i (.int .i64 x) = ints (zs.set i x) := by
  unfold ints
  rw [List.map_set]
theorem InT.form {w : World} {tag : Nat → Nat} {t I s n : Nat} {u : Value} {xs : List Value} (h : InT w tag t I s u (n, xs)) (hn : 0 < n) : ∃ g cap, u = .slice (some ⟨g, 0, none⟩) n cap := by
  rcases h.1.2 with ⟨_, h0⟩ | ⟨g, cap, cur, h1, _⟩
  · simp only at h0
    omega
  · exact ⟨g, cap, h1⟩
theorem InT.shape {w : World} {tag : Nat → Nat} {t I s n : Nat} {u : Value} {xs : List Value} (h : InT w tag t I s u (n, xs)) : ∃ q g cap, u = .slice q n cap ∧ (0 < n → q = some ⟨g, 0, none⟩) := by
  rcases h.1.2 with ⟨h1, h0⟩ | ⟨g, cap, cur, h1, _⟩
  · simp only at h0
    subst h0
    exact ⟨none, 0, 0, h1, fun h => by omega⟩
  · exact ⟨some ⟨g, 0, none⟩, g, cap, h1, fun _ => rfl⟩
theorem InT.cell {w : World} {tag : Nat → Nat} {t I s n g cap : Nat} {xs : List Value} (h : InT w tag t I s (.slice (some ⟨g, 0, none⟩) n cap) (n, xs)) (o : Nat) (x : Value) : InT (w.setCell ⟨g, o, none⟩ x) tag t I s (.slice (some ⟨g, 0, none⟩) n cap) (n, xs.set o x) ∧ Kp (fun k => tag k = t) w (w.setCell ⟨g, o, none⟩ x) :=
  ⟨⟨(h.1.stored o x).1, h.2⟩, Kp.setCell (T := fun k => tag k = t) (Kp.refl _ w) (.inl (h.2 g rfl)) x⟩
theorem InT.cells {w : World} {tag : Nat → Nat} {t I s n g cap : Nat} {xs : List Value} (h : InT w tag t I s (.slice (some ⟨g, 0, none⟩) n cap) (n, xs)) (o : Nat) (vs : List Value) : InT (w.setCells g o vs) tag t I s (.slice (some ⟨g, 0, none⟩) n cap) (n, spl xs o vs) ∧ Kp (fun k => tag k = t) w (w.setCells g o vs) :=
  ⟨⟨owns_spl vs o w xs h.1, h.2⟩, kp_sets (T := fun k => tag k = t) vs o w (h.2 g rfl)⟩
theorem InT.range {w : World} {tag : Nat → Nat} {t I n g cap : Nat} {fs : List (Nat → Int)} (h : InT w tag t I n (.slice (some ⟨g, 0, none⟩) fs.length cap) (fs.length, rowsC n fs)) {i : Nat} (hi : i < fs.length) : w.rangeAt g (i * n) (cf n fs[i]) := fun j v hv => by
  have hj : j < n := by have := (List.getElem?_eq_some_iff.1 hv).1; rwa [cf_len] at this
  have e := cf_at n fs[i] j hj
  rw [e] at hv
  cases hv
  have h1 : (i + 1) * n ≤ fs.length * n := Nat.mul_le_mul_right n hi
  have h2 : (i + 1) * n = i * n + n := Nat.succ_mul i n
  have hb : i * n + j < fs.length * n := by omega
  exact (h.1.cellAt (i * n + j) hb).trans (rowsC_at n fs i j hi hj)
theorem InT.int {w : World} {tag : Nat → Nat} {t I g cap : Nat} {zs : List Int} (h : InT w tag t I 1 (.slice (some ⟨g, 0, none⟩) zs.length cap) (zs.length, ints zs)) {i : Nat} (hi : i < zs.length) : w.cell? ⟨g, i, none⟩ = some (.int .i64 zs[i]) :=
  (h.1.cellAt i (by omega)).trans (by unfold ints; rw [List.getElem?_map, List.getElem?_eq_getElem hi]; rfl)
theorem InT.there {w : World} {tag : Nat → Nat} {t I s n g cap : Nat} {xs : List Value} (h : InT w tag t I s (.slice (some ⟨g, 0, none⟩) n cap) (n, xs)) (o m : Nat) (hm : o + m ≤ n * s) : w.there g o m := fun j hj => by
  refine ⟨?_, h.1.frozenAt _⟩
  have hl : xs.length = n * s := h.1.1
  have h2 : o + j < n * s := by omega
  have h3 : w.cell? ⟨g, o + j, none⟩ = xs[o + j]? := h.1.cellAt (o + j) h2
  rw [h3, List.getElem?_eq_getElem (by omega)]
  rfl
theorem InT.frozen {w : World} {tag : Nat → Nat} {t I s n g cap : Nat} {xs : List Value} (h : InT w tag t I s (.slice (some ⟨g, 0, none⟩) n cap) (n, xs)) (o : Nat) : w.frozen? ⟨g, o, none⟩ = false := h.1.frozenAt _
theorem BoxT.slotsCell {W : World} {wb : Nat} {tag : Nat → Nat} {V : Nat → Value} {p : PW} (h : BoxT W wb tag V p) {g cap : Nat} (e : V 2 = .slice (some ⟨g, 0, none⟩) p.slots.length cap) {i k : Nat} (hi : i < p.slots.length) (hk : k < 7) (x : Int) :
    BoxT (W.setCell ⟨g, i * 7 + k, none⟩ (.int .i64 x)) wb tag V { p with slots := p.slots.set i (upd p.slots[i] k x) } ∧ Kt tag tag W (W.setCell ⟨g, i * 7 + k, none⟩ (.int .i64 x)) := by
  have h2 := h.o.slots
  rw [e] at h2
  obtain ⟨h3, h4⟩ := h2.cell (i * 7 + k) (.int .i64 x)
  rw [rowsC_cell 7 (by decide) p.slots i k hi hk x] at h3
  refine ⟨h.slots h4 (fun _ _ => rfl) ?_, .of h4 (fun k e => by omega) (fun _ _ => rfl)⟩
  rw [List.length_set, e]
  exact h3
theorem BoxT.slotsRow {W : World} {wb : Nat} {tag : Nat → Nat} {V : Nat → Value} {p : PW} (h : BoxT W wb tag V p) {g cap : Nat} (e : V 2 = .slice (some ⟨g, 0, none⟩) p.slots.length cap) {i : Nat} (hi : i < p.slots.length) (f : Nat → Int) :
    BoxT (W.setCells g (i * 7) (cf 7 f)) wb tag V { p with slots := p.slots.set i f } ∧ Kt tag tag W (W.setCells g (i * 7) (cf 7 f)) := by
  have h2 := h.o.slots
  rw [e] at h2
  obtain ⟨h3, h4⟩ := h2.cells (i * 7) (cf 7 f)
  rw [rowsC_set 7 (by decide) p.slots i hi f] at h3
  refine ⟨h.slots h4 (fun _ _ => rfl) ?_, .of h4 (fun k e => by omega) (fun _ _ => rfl)⟩
  rw [List.length_set, e]
  exact h3
theorem BoxT.tasksCell {W : World} {wb : Nat} {tag : Nat → Nat} {V : Nat → Value} {p : PW} (h : BoxT W wb tag V p) {g cap : Nat} (e : V 3 = .slice (some ⟨g, 0, none⟩) p.tasks.length cap) {i k : Nat} (hi : i < p.tasks.length) (hk : k < 20) (x : Int) :
    BoxT (W.setCell ⟨g, i * 20 + k, none⟩ (.int .i64 x)) wb tag V { p with tasks := p.tasks.set i (upd p.tasks[i] k x) } ∧ Kt tag tag W (W.setCell ⟨g, i * 20 + k, none⟩ (.int .i64 x)) := by
  have h2 := h.o.tasks
  rw [e] at h2
  obtain ⟨h3, h4⟩ := h2.cell (i * 20 + k) (.int .i64 x)
  rw [rowsC_cell 20 (by decide) p.tasks i k hi hk x] at h3
  refine ⟨h.tasks h4 (fun _ _ => rfl) ?_, .of h4 (fun k e => by omega) (fun _ _ => rfl)⟩
  rw [List.length_set, e]
  exact h3
theorem BoxT.tasksRow {W : World} {wb : Nat} {tag : Nat → Nat} {V : Nat → Value} {p : PW} (h : BoxT W wb tag V p) {g cap : Nat} (e : V 3 = .slice (some ⟨g, 0, none⟩) p.tasks.length cap) {i : Nat} (hi : i < p.tasks.length) (f : Nat → Int) :
    BoxT (W.setCells g (i * 20) (cf 20 f)) wb tag V { p with tasks := p.tasks.set i f } ∧ Kt tag tag W (W.setCells g (i * 20) (cf 20 f)) := by
  have h2 := h.o.tasks
  rw [e] at h2
  obtain ⟨h3, h4⟩ := h2.cells (i * 20) (cf 20 f)
  rw [rowsC_set 20 (by decide) p.tasks i hi f] at h3
  refine ⟨h.tasks h4 (fun _ _ => rfl) ?_, .of h4 (fun k e => by omega) (fun _ _ => rfl)⟩
  rw [List.length_set, e]
  exact h3
theorem BoxT.ramCell {W : World} {wb : Nat} {tag : Nat → Nat} {V : Nat → Value} {p : PW} (h : BoxT W wb tag V p) {g cap : Nat} (e : V 0 = .slice (some ⟨g, 0, none⟩) p.ram.length cap) (i : Nat) (x : Int) :
    BoxT (W.setCell ⟨g, i, none⟩ (.int .i64 x)) wb tag V { p with ram := p.ram.set i x } ∧ Kt tag tag W (W.setCell ⟨g, i, none⟩ (.int .i64 x)) := by
  have h2 := h.o.ram
  rw [e] at h2
  obtain ⟨h3, h4⟩ := h2.cell i (.int .i64 x)
  rw [ints_set] at h3
  refine ⟨h.ram h4 (fun _ _ => rfl) ?_, .of h4 (fun k e => by omega) (fun _ _ => rfl)⟩
  rw [List.length_set, e]
  exact h3
theorem BoxT.kindsCell {W : World} {wb : Nat} {tag : Nat → Nat} {V : Nat → Value} {p : PW} (h : BoxT W wb tag V p) {g cap : Nat} (e : V 1 = .slice (some ⟨g, 0, none⟩) p.kinds.length cap) (i : Nat) (x : Int) :
    BoxT (W.setCell ⟨g, i, none⟩ (.int .i64 x)) wb tag V { p with kinds := p.kinds.set i x } ∧ Kt tag tag W (W.setCell ⟨g, i, none⟩ (.int .i64 x)) := by
  have h2 := h.o.kinds
  rw [e] at h2
  obtain ⟨h3, h4⟩ := h2.cell i (.int .i64 x)
  rw [ints_set] at h3
  refine ⟨h.kinds h4 (fun _ _ => rfl) ?_, .of h4 (fun k e => by omega) (fun _ _ => rfl)⟩
  rw [List.length_set, e]
  exact h3
theorem BoxT.bitsCell {W : World} {wb : Nat} {tag : Nat → Nat} {V : Nat → Value} {p : PW} (h : BoxT W wb tag V p) {g cap : Nat} (e : V 5 = .slice (some ⟨g, 0, none⟩) p.bits.length cap) (i : Nat) (x : Int) :
    BoxT (W.setCell ⟨g, i, none⟩ (.int .i64 x)) wb tag V { p with bits := p.bits.set i x } ∧ Kt tag tag W (W.setCell ⟨g, i, none⟩ (.int .i64 x)) := by
  have h2 := h.o.bits
  rw [e] at h2
  obtain ⟨h3, h4⟩ := h2.cell i (.int .i64 x)
  rw [ints_set] at h3
  refine ⟨h.bits h4 (fun _ _ => rfl) ?_, .of h4 (fun k e => by omega) (fun _ _ => rfl)⟩
  rw [List.length_set, e]
  exact h3
theorem BoxT.coresCell {W : World} {wb : Nat} {tag : Nat → Nat} {V : Nat → Value} {p : PW} (h : BoxT W wb tag V p) {g cap : Nat} (e : V 6 = .slice (some ⟨g, 0, none⟩) p.cores.length cap) (i : Nat) (x : Int) :
    BoxT (W.setCell ⟨g, i, none⟩ (.int .i64 x)) wb tag V { p with cores := p.cores.set i x } ∧ Kt tag tag W (W.setCell ⟨g, i, none⟩ (.int .i64 x)) := by
  have h2 := h.o.cores
  rw [e] at h2
  obtain ⟨h3, h4⟩ := h2.cell i (.int .i64 x)
  rw [ints_set] at h3
  refine ⟨h.cores h4 (fun _ _ => rfl) ?_, .of h4 (fun k e => by omega) (fun _ _ => rfl)⟩
  rw [List.length_set, e]
  exact h3
theorem BoxT.slotsAt {W : World} {wb : Nat} {tag : Nat → Nat} {V : Nat → Value} {p : PW} (h : BoxT W wb tag V p) {g cap : Nat} (e : V 2 = .slice (some ⟨g, 0, none⟩) p.slots.length cap) {i k : Nat} (hi : i < p.slots.length) (hk : k < 7) : W.cell? ⟨g, i * 7 + k, none⟩ = some (.int .i64 (p.slots[i] k)) := by
  have h2 := h.o.slots
  rw [e] at h2
  exact h2.range hi k _ (cf_at 7 _ k hk)
theorem BoxT.slotsFr {W : World} {wb : Nat} {tag : Nat → Nat} {V : Nat → Value} {p : PW} (h : BoxT W wb tag V p) {g cap : Nat} (e : V 2 = .slice (some ⟨g, 0, none⟩) p.slots.length cap) (o : Nat) : W.frozen? ⟨g, o, none⟩ = false := by
  have h2 := h.o.slots
  rw [e] at h2
  exact h2.frozen o
theorem BoxT.tasksAt {W : World} {wb : Nat} {tag : Nat → Nat} {V : Nat → Value} {p : PW} (h : BoxT W wb tag V p) {g cap : Nat} (e : V 3 = .slice (some ⟨g, 0, none⟩) p.tasks.length cap) {i k : Nat} (hi : i < p.tasks.length) (hk : k < 20) : W.cell? ⟨g, i * 20 + k, none⟩ = some (.int .i64 (p.tasks[i] k)) := by
  have h2 := h.o.tasks
  rw [e] at h2
  exact h2.range hi k _ (cf_at 20 _ k hk)
theorem BoxT.tasksFr {W : World} {wb : Nat} {tag : Nat → Nat} {V : Nat → Value} {p : PW} (h : BoxT W wb tag V p) {g cap : Nat} (e : V 3 = .slice (some ⟨g, 0, none⟩) p.tasks.length cap) (o : Nat) : W.frozen? ⟨g, o, none⟩ = false := by
  have h2 := h.o.tasks
  rw [e] at h2
  exact h2.frozen o
end Go.Proofs.YtjcbkollogdlcaaGreatDoor.Wd
