/- The rest of GBx: what few laws reach. · What was made from one slot is now made from another one: tree.hand, keyholdref.turn; an empty slot: plain.Empty; walked. · mmu.Walk and keyholdref.Walked: one answer; mmu.Entry, walked. -/
import Derived.Test.YtakmaeohhclngaaGreatDoorRah
import Derived.Test.YtakmaeohhclngaaGreatDoorRab
import Derived.Test.YtakmaeohhclngaaGreatDoorRac
namespace Go.Proofs.YtakmaeohhclngaaGreatDoor.Wd
open Go.RowKit Go.Proofs.YtakmaeohhclngaaGreatDoor.Mem Go.Proofs.YtakmaeohhclngaaGreatDoor.Bw Go.Proofs.YtakmaeohhclngaaGreatDoor.Nums Go.Proofs.YtakmaeohhclngaaGreatDoor.Mmu
theorem BoxO.below {W W' : World} {wb : Nat} {L : Nat → Nat} {V : Nat → Value} {p : PW} (h : BoxO W wb L V p) (hb : Below W.heap.size W W') : BoxO W' wb L V p :=
 ⟨range_below h.r hb, there_belowO h.t hb, h.o.below hb, h.lo, Nat.lt_of_lt_of_le h.lt hb.size⟩
/-- What a deed does to a world: an error, or another world. (ans: how the error is told.) -/
def Deed (N : Nat) (caps : Array Value) (ok : World → Prop) (ans : Int → Value) (p p' : PW) (e : Int) : Prop :=
 ∀ W wb L V, BoxO W wb L V p → ok W → (∀ W', Below (L 0) W W' → ok W') → Calls Tryz.prog N (#[.pointer (some ⟨wb, 0, none⟩)] ++ caps) W fun r W' => r = .returned (ans e) ∧ Below (L 0) W W' ∧ (e = 0 → ∃ V' L', BoxO W' wb L' V' p' ∧ L 0 ≤ L' 0)
theorem BoxO.far {W : World} {wb lo : Nat} {L : Nat → Nat} {V : Nat → Value} {p : PW} (h : BoxO W wb L V p) (hl : ∀ l ∈ p.tlbs, l.length ≤ 100) (hlo : lo ≤ L 0) : Far W wb lo V p := by
 refine ⟨h.r, fun ws hw => ?_⟩
 have : ∀ (ws : List (Nat × Nat × List Value)) (W : World), WorldO W L V p → (∀ x ∈ ws, x.1 < lo) → WorldO (sts W ws) L V p := fun ws => by
  induction ws with
  | nil => intro W h _; exact h
  | cons x r ih => intro W h hw; exact ih _ (h.sets (Nat.lt_of_lt_of_le (hw x (by simp)) hlo) x.2.2 x.2.1) (fun y hy => hw y (by simp [hy]))
 exact (this ws W h.o hw).v hl
theorem Deed.f {N : Nat} {caps : Array Value} {ok : World → Prop} {ans : Int → Value} {p p' : PW} {e : Int} (h : Deed N caps ok ans p p' e) (hl : ∀ l ∈ p'.tlbs, l.length ≤ 100) : DeedF N caps ok ans p p' e := by
 intro W wb L V bo ho hst
 refine (h W wb L V bo ho hst).mono ?_
 rintro r W' ⟨h1, h2, h3⟩
 refine ⟨h1, h2, fun he => ?_⟩
 obtain ⟨V', L', b2, h4⟩ := h3 he
 exact ⟨V', b2.far hl h4⟩
/-- Values written into a list, one behind the other. -/
def spl : List Value → Nat → List Value → List Value
 | xs, _, [] => xs
 | xs, o, v :: r => spl (xs.set o v) (o + 1) r
theorem spl_get : ∀ (vs xs : List Value) (o j : Nat), (spl xs o vs)[j]? = if o ≤ j ∧ j < o + vs.length ∧ j < xs.length then vs[j - o]? else xs[j]?
 | [], xs, o, j => by
  rw [spl, if_neg (by simp; omega)]
 | v :: r, xs, o, j => by
  rw [spl, spl_get r (xs.set o v) (o + 1) j]
  simp only [List.length_set, List.length_cons]
  by_cases h1 : o = j
  ·subst h1
   rw [if_neg (by omega)]
   by_cases h2 : o < xs.length
   ·rw [if_pos ⟨Nat.le_refl _, by omega, h2⟩, List.getElem?_set_self h2, Nat.sub_self]
    rfl
   ·rw [if_neg (by omega), List.getElem?_eq_none (by simp; omega), List.getElem?_eq_none (by omega)]
  ·rw [List.getElem?_set_ne h1]
   by_cases h2 : o + 1 ≤ j ∧ j < o + 1 + r.length ∧ j < xs.length
   ·rw [if_pos h2, if_pos ⟨by omega, by omega, h2.2.2⟩, show j - o = (j - (o + 1)) + 1 by omega]
    rfl
   ·rw [if_neg h2, if_neg (by omega)]
theorem owns_spl {base e size g n cap : Nat} : ∀ (vs : List Value) (o : Nat) (w : World) (xs : List Value), w.ownsRow base e size (.slice (some ⟨g, 0, none⟩) n cap) n xs → (w.setCells g o vs).ownsRow base e size (.slice (some ⟨g, 0, none⟩) n cap) n (spl xs o vs)
 | [], _, _, _, h => h
 | v :: r, o, w, xs, h => by
  rw [World.setCells, spl]
  exact owns_spl r (o + 1) _ _ (h.stored o v).1
theorem rowsC_set (n : Nat) (hn : 0 < n) (fs : List (Nat → Int)) (i : Nat) (hi : i < fs.length) (f : Nat → Int) : spl (rowsC n fs) (i * n) (cf n f) = rowsC n (fs.set i f) := by
 apply List.ext_getElem?
 intro j
 rw [spl_get, cf_len]
 have hl : (rowsC n fs).length = fs.length * n := rowsC_len n fs
 have hl2 : (rowsC n (fs.set i f)).length = fs.length * n := by rw [rowsC_len, List.length_set]
 by_cases hj : j < fs.length * n
 ·have e : j = j / n * n + j % n := by rw [Nat.mul_comm]; exact (Nat.div_add_mod j n).symm
  have hq : j / n < fs.length := (Nat.div_lt_iff_lt_mul hn).2 hj
  have hr : j % n < n := Nat.mod_lt _ hn
  have a1 := rowsC_at n fs (j / n) (j % n) hq hr
  have a2 := rowsC_at n (fs.set i f) (j / n) (j % n) (by rw [List.length_set]; exact hq) hr
  rw [← e] at a1 a2
  rw [a1, a2]
  by_cases h : j / n = i
  ·have e2 : j - i * n = j % n := by rw [← h]; omega
   rw [if_pos (by rw [hl, ← h]; omega), e2, cf_at n f _ hr]
   subst h
   rw [List.getElem_set_self]
  ·rw [if_neg (by
    intro hh
    apply h
    have h1 : i * n ≤ j := hh.1
    have h2 : j < (i + 1) * n := by rw [Nat.succ_mul]; exact hh.2.1
    exact Nat.le_antisymm (Nat.lt_succ_iff.1 ((Nat.div_lt_iff_lt_mul hn).2 h2)) ((Nat.le_div_iff_mul_le hn).2 h1))]
   rw [List.getElem_set_ne (fun e => h e.symm)]
 ·rw [if_neg (by rw [hl]; omega), List.getElem?_eq_none (by rw [hl]; omega), List.getElem?_eq_none (by rw [hl2]; omega)]
theorem WorldO.upto {w : World} {L : Nat → Nat} {v : Nat → Value} {p : PW} (h : WorldO w L v p) : ∀ d j, j + d ≤ 10 → L j ≤ L (j + d)
 | 0, _, _ => Nat.le_refl _
 | d + 1, j, hj => Nat.le_trans (h.upto d j (by omega)) (h.mono (j + d) (by omega))
/-- One slot is another one. -/
def PW.slot (p : PW) (i : Nat) (f : Nat → Int) : PW := { p with slots := p.slots.set i f }
theorem WorldO.slot {w : World} {L : Nat → Nat} {v : Nat → Value} {p : PW} (h : WorldO w L v p) {g cap : Nat} (e : v 2 = .slice (some ⟨g, 0, none⟩) p.slots.length cap) {i : Nat} (hi : i < p.slots.length) (f : Nat → Int) : WorldO (w.setCells g (i * 7) (cf 7 f)) L v (p.slot i f) := by
 have h2 := h.slots
 rw [e] at h2
 have g1 : L 2 ≤ g := (h2.1.lt g rfl).1
 have g2 : g < L 3 := h2.2 g rfl
 have bb : Below g w (w.setCells g (i * 7) (cf 7 f)) := below_setN (cf 7 f) (i * 7) w (Nat.le_refl _)
 have up : ∀ j, 3 ≤ j → j ≤ 10 → g < L j := fun j h3 h10 => by
  have := h.upto (j - 3) 3 (by omega)
  rw [show 3 + (j - 3) = j by omega] at this
  omega
 have l1 : L 1 ≤ g := Nat.le_trans (h.mono 1 (by omega)) g1
 refine ⟨h.mono, h.ram.belowN l1 bb, h.kinds.belowN g1 bb, ?_, InO.sets (up 3 (by omega) (by omega)) _ _ _ h.tasks, OwnL.sets (up 4 (by omega) (by omega)) _ _ _ h.lines, InO.sets (up 5 (by omega) (by omega)) _ _ _ h.bits, InO.sets (up 6 (by omega) (by omega)) _ _ _ h.cores, OwnL.sets (up 7 (by omega) (by omega)) _ _ _ h.ready, OwnL.sets (up 8 (by omega) (by omega)) _ _ _ h.tlbs, InO.sets (up 9 (by omega) (by omega)) _ _ _ h.doms, h.time⟩
 have o := owns_spl (cf 7 f) (i * 7) w _ h2.1
 simp only at o
 rw [rowsC_set 7 (by decide) p.slots i hi f] at o
 refine ⟨?_, h.slots.2⟩
 show World.ownsRow _ _ _ _ (v 2) (p.slots.set i f).length (rowsC 7 (p.slots.set i f))
 rw [e, List.length_set]
 exact o
theorem BoxO.slot {W : World} {wb : Nat} {L : Nat → Nat} {V : Nat → Value} {p : PW} (h : BoxO W wb L V p) {g cap : Nat} (e : V 2 = .slice (some ⟨g, 0, none⟩) p.slots.length cap) {i : Nat} (hi : i < p.slots.length) (f : Nat → Int) : BoxO (W.setCells g (i * 7) (cf 7 f)) wb L V (p.slot i f) ∧ Below (L 0) W (W.setCells g (i * 7) (cf 7 f)) := by
 have h2 := h.o.slots
 rw [e] at h2
 have g1 : L 2 ≤ g := (h2.1.lt g rfl).1
 have g2 : g < L 3 := h2.2 g rfl
 have u3 := h.o.upto 7 3 (by omega)
 have hw : g < wb := Nat.lt_of_lt_of_le g2 (Nat.le_trans u3 h.lo)
 refine ⟨⟨fun k x hk => ?_, there_sets _ _ _ h.t, h.o.slot e hi f, h.lo, by rw [setCells_size]; exact h.lt⟩, ?_⟩
 ·rw [World.cell?_setCells_out g _ _ _ ⟨wb, 0 + k, none⟩ (fun e _ => by simp only at e; omega)]
  exact h.r k x hk
 ·exact (below_setN (cf 7 f) (i * 7) W (Nat.le_refl g)).mono (Nat.le_trans (h.o.le 2 (by omega)) g1)
theorem BoxO.view {W : World} {wb : Nat} {L : Nat → Nat} {V : Nat → Value} {p : PW} (h : BoxO W wb L V p) (hp : p.Fits) (hl : ∀ l ∈ p.tlbs, l.length ≤ 100) : ViewAt W wb V p := ⟨h.r, h.o.v hl, hp⟩
theorem BoxT.ram {W W' : World} {wb : Nat} {tag tag' : Nat → Nat} {V : Nat → Value} {p : PW} (h : BoxT W wb tag V p) (k : Kp (fun k => tag k = 2) W W') (ht : ∀ k, k < W.heap.size → tag' k = tag k) {x : List Int} (n : InT W' tag' 2 3 1 (V 0) (x.length, ints x)) : BoxT W' wb tag' V { p with ram := x } :=
 ⟨range_kp h.r k (by rw [h.g]; decide), there_kp h.t k (by rw [h.g]; decide), (ht wb h.lt).trans h.g, ⟨n, h.o.kinds.kp k ht (fun k e => by omega), h.o.slots.kp k ht (fun k e => by omega), h.o.tasks.kp k ht (fun k e => by omega), h.o.lines.kp k ht (fun k e => by rcases e with e | ⟨i, e⟩ <;> omega), h.o.bits.kp k ht (fun k e => by omega), h.o.cores.kp k ht (fun k e => by omega), h.o.ready.kp k ht (fun k e => by rcases e with e | ⟨i, e⟩ <;> omega), h.o.tlbs.kp k ht (fun k e => by rcases e with e | ⟨i, e⟩ <;> omega), h.o.doms.kp k ht (fun k e => by omega), h.o.time⟩⟩
theorem BoxT.kinds {W W' : World} {wb : Nat} {tag tag' : Nat → Nat} {V : Nat → Value} {p : PW} (h : BoxT W wb tag V p) (k : Kp (fun k => tag k = 3) W W') (ht : ∀ k, k < W.heap.size → tag' k = tag k) {x : List Int} (n : InT W' tag' 3 3 1 (V 1) (x.length, ints x)) : BoxT W' wb tag' V { p with kinds := x } :=
 ⟨range_kp h.r k (by rw [h.g]; decide), there_kp h.t k (by rw [h.g]; decide), (ht wb h.lt).trans h.g, ⟨h.o.ram.kp k ht (fun k e => by omega), n, h.o.slots.kp k ht (fun k e => by omega), h.o.tasks.kp k ht (fun k e => by omega), h.o.lines.kp k ht (fun k e => by rcases e with e | ⟨i, e⟩ <;> omega), h.o.bits.kp k ht (fun k e => by omega), h.o.cores.kp k ht (fun k e => by omega), h.o.ready.kp k ht (fun k e => by rcases e with e | ⟨i, e⟩ <;> omega), h.o.tlbs.kp k ht (fun k e => by rcases e with e | ⟨i, e⟩ <;> omega), h.o.doms.kp k ht (fun k e => by omega), h.o.time⟩⟩
theorem BoxT.slots {W W' : World} {wb : Nat} {tag tag' : Nat → Nat} {V : Nat → Value} {p : PW} (h : BoxT W wb tag V p) (k : Kp (fun k => tag k = 4) W W') (ht : ∀ k, k < W.heap.size → tag' k = tag k) {x : List (Nat → Int)} (n : InT W' tag' 4 117 7 (V 2) (x.length, rowsC 7 x)) : BoxT W' wb tag' V { p with slots := x } :=
 ⟨range_kp h.r k (by rw [h.g]; decide), there_kp h.t k (by rw [h.g]; decide), (ht wb h.lt).trans h.g, ⟨h.o.ram.kp k ht (fun k e => by omega), h.o.kinds.kp k ht (fun k e => by omega), n, h.o.tasks.kp k ht (fun k e => by omega), h.o.lines.kp k ht (fun k e => by rcases e with e | ⟨i, e⟩ <;> omega), h.o.bits.kp k ht (fun k e => by omega), h.o.cores.kp k ht (fun k e => by omega), h.o.ready.kp k ht (fun k e => by rcases e with e | ⟨i, e⟩ <;> omega), h.o.tlbs.kp k ht (fun k e => by rcases e with e | ⟨i, e⟩ <;> omega), h.o.doms.kp k ht (fun k e => by omega), h.o.time⟩⟩
theorem BoxT.tlbs {W W' : World} {wb : Nat} {tag tag' : Nat → Nat} {V : Nat → Value} {p : PW} (h : BoxT W wb tag V p) (k : Kp (fun k => tag k = 10 ∨ ∃ j, tag k = 14 + 3 * j) W W') (ht : ∀ k, k < W.heap.size → tag' k = tag k) {x : List (List Ent)} (n : ListT W' tag' 10 14 135 143 4 x.length (V 8) (ce x)) : BoxT W' wb tag' V { p with tlbs := x } :=
 ⟨range_kp h.r k (by rw [h.g]; rintro (h | ⟨j, h⟩) <;> omega), there_kp h.t k (by rw [h.g]; rintro (h | ⟨j, h⟩) <;> omega), (ht wb h.lt).trans h.g, ⟨h.o.ram.kp k ht (fun k e => by rintro (h | ⟨j, h⟩) <;> omega), h.o.kinds.kp k ht (fun k e => by rintro (h | ⟨j, h⟩) <;> omega), h.o.slots.kp k ht (fun k e => by rintro (h | ⟨j, h⟩) <;> omega), h.o.tasks.kp k ht (fun k e => by rintro (h | ⟨j, h⟩) <;> omega), h.o.lines.kp k ht (fun k e => by rintro (h | ⟨j, h⟩) <;> rcases e with e | ⟨i, e⟩ <;> omega), h.o.bits.kp k ht (fun k e => by rintro (h | ⟨j, h⟩) <;> omega), h.o.cores.kp k ht (fun k e => by rintro (h | ⟨j, h⟩) <;> omega), h.o.ready.kp k ht (fun k e => by rintro (h | ⟨j, h⟩) <;> rcases e with e | ⟨i, e⟩ <;> omega), n, h.o.doms.kp k ht (fun k e => by rintro (h | ⟨j, h⟩) <;> omega), h.o.time⟩⟩
theorem BoxT.doms {W W' : World} {wb : Nat} {tag tag' : Nat → Nat} {V : Nat → Value} {p : PW} (h : BoxT W wb tag V p) (k : Kp (fun k => tag k = 11) W W') (ht : ∀ k, k < W.heap.size → tag' k = tag k) {x : List Int} (n : InT W' tag' 11 3 1 (V 9) (x.length, ints x)) : BoxT W' wb tag' V { p with doms := x } :=
 ⟨range_kp h.r k (by rw [h.g]; decide), there_kp h.t k (by rw [h.g]; decide), (ht wb h.lt).trans h.g, ⟨h.o.ram.kp k ht (fun k e => by omega), h.o.kinds.kp k ht (fun k e => by omega), h.o.slots.kp k ht (fun k e => by omega), h.o.tasks.kp k ht (fun k e => by omega), h.o.lines.kp k ht (fun k e => by rcases e with e | ⟨i, e⟩ <;> omega), h.o.bits.kp k ht (fun k e => by omega), h.o.cores.kp k ht (fun k e => by omega), h.o.ready.kp k ht (fun k e => by rcases e with e | ⟨i, e⟩ <;> omega), h.o.tlbs.kp k ht (fun k e => by rcases e with e | ⟨i, e⟩ <;> omega), n, h.o.time⟩⟩
theorem InT.cells {w : World} {tag : Nat → Nat} {t I s n g cap : Nat} {xs : List Value} (h : InT w tag t I s (.slice (some ⟨g, 0, none⟩) n cap) (n, xs)) (o : Nat) (vs : List Value) : InT (w.setCells g o vs) tag t I s (.slice (some ⟨g, 0, none⟩) n cap) (n, spl xs o vs) ∧ Kp (fun k => tag k = t) w (w.setCells g o vs) :=
 ⟨⟨owns_spl vs o w xs h.1, h.2⟩, kp_sets (T := fun k => tag k = t) vs o w (h.2 g rfl)⟩
theorem InT.there {w : World} {tag : Nat → Nat} {t I s n g cap : Nat} {xs : List Value} (h : InT w tag t I s (.slice (some ⟨g, 0, none⟩) n cap) (n, xs)) (o m : Nat) (hm : o + m ≤ n * s) : w.there g o m := fun j hj => by
 refine ⟨?_, h.1.frozenAt _⟩
 have hl : xs.length = n * s := h.1.1
 have h2 : o + j < n * s := by omega
 have h3 : w.cell? ⟨g, o + j, none⟩ = xs[o + j]? := h.1.cellAt (o + j) h2
 rw [h3, List.getElem?_eq_getElem (by omega)]
 rfl
theorem BoxT.slotsCell {W : World} {wb : Nat} {tag : Nat → Nat} {V : Nat → Value} {p : PW} (h : BoxT W wb tag V p) {g cap : Nat} (e : V 2 = .slice (some ⟨g, 0, none⟩) p.slots.length cap) {i k : Nat} (hi : i < p.slots.length) (hk : k < 7) (x : Int) :
  BoxT (W.setCell ⟨g, i * 7 + k, none⟩ (.int .i64 x)) wb tag V { p with slots := p.slots.set i (upd p.slots[i] k x) } ∧ Kt tag tag W (W.setCell ⟨g, i * 7 + k, none⟩ (.int .i64 x)) := by
 have h2 := h.o.slots
 rw [e] at h2
 obtain ⟨h3, h4⟩ := h2.cell (i * 7 + k) (.int .i64 x)
 rw [rowsC_cell 7 (by decide) p.slots i k hi hk x] at h3
 refine ⟨h.slots h4 (fun _ _ => rfl) ?_, .of h4 (fun k e => by omega) (fun _ _ => rfl)⟩
 rw [List.length_set, e]
 exact h3
theorem BoxT.slotsRow {W : World} {wb : Nat} {tag : Nat → Nat} {V : Nat → Value} {p : PW} (h : BoxT W wb tag V p) {g cap : Nat} (e : V 2 = .slice (some ⟨g, 0, none⟩) p.slots.length cap) {i : Nat} (hi : i < p.slots.length) (f : Nat → Int) :
  BoxT (W.setCells g (i * 7) (cf 7 f)) wb tag V { p with slots := p.slots.set i f } ∧ Kt tag tag W (W.setCells g (i * 7) (cf 7 f)) := by
 have h2 := h.o.slots
 rw [e] at h2
 obtain ⟨h3, h4⟩ := h2.cells (i * 7) (cf 7 f)
 rw [rowsC_set 7 (by decide) p.slots i hi f] at h3
 refine ⟨h.slots h4 (fun _ _ => rfl) ?_, .of h4 (fun k e => by omega) (fun _ _ => rfl)⟩
 rw [List.length_set, e]
 exact h3
theorem BoxT.ramCell {W : World} {wb : Nat} {tag : Nat → Nat} {V : Nat → Value} {p : PW} (h : BoxT W wb tag V p) {g cap : Nat} (e : V 0 = .slice (some ⟨g, 0, none⟩) p.ram.length cap) (i : Nat) (x : Int) :
  BoxT (W.setCell ⟨g, i, none⟩ (.int .i64 x)) wb tag V { p with ram := p.ram.set i x } ∧ Kt tag tag W (W.setCell ⟨g, i, none⟩ (.int .i64 x)) := by
 have h2 := h.o.ram
 rw [e] at h2
 obtain ⟨h3, h4⟩ := h2.cell i (.int .i64 x)
 rw [ints_set] at h3
 refine ⟨h.ram h4 (fun _ _ => rfl) ?_, .of h4 (fun k e => by omega) (fun _ _ => rfl)⟩
 rw [List.length_set, e]
 exact h3
theorem BoxT.kindsCell {W : World} {wb : Nat} {tag : Nat → Nat} {V : Nat → Value} {p : PW} (h : BoxT W wb tag V p) {g cap : Nat} (e : V 1 = .slice (some ⟨g, 0, none⟩) p.kinds.length cap) (i : Nat) (x : Int) :
  BoxT (W.setCell ⟨g, i, none⟩ (.int .i64 x)) wb tag V { p with kinds := p.kinds.set i x } ∧ Kt tag tag W (W.setCell ⟨g, i, none⟩ (.int .i64 x)) := by
 have h2 := h.o.kinds
 rw [e] at h2
 obtain ⟨h3, h4⟩ := h2.cell i (.int .i64 x)
 rw [ints_set] at h3
 refine ⟨h.kinds h4 (fun _ _ => rfl) ?_, .of h4 (fun k e => by omega) (fun _ _ => rfl)⟩
 rw [List.length_set, e]
 exact h3
theorem BoxT.slotsAt {W : World} {wb : Nat} {tag : Nat → Nat} {V : Nat → Value} {p : PW} (h : BoxT W wb tag V p) {g cap : Nat} (e : V 2 = .slice (some ⟨g, 0, none⟩) p.slots.length cap) {i k : Nat} (hi : i < p.slots.length) (hk : k < 7) : W.cell? ⟨g, i * 7 + k, none⟩ = some (.int .i64 (p.slots[i] k)) := by
 have h2 := h.o.slots
 rw [e] at h2
 exact h2.range hi k _ (cf_at 7 _ k hk)
section
variable {P : Program} {ops : Array Oper} {Q : Exit → Act → World → Prop} {md : Region.Mode} {S R : World → Prop} {fs : List Nat}
end
end Go.Proofs.YtakmaeohhclngaaGreatDoor.Wd
namespace Go.Proofs.YtakmaeohhclngaaGreatDoor.Wd
open Go.RowKit Go.Proofs.YtakmaeohhclngaaGreatDoor.Mem Go.Proofs.YtakmaeohhclngaaGreatDoor.Bw Go.Proofs.YtakmaeohhclngaaGreatDoor.Nums Go.Proofs.YtakmaeohhclngaaGreatDoor.Mmu
def hnd1 (a b : Int) (f : Nat → Int) : Nat → Int := if f 6 = a then upd f 6 b else f
def hnd (a b : Int) (fs : List (Nat → Int)) : List (Nat → Int) := fs.map (hnd1 a b)
theorem info7s : (Tryz.prog.info? 117).map (·.size) = some 7 := by kernel_rfl
theorem wp_stS {ops : Array Oper} {rest : List Oper} {op : Oper} {a : Act} {w : World} {Q : Exit → Act → World → Prop} (hgd : op.guard = none) (x y : Operand) (ho : op.op = .store 117 x y)
  (b o : Nat) (hx : a.eval x = .pointer (some ⟨b, o, none⟩)) (cs : List Value) (hy : a.eval y = .agg cs.toArray) (hl : cs.length = 7) (h1 : ∀ v ∈ cs, v.oneCell' = true) (ht : w.there b o 7)
  (h : wpList Tryz.prog ops Q rest (a.put op.dst undef) (w.setCells b o cs)) : wpList Tryz.prog ops Q (op :: rest) a w :=
 wpList_store_mid hgd 117 x y ho b o cs.toArray hx hy (by simpa [hl] using ht) (by rw [info7s]; simp [hl]) (all_oneCell_toArray h1) (by simpa using h)
end Go.Proofs.YtakmaeohhclngaaGreatDoor.Wd
namespace Go.Proofs.YtakmaeohhclngaaGreatDoor.Mmu
open Go.RowKit Go.Proofs.YtakmaeohhclngaaGreatDoor.Mem Go.Proofs.YtakmaeohhclngaaGreatDoor.Bw Go.Proofs.YtakmaeohhclngaaGreatDoor.Nums
def n16 (zs : List Int) : Int := (zs.length : Int) / 16
def e1 (zs : List Int) (s a : Int) : Int := zs.getD (s * 16 + a / 256).toNat 0
def e2 (zs : List Int) (t a : Int) : Int := zs.getD (t * 16 + a / 16 % 16).toNat 0
/-- D1: where an address leads, whether that may be written, and the error. -/
def walkR (zs : List Int) (s a : Int) : Int × Bool × Int :=
 if ¬ inb zs.length s a then (0, false, 2)
 else if ¬ isE (e1 zs s a) (n16 zs) then (0, false, 9)
 else if ¬ isE (e2 zs (e1 zs s a % 1024) a) (n16 zs) then (0, false, 9)
 else (e2 zs (e1 zs s a % 1024) a % 1024, decide (e2 zs (e1 zs s a % 1024) a / 16384 % 2 = 1), 0)
def errV (k : Int) : Value := if k = 0 then .nilIface else .iface 42 (.int .i64 k)
theorem getD_some {zs : List Int} {j : Nat} (h : j < zs.length) : zs[j]? = some (zs.getD j 0) := by
 rw [List.getElem?_eq_getElem h, List.getD_eq_getElem?_getD, List.getElem?_eq_getElem h]
 rfl
theorem walkR_range {zs : List Int} {s a : Int} (h : ¬ inb zs.length s a) : walkR zs s a = (0, false, 2) := by unfold walkR; rw [if_pos h]
theorem walkR_no1 {zs : List Int} {s a : Int} (h : inb zs.length s a) (h1 : ¬ isE (e1 zs s a) (n16 zs)) : walkR zs s a = (0, false, 9) := by unfold walkR; rw [if_neg (fun k => k h), if_pos h1]
theorem walkR_no2 {zs : List Int} {s a : Int} (h : inb zs.length s a) (h1 : isE (e1 zs s a) (n16 zs)) (h2 : ¬ isE (e2 zs (e1 zs s a % 1024) a) (n16 zs)) : walkR zs s a = (0, false, 9) := by
 unfold walkR; rw [if_neg (fun k => k h), if_neg (fun k => k h1), if_pos h2]
theorem walkR_yes {zs : List Int} {s a : Int} (h : inb zs.length s a) (h1 : isE (e1 zs s a) (n16 zs)) (h2 : isE (e2 zs (e1 zs s a % 1024) a) (n16 zs)) : walkR zs s a = (e2 zs (e1 zs s a % 1024) a % 1024, decide (e2 zs (e1 zs s a % 1024) a / 16384 % 2 = 1), 0) := by
 unfold walkR; rw [if_neg (fun k => k h), if_neg (fun k => k h1), if_neg (fun k => k h2)]
/-- The numbers that the walks reckon. -/
theorem idx1 {zs : List Int} {s a : Int} (h : inb zs.length s a) : 0 ≤ s ∧ 0 ≤ a / 256 ∧ s * 16 + a / 256 < zs.length := by
 unfold inb at h
 omega
theorem idx2 {zs : List Int} {s a : Int} (h : inb zs.length s a) (h1 : isE (e1 zs s a) (n16 zs)) : 0 ≤ e1 zs s a % 1024 ∧ 0 ≤ a / 16 % 16 ∧ e1 zs s a % 1024 * 16 + a / 16 % 16 < zs.length := by
 unfold inb at h
 unfold isE n16 at h1
 omega
end Go.Proofs.YtakmaeohhclngaaGreatDoor.Mmu
