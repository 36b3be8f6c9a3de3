/- A world of one's own in its box, what a deed does to it, and one slot of it written. -/
import Derived.Test.YtjcbkollogdlcaaGreatDoorGOw2
import Derived.Test.YtjcbkollogdlcaaGreatDoorGLook
namespace Go.Proofs.YtjcbkollogdlcaaGreatDoor.Wd
open Go.RowKit Go.Proofs.YtjcbkollogdlcaaGreatDoor.Mem Go.Proofs.YtjcbkollogdlcaaGreatDoor.Bw Go.Proofs.YtjcbkollogdlcaaGreatDoor.Nums Go.Proofs.YtjcbkollogdlcaaGreatDoor.Mmu

/-- A world of one's own in its box, which lies behind its lists. -/
structure BoxO (W : World) (wb : Nat) (L : Nat → Nat) (V : Nat → Value) (p : PW) : Prop where
  r : W.rangeAt wb 0 (arr11 V).toList
  t : W.there wb 0 11
  o : WorldO W L V p
  lo : L 10 ≤ wb
  lt : wb < W.heap.size
theorem BoxO.below {W W' : World} {wb : Nat} {L : Nat → Nat} {V : Nat → Value} {p : PW} (h : BoxO W wb L V p) (hb : Below W.heap.size W W') : BoxO W' wb L V p :=
  ⟨range_below h.r hb, there_belowO h.t hb, h.o.below hb, h.lo, Nat.lt_of_lt_of_le h.lt hb.size⟩
theorem below_setN {B : Nat} : ∀ (vs : List Value) (o : Nat) (w : World), B ≤ B → Below B w (w.setCells B o vs)
  | [], _, w, _ => Below.refl _ _
  | v :: r, o, w, h => by
    rw [World.setCells]
    exact ((Below.refl B w).setCell (Nat.le_refl _) v).trans (below_setN r (o + 1) _ h)
theorem worldO_over {w : World} {L : Nat → Nat} {v : Nat → Value} {p : PW} (h : WorldO w L v p) {B : Nat} (hB : L 10 ≤ B) (vs : List Value) (o : Nat) (hs : B ≤ w.heap.size := by simp) : WorldO (w.setCells B o vs) L v p := by
  have up : ∀ d j, j + d = 10 → L j ≤ L 10 := fun d => by
    induction d with
    | zero => intro j hj; rw [show j = 10 by omega]; exact Nat.le_refl _
    | succ d ih => intro j hj; exact Nat.le_trans (h.mono j (by omega)) (ih (j + 1) (by omega))
  have u : ∀ j, j ≤ 10 → L j ≤ B := fun j hj => Nat.le_trans (up (10 - j) j (by omega)) hB
  have bb := below_setN vs o w (Nat.le_refl B)
  have hs2 : B ≤ (w.setCells B o vs).heap.size := by rw [setCells_size]; exact hs
  exact ⟨h.mono, h.ram.belowN (u 1 (by omega)) bb, h.kinds.belowN (u 2 (by omega)) bb, h.slots.belowN (u 3 (by omega)) bb, h.tasks.belowN (u 4 (by omega)) bb, h.lines.belowN (u 5 (by omega)) bb hs2, h.bits.belowN (u 6 (by omega)) bb, h.cores.belowN (u 7 (by omega)) bb, h.ready.belowN (u 8 (by omega)) bb hs2, h.tlbs.belowN (u 9 (by omega)) bb hs2, h.doms.belowN (u 10 (by omega)) bb, h.time⟩
/-- What a deed does to a world: an error, or another world. (ans: how the error is told.) -/
def Deed (N : Nat) (caps : Array Value) (ok : World → Prop) (ans : Int → Value) (p p' : PW) (e : Int) : Prop :=
  ∀ W wb L V, BoxO W wb L V p → ok W → (∀ W', Below (L 0) W W' → ok W') → Calls Tryz.prog N (#[.pointer (some ⟨wb, 0, none⟩)] ++ caps) W fun r W' => r = .returned (ans e) ∧ Below (L 0) W W' ∧ (e = 0 → ∃ V' L', BoxO W' wb L' V' p' ∧ L 0 ≤ L' 0)
/-- Cells written here and there. -/
def sts (W : World) (ws : List (Nat × Nat × List Value)) : World := ws.foldl (fun W x => W.setCells x.1 x.2.1 x.2.2) W
theorem sts0 (W : World) : sts W [] = W := rfl
theorem sts1 (W : World) (B o : Nat) (vs : List Value) : sts W [(B, o, vs)] = W.setCells B o vs := rfl
theorem sts2 (W : World) (B o C q : Nat) (vs us : List Value) : sts W [(B, o, vs), (C, q, us)] = (W.setCells B o vs).setCells C q us := rfl
/-- A world in its box, which does not lie below lo. -/
structure Far (W : World) (wb lo : Nat) (V : Nat → Value) (p : PW) : Prop where
  r : W.rangeAt wb 0 (arr11 V).toList
  v : ∀ ws, (∀ x ∈ ws, x.1 < lo) → WorldV (sts W ws) V p
theorem BoxO.far {W : World} {wb lo : Nat} {L : Nat → Nat} {V : Nat → Value} {p : PW} (h : BoxO W wb L V p) (hl : ∀ l ∈ p.tlbs, l.length ≤ 100) (hlo : lo ≤ L 0) : Far W wb lo V p := by
  refine ⟨h.r, fun ws hw => ?_⟩
  have : ∀ (ws : List (Nat × Nat × List Value)) (W : World), WorldO W L V p → (∀ x ∈ ws, x.1 < lo) → WorldO (sts W ws) L V p := fun ws => by
    induction ws with
    | nil => intro W h _; exact h
    | cons x r ih => intro W h hw; exact ih _ (h.sets (Nat.lt_of_lt_of_le (hw x (by simp)) hlo) x.2.2 x.2.1) (fun y hy => hw y (by simp [hy]))
  exact (this ws W h.o hw).v hl
theorem Far.v0 {W : World} {wb lo : Nat} {V : Nat → Value} {p : PW} (h : Far W wb lo V p) : WorldV W V p := by
  have := h.v [] (by simp)
  rwa [sts0] at this
theorem Far.v1 {W : World} {wb lo : Nat} {V : Nat → Value} {p : PW} (h : Far W wb lo V p) (B o : Nat) (vs : List Value) (hB : B < lo) : WorldV (W.setCells B o vs) V p := by
  have := h.v [(B, o, vs)] (by simpa using hB)
  rwa [sts1] at this
theorem Far.v2 {W : World} {wb lo : Nat} {V : Nat → Value} {p : PW} (h : Far W wb lo V p) (B o C q : Nat) (vs us : List Value) (hB : B < lo) (hC : C < lo) : WorldV ((W.setCells B o vs).setCells C q us) V p := by
  have := h.v [(B, o, vs), (C, q, us)] (by simp [hB, hC])
  rwa [sts2] at this
/-- What a deed does to a world of one's own; where what comes lies, is said by Far. -/
def DeedF (N : Nat) (caps : Array Value) (ok : World → Prop) (ans : Int → Value) (p p' : PW) (e : Int) : Prop :=
  ∀ W wb L V, BoxO W wb L V p → ok W → (∀ W', Below (L 0) W W' → ok W') → Calls Tryz.prog N (#[.pointer (some ⟨wb, 0, none⟩)] ++ caps) W fun r W' => r = .returned (ans e) ∧ Below (L 0) W W' ∧ (e = 0 → ∃ V', Far W' wb (L 0) V' p')
theorem Deed.f {N : Nat} {caps : Array Value} {ok : World → Prop} {ans : Int → Value} {p p' : PW} {e : Int} (h : Deed N caps ok ans p p' e) (hl : ∀ l ∈ p'.tlbs, l.length ≤ 100) : DeedF N caps ok ans p p' e := by
  intro W wb L V bo ho hst
  refine (h W wb L V bo ho hst).mono ?_
  rintro r W' ⟨h1, h2, h3⟩
  refine ⟨h1, h2, fun he => ?_⟩
  obtain ⟨V', L', b2, h4⟩ := h3 he
  exact ⟨V', b2.far hl h4⟩
/-- Values written into a list, one behind the other. -/
def spl : List Value → Nat → List Value → List Value
  | xs, _, [] => xs
  | xs, o, v :: r => spl (xs.set o v) (o + 1) r
theorem spl_get : ∀ (vs xs : List Value) (o j : Nat), (spl xs o vs)[j]? = if o ≤ j ∧ j < o + vs.length ∧ j < xs.length then vs[j - o]? else xs[j]?
  | [], xs, o, j => by
    rw [spl, if_neg (by simp; omega)]
  | v :: r, xs, o, j => by
    rw [spl, spl_get r (xs.set o v) (o + 1) j]
    simp only [List.length_set, List.length_cons]
    by_cases h1 : o = j
    · subst h1
      rw [if_neg (by omega)]
      by_cases h2 : o < xs.length
      · rw [if_pos ⟨Nat.le_refl _, by omega, h2⟩, List.getElem?_set_self h2, Nat.sub_self]
        rfl
      · rw [if_neg (by omega), List.getElem?_eq_none (by simp; omega), List.getElem?_eq_none (by omega)]
    · rw [List.getElem?_set_ne h1]
      by_cases h2 : o + 1 ≤ j ∧ j < o + 1 + r.length ∧ j < xs.length
      · rw [if_pos h2, if_pos ⟨by omega, by omega, h2.2.2⟩, show j - o = (j - (o + 1)) + 1 by omega]
        rfl
      · rw [if_neg h2, if_neg (by omega)]
theorem owns_spl {base e size g n cap : Nat} : ∀ (vs : List Value) (o : Nat) (w : World) (xs : List Value), w.ownsRow base e size (.slice (some ⟨g, 0, none⟩) n cap) n xs → (w.setCells g o vs).ownsRow base e size (.slice (some ⟨g, 0, none⟩) n cap) n (spl xs o vs)
  | [], _, _, _, h => h
  | v :: r, o, w, xs, h => by
    rw [World.setCells, spl]
    exact owns_spl r (o + 1) _ _ (h.stored o v).1
theorem rowsC_set (n : Nat) (hn : 0 < n) (fs : List (Nat → Int)) (i : Nat) (hi : i < fs.length) (f : Nat → Int) : spl (rowsC n fs) (i * n) (cf n f) = rowsC n (fs.set i f) := by
  apply List.ext_getElem?
  intro j
  rw [spl_get, cf_len]
  have hl : (rowsC n fs).length = fs.length * n := rowsC_len n fs
  have hl2 : (rowsC n (fs.set i f)).length = fs.length * n := by rw [rowsC_len, List.length_set]
  by_cases hj : j < fs.length * n
  · have e : j = j / n * n + j % n := by rw [Nat.mul_comm]; exact (Nat.div_add_mod j n).symm
    have hq : j / n < fs.length := (Nat.div_lt_iff_lt_mul hn).2 hj
    have hr : j % n < n := Nat.mod_lt _ hn
    have a1 := rowsC_at n fs (j / n) (j % n) hq hr
    have a2 := rowsC_at n (fs.set i f) (j / n) (j % n) (by rw [List.length_set]; exact hq) hr
    rw [← e] at a1 a2
    rw [a1, a2]
    by_cases h : j / n = i
    · have e2 : j - i * n = j % n := by rw [← h]; omega
      rw [if_pos (by rw [hl, ← h]; omega), e2, cf_at n f _ hr]
      subst h
      rw [List.getElem_set_self]
    · rw [if_neg (by
        intro hh
        apply h
        have h1 : i * n ≤ j := hh.1
        have h2 : j < (i + 1) * n := by rw [Nat.succ_mul]; exact hh.2.1
        exact Nat.le_antisymm (Nat.lt_succ_iff.1 ((Nat.div_lt_iff_lt_mul hn).2 h2)) ((Nat.le_div_iff_mul_le hn).2 h1))]
      rw [List.getElem_set_ne (fun e => h e.symm)]
  · rw [if_neg (by rw [hl]; omega), List.getElem?_eq_none (by rw [hl]; omega), List.getElem?_eq_none (by rw [hl2]; omega)]
theorem WorldO.upto {w : World} {L : Nat → Nat} {v : Nat → Value} {p : PW} (h : WorldO w L v p) : ∀ d j, j + d ≤ 10 → L j ≤ L (j + d)
  | 0, _, _ => Nat.le_refl _
  | d + 1, j, hj => Nat.le_trans (h.upto d j (by omega)) (h.mono (j + d) (by omega))
/-- One slot is another one. -/
def PW.slot (p : PW) (i : Nat) (f : Nat → Int) : PW := { p with slots := p.slots.set i f }
theorem WorldO.slot {w : World} {L : Nat → Nat} {v : Nat → Value} {p : PW} (h : WorldO w L v p) {g cap : Nat} (e : v 2 = .slice (some ⟨g, 0, none⟩) p.slots.length cap) {i : Nat} (hi : i < p.slots.length) (f : Nat → Int) : WorldO (w.setCells g (i * 7) (cf 7 f)) L v (p.slot i f) := by
  have h2 := h.slots
  rw [e] at h2
  have g1 : L 2 ≤ g := (h2.1.lt g rfl).1
  have g2 : g < L 3 := h2.2 g rfl
  have bb : Below g w (w.setCells g (i * 7) (cf 7 f)) := below_setN (cf 7 f) (i * 7) w (Nat.le_refl _)
  have up : ∀ j, 3 ≤ j → j ≤ 10 → g < L j := fun j h3 h10 => by
    have := h.upto (j - 3) 3 (by omega)
    rw [show 3 + (j - 3) = j by omega] at this
    omega
  have l1 : L 1 ≤ g := Nat.le_trans (h.mono 1 (by omega)) g1
  refine ⟨h.mono, h.ram.belowN l1 bb, h.kinds.belowN g1 bb, ?_, InO.sets (up 3 (by omega) (by omega)) _ _ _ h.tasks, OwnL.sets (up 4 (by omega) (by omega)) _ _ _ h.lines, InO.sets (up 5 (by omega) (by omega)) _ _ _ h.bits, InO.sets (up 6 (by omega) (by omega)) _ _ _ h.cores, OwnL.sets (up 7 (by omega) (by omega)) _ _ _ h.ready, OwnL.sets (up 8 (by omega) (by omega)) _ _ _ h.tlbs, InO.sets (up 9 (by omega) (by omega)) _ _ _ h.doms, h.time⟩
  have o := owns_spl (cf 7 f) (i * 7) w _ h2.1
  simp only at o
  rw [rowsC_set 7 (by decide) p.slots i hi f] at o
  refine ⟨?_, h.slots.2⟩
  show World.ownsRow _ _ _ _ (v 2) (p.slots.set i f).length (rowsC 7 (p.slots.set i f))
  rw [e, List.length_set]
  exact o
theorem BoxO.slot {W : World} {wb : Nat} {L : Nat → Nat} {V : Nat → Value} {p : PW} (h : BoxO W wb L V p) {g cap : Nat} (e : V 2 = .slice (some ⟨g, 0, none⟩) p.slots.length cap) {i : Nat} (hi : i < p.slots.length) (f : Nat → Int) : BoxO (W.setCells g (i * 7) (cf 7 f)) wb L V (p.slot i f) ∧ Below (L 0) W (W.setCells g (i * 7) (cf 7 f)) := by
  have h2 := h.o.slots
  rw [e] at h2
  have g1 : L 2 ≤ g := (h2.1.lt g rfl).1
  have g2 : g < L 3 := h2.2 g rfl
  have u3 := h.o.upto 7 3 (by omega)
  have hw : g < wb := Nat.lt_of_lt_of_le g2 (Nat.le_trans u3 h.lo)
  refine ⟨⟨fun k x hk => ?_, there_sets _ _ _ h.t, h.o.slot e hi f, h.lo, by rw [setCells_size]; exact h.lt⟩, ?_⟩
  · rw [World.cell?_setCells_out g _ _ _ ⟨wb, 0 + k, none⟩ (fun e _ => by simp only at e; omega)]
    exact h.r k x hk
  · exact (below_setN (cf 7 f) (i * 7) W (Nat.le_refl g)).mono (Nat.le_trans (h.o.le 2 (by omega)) g1)
theorem BoxO.view {W : World} {wb : Nat} {L : Nat → Nat} {V : Nat → Value} {p : PW} (h : BoxO W wb L V p) (hp : p.Fits) (hl : ∀ l ∈ p.tlbs, l.length ≤ 100) : ViewAt W wb V p := ⟨h.r, h.o.v hl, hp⟩
end Go.Proofs.YtjcbkollogdlcaaGreatDoor.Wd
