/- A world of one's own in its box, what a deed does to it, and one slot of it written. · Worlds of one's own whose blocks bear tags: what is written into one list leaves the others as they are. (Written by mk_wt.py.) · One cell, or one row, of a world of one's own, written. (Written by mk_wr.py.) · Regions that draw their order and write, in the end, into what they read: what is read is known until then. · What a closure has kept: cells that are not of the world. -/
import Derived.Deep.RegionHeld3
import Derived.Test.YtkocmkaeaagbaaaGreatDoorQan
import Derived.Test.YtkocmkaeaagbaaaGreatDoorQad
import Derived.Test.YtkocmkaeaagbaaaGreatDoorQaa
namespace Go.Proofs.YtkocmkaeaagbaaaGreatDoor.Wd
open Go.RowKit Go.Proofs.YtkocmkaeaagbaaaGreatDoor.Mem Go.Proofs.YtkocmkaeaagbaaaGreatDoor.Bw Go.Proofs.YtkocmkaeaagbaaaGreatDoor.Nums Go.Proofs.YtkocmkaeaagbaaaGreatDoor.Mmu
/-- A world of one's own in its box, which lies behind its lists. -/
structure BoxO (W : World) (wb : Nat) (L : Nat → Nat) (V : Nat → Value) (p : PW) : Prop where
 r : W.rangeAt wb 0 (arr11 V).toList
 t : W.there wb 0 11
 o : WorldO W L V p
 lo : L 10 ≤ wb
 lt : wb < W.heap.size
theorem below_setN {B : Nat} : ∀ (vs : List Value) (o : Nat) (w : World), B ≤ B → Below B w (w.setCells B o vs)
 | [], _, w, _ => Below.refl _ _
 | v :: r, o, w, h => by
  rw [World.setCells]
  exact ((Below.refl B w).setCell (Nat.le_refl _) v).trans (below_setN r (o + 1) _ h)
theorem worldO_over {w : World} {L : Nat → Nat} {v : Nat → Value} {p : PW} (h : WorldO w L v p) {B : Nat} (hB : L 10 ≤ B) (vs : List Value) (o : Nat) (hs : B ≤ w.heap.size := by simp) : WorldO (w.setCells B o vs) L v p := by
 have up : ∀ d j, j + d = 10 → L j ≤ L 10 := fun d => by
  induction d with
  | zero => intro j hj; rw [show j = 10 by omega]; exact Nat.le_refl _
  | succ d ih => intro j hj; exact Nat.le_trans (h.mono j (by omega)) (ih (j + 1) (by omega))
 have u : ∀ j, j ≤ 10 → L j ≤ B := fun j hj => Nat.le_trans (up (10 - j) j (by omega)) hB
 have bb := below_setN vs o w (Nat.le_refl B)
 have hs2 : B ≤ (w.setCells B o vs).heap.size := by rw [setCells_size]; exact hs
 exact ⟨h.mono, h.ram.belowN (u 1 (by omega)) bb, h.kinds.belowN (u 2 (by omega)) bb, h.slots.belowN (u 3 (by omega)) bb, h.tasks.belowN (u 4 (by omega)) bb, h.lines.belowN (u 5 (by omega)) bb hs2, h.bits.belowN (u 6 (by omega)) bb, h.cores.belowN (u 7 (by omega)) bb, h.ready.belowN (u 8 (by omega)) bb hs2, h.tlbs.belowN (u 9 (by omega)) bb hs2, h.doms.belowN (u 10 (by omega)) bb, h.time⟩
/-- Cells written here and there. -/
def sts (W : World) (ws : List (Nat × Nat × List Value)) : World := ws.foldl (fun W x => W.setCells x.1 x.2.1 x.2.2) W
theorem sts0 (W : World) : sts W [] = W := rfl
/-- A row of one's own, whose block bears a tag. -/
def InT (w : World) (tag : Nat → Nat) (t I s : Nat) (u : Value) (c : Nat × List Value) : Prop := w.ownsRow 0 I s u c.1 c.2 ∧ ∀ k, u.ownBlock = some k → tag k = t
/-- Lists of one's own: the outer row's block bears the tag t, that of list j the tag i + 3 * j. -/
def ListT (w : World) (tag : Nat → Nat) (t i O I s n : Nat) (v : Value) (cc : Nat → Nat × List Value) : Prop := ∃ g us, v = .slice (some ⟨g, 0, none⟩) n n ∧ tag g = t ∧ us.length = n ∧ w.ownsRow 0 O 1 (.slice (some ⟨g, 0, none⟩) n n) n us ∧ ∀ j (h : j < us.length), InT w tag (i + 3 * j) I s us[j] (cc j)
theorem own_kp {w w' : World} {T : Nat → Prop} {B e size n : Nat} {v : Value} {xs : List Value} (h : w.ownsRow B e size v n xs) (hk : Kp T w w') (hn : ∀ k, v.ownBlock = some k → ¬ T k) : w'.ownsRow B e size v n xs := by
 refine ⟨h.1, ?_⟩
 rcases h.2 with h2 | ⟨g, cap, cur, rfl, h3, h4, h5⟩
 ·exact .inl h2
 ·exact .inr ⟨g, cap, cur, rfl, h3, by rw [hk.block g (Array.getElem?_eq_some_iff.1 h4).1 (hn g rfl)]; exact h4, h5⟩
theorem InT.kp {w w' : World} {T : Nat → Prop} {tag tag' : Nat → Nat} {t I s : Nat} {u : Value} {c : Nat × List Value} (h : InT w tag t I s u c) (hk : Kp T w w') (ht : ∀ k, k < w.heap.size → tag' k = tag k) (hn : ∀ k, tag k = t → ¬ T k) : InT w' tag' t I s u c :=
 ⟨own_kp h.1 hk (fun k e => hn k (h.2 k e)), fun k e => (ht k (h.1.lt k e).2).trans (h.2 k e)⟩
theorem ListT.kp {w w' : World} {T : Nat → Prop} {tag tag' : Nat → Nat} {t i O I s n : Nat} {v : Value} {cc : Nat → Nat × List Value} (h : ListT w tag t i O I s n v cc) (hk : Kp T w w') (ht : ∀ k, k < w.heap.size → tag' k = tag k) (hn : ∀ k, tag k = t ∨ (∃ j, tag k = i + 3 * j) → ¬ T k) : ListT w' tag' t i O I s n v cc := by
 obtain ⟨g, us, h1, h2, h3, h4, h5⟩ := h
 refine ⟨g, us, h1, (ht g (h4.lt g rfl).2).trans h2, h3, own_kp h4 hk (fun k e => hn k (.inl ?_)), fun j hj => (h5 j hj).kp hk ht (fun k e => hn k (.inr ⟨j, e⟩))⟩
 have : g = k := by simpa [Value.ownBlock] using e
 rw [← this]
 exact h2
/-- A world of one's own, its blocks with tags. -/
structure WorldT (w : World) (tag : Nat → Nat) (v : Nat → Value) (p : PW) : Prop where
 ram : InT w tag 2 3 1 (v 0) (p.ram.length, ints p.ram)
 kinds : InT w tag 3 3 1 (v 1) (p.kinds.length, ints p.kinds)
 slots : InT w tag 4 45 7 (v 2) (p.slots.length, rowsC 7 p.slots)
 tasks : InT w tag 5 68 20 (v 3) (p.tasks.length, rowsC 20 p.tasks)
 lines : ListT w tag 6 12 22 3 1 p.lines.length (v 4) (ci p.lines)
 bits : InT w tag 7 3 1 (v 5) (p.bits.length, ints p.bits)
 cores : InT w tag 8 3 1 (v 6) (p.cores.length, ints p.cores)
 ready : ListT w tag 9 13 22 3 1 p.ready.length (v 7) (ci p.ready)
 tlbs : ListT w tag 10 14 70 103 4 p.tlbs.length (v 8) (ce p.tlbs)
 doms : InT w tag 11 3 1 (v 9) (p.doms.length, ints p.doms)
 time : v 10 = .int .i64 p.time
/-- .. in its box. -/
structure BoxT (W : World) (wb : Nat) (tag : Nat → Nat) (V : Nat → Value) (p : PW) : Prop where
 r : W.rangeAt wb 0 (arr11 V).toList
 t : W.there wb 0 11
 g : tag wb = 1
 o : WorldT W tag V p
/-- What is not of the world (tag 0) is as it was, and not of it. -/
structure Kt (tag tag' : Nat → Nat) (W W' : World) : Prop where
 k : Kp (fun k => tag k ≠ 0) W W'
 t : ∀ k, k < W.heap.size → tag k = 0 → tag' k = 0
theorem Kt.refl (tag : Nat → Nat) (W : World) : Kt tag tag W W := ⟨Kp.refl _ _, fun _ _ h => h⟩
theorem Kt.trans {tag tag' tag'' : Nat → Nat} {A B C : World} (h : Kt tag tag' A B) (k : Kt tag' tag'' B C) : Kt tag tag'' A C :=
 ⟨⟨k.k.os.trans h.k.os, k.k.tape.trans h.k.tape, k.k.output.trans h.k.output, Nat.le_trans h.k.size k.k.size, fun i hi hn => (k.k.block i (Nat.lt_of_lt_of_le hi h.k.size) (fun e => e (h.t i hi (Classical.byContradiction fun f => hn f)))).trans (h.k.block i hi hn)⟩, fun i hi h0 => k.t i (Nat.lt_of_lt_of_le hi h.k.size) (h.t i hi h0)⟩
theorem Kt.below {tag : Nat → Nat} {A B : World} (h : Below A.heap.size A B) : Kt tag tag A B := ⟨.of_below h, fun _ _ e => e⟩
theorem Kt.cell {tag tag' : Nat → Nat} {A B : World} (h : Kt tag tag' A B) {b o : Nat} {x : Value} (hx : A.cell? ⟨b, o, none⟩ = some x) (h0 : tag b = 0) : B.cell? ⟨b, o, none⟩ = some x := (h.k.cell (p := ⟨b, o, none⟩) (World.block_lt_of_cell? _ _ hx) (fun e => e h0)).trans hx
theorem Kt.tag0 {tag tag' : Nat → Nat} {A B : World} (h : Kt tag tag' A B) {b o : Nat} {x : Value} (hx : A.cell? ⟨b, o, none⟩ = some x) (h0 : tag b = 0) : tag' b = 0 := h.t b (World.block_lt_of_cell? A ⟨b, o, none⟩ hx) h0
theorem Kt.of {tag tag' : Nat → Nat} {T : Nat → Prop} {A B : World} (h : Kp T A B) (ht : ∀ k, T k → tag k ≠ 0) (he : ∀ k, k < A.heap.size → tag' k = tag k) : Kt tag tag' A B := ⟨h.wider (fun k _ e => ht k e), fun k hk e => (he k hk).trans e⟩
theorem BoxT.lt {W : World} {wb : Nat} {tag : Nat → Nat} {V : Nat → Value} {p : PW} (h : BoxT W wb tag V p) : wb < W.heap.size := World.block_lt_of_cell? _ ⟨wb, 0, none⟩ (range_cell h.r (k := 0) rfl)
theorem BoxT.kp {W W' : World} {wb : Nat} {tag tag' : Nat → Nat} {V : Nat → Value} {p : PW} {T : Nat → Prop} (h : BoxT W wb tag V p) (k : Kp T W W') (hT : ∀ k, k < W.heap.size → T k → tag k = 0) (ht : ∀ k, k < W.heap.size → tag' k = tag k) : BoxT W' wb tag' V p := by
 have k2 : Kp (fun k => tag k = 0) W W' := k.wider hT
 exact ⟨range_kp h.r k2 (by rw [h.g]; decide), there_kp h.t k2 (by rw [h.g]; decide), (ht wb h.lt).trans h.g, ⟨h.o.ram.kp k2 ht (fun k e => by omega), h.o.kinds.kp k2 ht (fun k e => by omega), h.o.slots.kp k2 ht (fun k e => by omega), h.o.tasks.kp k2 ht (fun k e => by omega), h.o.lines.kp k2 ht (fun k e => by rcases e with e | ⟨i, e⟩ <;> omega), h.o.bits.kp k2 ht (fun k e => by omega), h.o.cores.kp k2 ht (fun k e => by omega), h.o.ready.kp k2 ht (fun k e => by rcases e with e | ⟨i, e⟩ <;> omega), h.o.tlbs.kp k2 ht (fun k e => by rcases e with e | ⟨i, e⟩ <;> omega), h.o.doms.kp k2 ht (fun k e => by omega), h.o.time⟩⟩
theorem BoxT.below {W W' : World} {wb : Nat} {tag : Nat → Nat} {V : Nat → Value} {p : PW} (h : BoxT W wb tag V p) (hb : Below W.heap.size W W') : BoxT W' wb tag V p := h.kp (T := fun _ => False) (.of_below hb) (fun _ _ e => e.elim) (fun _ _ => rfl)
theorem BoxT.tasks {W W' : World} {wb : Nat} {tag tag' : Nat → Nat} {V : Nat → Value} {p : PW} (h : BoxT W wb tag V p) (k : Kp (fun k => tag k = 5) W W') (ht : ∀ k, k < W.heap.size → tag' k = tag k) {x : List (Nat → Int)} (n : InT W' tag' 5 68 20 (V 3) (x.length, rowsC 20 x)) : BoxT W' wb tag' V { p with tasks := x } :=
 ⟨range_kp h.r k (by rw [h.g]; decide), there_kp h.t k (by rw [h.g]; decide), (ht wb h.lt).trans h.g, ⟨h.o.ram.kp k ht (fun k e => by omega), h.o.kinds.kp k ht (fun k e => by omega), h.o.slots.kp k ht (fun k e => by omega), n, h.o.lines.kp k ht (fun k e => by rcases e with e | ⟨i, e⟩ <;> omega), h.o.bits.kp k ht (fun k e => by omega), h.o.cores.kp k ht (fun k e => by omega), h.o.ready.kp k ht (fun k e => by rcases e with e | ⟨i, e⟩ <;> omega), h.o.tlbs.kp k ht (fun k e => by rcases e with e | ⟨i, e⟩ <;> omega), h.o.doms.kp k ht (fun k e => by omega), h.o.time⟩⟩
theorem BoxT.lines {W W' : World} {wb : Nat} {tag tag' : Nat → Nat} {V : Nat → Value} {p : PW} (h : BoxT W wb tag V p) (k : Kp (fun k => tag k = 6 ∨ ∃ j, tag k = 12 + 3 * j) W W') (ht : ∀ k, k < W.heap.size → tag' k = tag k) {x : List (List Int)} (n : ListT W' tag' 6 12 22 3 1 x.length (V 4) (ci x)) : BoxT W' wb tag' V { p with lines := x } :=
 ⟨range_kp h.r k (by rw [h.g]; rintro (h | ⟨j, h⟩) <;> omega), there_kp h.t k (by rw [h.g]; rintro (h | ⟨j, h⟩) <;> omega), (ht wb h.lt).trans h.g, ⟨h.o.ram.kp k ht (fun k e => by rintro (h | ⟨j, h⟩) <;> omega), h.o.kinds.kp k ht (fun k e => by rintro (h | ⟨j, h⟩) <;> omega), h.o.slots.kp k ht (fun k e => by rintro (h | ⟨j, h⟩) <;> omega), h.o.tasks.kp k ht (fun k e => by rintro (h | ⟨j, h⟩) <;> omega), n, h.o.bits.kp k ht (fun k e => by rintro (h | ⟨j, h⟩) <;> omega), h.o.cores.kp k ht (fun k e => by rintro (h | ⟨j, h⟩) <;> omega), h.o.ready.kp k ht (fun k e => by rintro (h | ⟨j, h⟩) <;> rcases e with e | ⟨i, e⟩ <;> omega), h.o.tlbs.kp k ht (fun k e => by rintro (h | ⟨j, h⟩) <;> rcases e with e | ⟨i, e⟩ <;> omega), h.o.doms.kp k ht (fun k e => by rintro (h | ⟨j, h⟩) <;> omega), h.o.time⟩⟩
theorem BoxT.bits {W W' : World} {wb : Nat} {tag tag' : Nat → Nat} {V : Nat → Value} {p : PW} (h : BoxT W wb tag V p) (k : Kp (fun k => tag k = 7) W W') (ht : ∀ k, k < W.heap.size → tag' k = tag k) {x : List Int} (n : InT W' tag' 7 3 1 (V 5) (x.length, ints x)) : BoxT W' wb tag' V { p with bits := x } :=
 ⟨range_kp h.r k (by rw [h.g]; decide), there_kp h.t k (by rw [h.g]; decide), (ht wb h.lt).trans h.g, ⟨h.o.ram.kp k ht (fun k e => by omega), h.o.kinds.kp k ht (fun k e => by omega), h.o.slots.kp k ht (fun k e => by omega), h.o.tasks.kp k ht (fun k e => by omega), h.o.lines.kp k ht (fun k e => by rcases e with e | ⟨i, e⟩ <;> omega), n, h.o.cores.kp k ht (fun k e => by omega), h.o.ready.kp k ht (fun k e => by rcases e with e | ⟨i, e⟩ <;> omega), h.o.tlbs.kp k ht (fun k e => by rcases e with e | ⟨i, e⟩ <;> omega), h.o.doms.kp k ht (fun k e => by omega), h.o.time⟩⟩
theorem BoxT.cores {W W' : World} {wb : Nat} {tag tag' : Nat → Nat} {V : Nat → Value} {p : PW} (h : BoxT W wb tag V p) (k : Kp (fun k => tag k = 8) W W') (ht : ∀ k, k < W.heap.size → tag' k = tag k) {x : List Int} (n : InT W' tag' 8 3 1 (V 6) (x.length, ints x)) : BoxT W' wb tag' V { p with cores := x } :=
 ⟨range_kp h.r k (by rw [h.g]; decide), there_kp h.t k (by rw [h.g]; decide), (ht wb h.lt).trans h.g, ⟨h.o.ram.kp k ht (fun k e => by omega), h.o.kinds.kp k ht (fun k e => by omega), h.o.slots.kp k ht (fun k e => by omega), h.o.tasks.kp k ht (fun k e => by omega), h.o.lines.kp k ht (fun k e => by rcases e with e | ⟨i, e⟩ <;> omega), h.o.bits.kp k ht (fun k e => by omega), n, h.o.ready.kp k ht (fun k e => by rcases e with e | ⟨i, e⟩ <;> omega), h.o.tlbs.kp k ht (fun k e => by rcases e with e | ⟨i, e⟩ <;> omega), h.o.doms.kp k ht (fun k e => by omega), h.o.time⟩⟩
theorem BoxT.ready {W W' : World} {wb : Nat} {tag tag' : Nat → Nat} {V : Nat → Value} {p : PW} (h : BoxT W wb tag V p) (k : Kp (fun k => tag k = 9 ∨ ∃ j, tag k = 13 + 3 * j) W W') (ht : ∀ k, k < W.heap.size → tag' k = tag k) {x : List (List Int)} (n : ListT W' tag' 9 13 22 3 1 x.length (V 7) (ci x)) : BoxT W' wb tag' V { p with ready := x } :=
 ⟨range_kp h.r k (by rw [h.g]; rintro (h | ⟨j, h⟩) <;> omega), there_kp h.t k (by rw [h.g]; rintro (h | ⟨j, h⟩) <;> omega), (ht wb h.lt).trans h.g, ⟨h.o.ram.kp k ht (fun k e => by rintro (h | ⟨j, h⟩) <;> omega), h.o.kinds.kp k ht (fun k e => by rintro (h | ⟨j, h⟩) <;> omega), h.o.slots.kp k ht (fun k e => by rintro (h | ⟨j, h⟩) <;> omega), h.o.tasks.kp k ht (fun k e => by rintro (h | ⟨j, h⟩) <;> omega), h.o.lines.kp k ht (fun k e => by rintro (h | ⟨j, h⟩) <;> rcases e with e | ⟨i, e⟩ <;> omega), h.o.bits.kp k ht (fun k e => by rintro (h | ⟨j, h⟩) <;> omega), h.o.cores.kp k ht (fun k e => by rintro (h | ⟨j, h⟩) <;> omega), n, h.o.tlbs.kp k ht (fun k e => by rintro (h | ⟨j, h⟩) <;> rcases e with e | ⟨i, e⟩ <;> omega), h.o.doms.kp k ht (fun k e => by rintro (h | ⟨j, h⟩) <;> omega), h.o.time⟩⟩
theorem ListT.lists {w : World} {tag : Nat → Nat} {t i O : Nat} {v : Value} {ls : List (List Int)} (h : ListT w tag t i O 3 1 ls.length v (ci ls)) : ListsIn w v ls := by
 obtain ⟨g, us, rfl, _, h3, h4, h5⟩ := h
 refine ⟨some ⟨g, 0, none⟩, g, 0, ls.length, rfl, fun _ => rfl, fun j hj => ?_⟩
 have hj2 : j < us.length := by rw [h3]; exact hj
 have hr := h4.cellAt j (by omega)
 rw [List.getElem?_eq_getElem hj2] at hr
 refine ⟨us[j], by rw [Nat.zero_add]; exact hr, ?_⟩
 have := (h5 j hj2).1
 unfold ci at this
 rw [List.getD_eq_getElem?_getD, List.getElem?_eq_getElem hj] at this
 exact own_ints this
theorem ListT.tlbs {w : World} {tag : Nat → Nat} {t i O : Nat} {v : Value} {ls : List (List Ent)} (h : ListT w tag t i O 103 4 ls.length v (ce ls)) (hl : ∀ l ∈ ls, l.length ≤ 100) : TlbsIn w v ls := by
 obtain ⟨g, us, rfl, _, h3, h4, h5⟩ := h
 refine ⟨some ⟨g, 0, none⟩, g, 0, ls.length, rfl, fun _ => rfl, fun j hj => ?_⟩
 have hj2 : j < us.length := by rw [h3]; exact hj
 have hr := h4.cellAt j (by omega)
 rw [List.getElem?_eq_getElem hj2] at hr
 refine ⟨us[j], by rw [Nat.zero_add]; exact hr, ?_⟩
 have := (h5 j hj2).1
 unfold ce at this
 rw [List.getD_eq_getElem?_getD, List.getElem?_eq_getElem hj] at this
 exact own_tlb this (hl _ (List.getElem_mem hj))
theorem WorldT.v {w : World} {tag : Nat → Nat} {v : Nat → Value} {p : PW} (h : WorldT w tag v p) (hl : ∀ l ∈ p.tlbs, l.length ≤ 100) : WorldV w v p :=
 ⟨own_ints h.ram.1, own_ints h.kinds.1, own_rowsC h.slots.1, own_rowsC h.tasks.1, h.lines.lists, own_ints h.bits.1, own_ints h.cores.1, h.ready.lists, h.tlbs.tlbs hl, own_ints h.doms.1, h.time⟩
theorem BoxT.view {W : World} {wb : Nat} {tag : Nat → Nat} {V : Nat → Value} {p : PW} (h : BoxT W wb tag V p) (hp : p.Fits) (hl : ∀ l ∈ p.tlbs, l.length ≤ 100) : ViewAt W wb V p := ⟨h.r, h.o.v hl, hp⟩
/-- The number of a list's block among the lists' blocks. -/
def inner (m : Nat → Nat) (n k : Nat) : Nat := ((List.range n).find? fun j => decide (m j ≤ k ∧ k < m (j + 1))).getD 0
theorem inner_eq {m : Nat → Nat} {n j k : Nat} (hm : ∀ j, j < n → m j ≤ m (j + 1)) (hj : j < n) (h1 : m j ≤ k) (h2 : k < m (j + 1)) : inner m n k = j := by
 have up : ∀ d i, i + d ≤ n → m i ≤ m (i + d) := fun d => by
  induction d with
  | zero => intro i _; exact Nat.le_refl _
  | succ d ih => intro i hi; exact Nat.le_trans (ih i (by omega)) (hm (i + d) (by omega))
 unfold inner
 rw [List.find?_range_eq_some.2 ⟨decide_eq_true ⟨h1, h2⟩, List.mem_range.2 hj, fun i hi => ?_⟩]
 ·rfl
 ·rw [Bool.not_eq_true', decide_eq_false_iff_not]
  have := up (j - (i + 1)) (i + 1) (by omega)
  rw [show i + 1 + (j - (i + 1)) = j by omega] at this
  omega
/-- The tags of a world whose lists lie in ranges of blocks. -/
def tagO (L : Nat → Nat) (wb g4 g7 g8 : Nat) (m4 m7 m8 : Nat → Nat) (n4 n7 n8 k : Nat) : Nat :=
 if k < L 0 then 0 else if k < L 1 then 2 else if k < L 2 then 3 else if k < L 3 then 4 else if k < L 4 then 5
 else if k < L 5 then (if k = g4 then 6 else 12 + 3 * inner m4 n4 k) else if k < L 6 then 7 else if k < L 7 then 8
 else if k < L 8 then (if k = g7 then 9 else 13 + 3 * inner m7 n7 k) else if k < L 9 then (if k = g8 then 10 else 14 + 3 * inner m8 n8 k)
 else if k < L 10 then 11 else if k = wb then 1 else 0
theorem InO.tagged {w : World} {lo hi I s t : Nat} {u : Value} {c : Nat × List Value} {tag : Nat → Nat} (h : InO w lo hi I s u c) (ht : ∀ k, lo ≤ k → k < hi → tag k = t) : InT w tag t I s u c :=
 ⟨h.1.mono (Nat.zero_le _), fun k e => ht k (h.1.lt k e).1 (h.2 k e)⟩
theorem BoxO.tagged {W : World} {wb : Nat} {L : Nat → Nat} {V : Nat → Value} {p : PW} (h : BoxO W wb L V p) : ∃ tag, BoxT W wb tag V p ∧ ∀ k, k < L 0 → tag k = 0 := by
 obtain ⟨g4, us4, m4, a1, a2, a3, a4, a5⟩ := h.o.lines
 obtain ⟨g7, us7, m7, b1, b2, b3, b4, b5⟩ := h.o.ready
 obtain ⟨g8, us8, m8, c1, c2, c3, c4, c5⟩ := h.o.tlbs
 have e0 := h.o.mono 0 (by omega)
 have e1 := h.o.mono 1 (by omega)
 have e2 := h.o.mono 2 (by omega)
 have e3 := h.o.mono 3 (by omega)
 have e4 := h.o.mono 4 (by omega)
 have e5 := h.o.mono 5 (by omega)
 have e6 := h.o.mono 6 (by omega)
 have e7 := h.o.mono 7 (by omega)
 have e8 := h.o.mono 8 (by omega)
 have e9 := h.o.mono 9 (by omega)
 have hlo := h.lo
 have up : ∀ (m : Nat → Nat) (n : Nat), (∀ j, j < n → m j ≤ m (j + 1)) → ∀ d j, j + d = n → m j ≤ m n := fun m n hm d => by
  induction d with
  | zero => intro j hj; rw [show j = n by omega]; exact Nat.le_refl _
  | succ d ih => intro j hj; exact Nat.le_trans (hm j (by omega)) (ih (j + 1) (by omega))
 simp only [Nat.zero_add, Nat.reduceAdd] at e0 e1 e2 e3 e4 e5 e6 e7 e8 e9
 refine ⟨tagO L wb g4 g7 g8 m4 m7 m8 p.lines.length p.ready.length p.tlbs.length, ⟨h.r, h.t, ?_, ?_⟩, fun k hk => ?_⟩
 ·unfold tagO
  repeat rw [if_neg (by omega)]
  rw [if_pos rfl]
 ·refine ⟨h.o.ram.tagged fun k h1 h2 => ?_, h.o.kinds.tagged fun k h1 h2 => ?_, h.o.slots.tagged fun k h1 h2 => ?_, h.o.tasks.tagged fun k h1 h2 => ?_, ?_, h.o.bits.tagged fun k h1 h2 => ?_, h.o.cores.tagged fun k h1 h2 => ?_, ?_, ?_, h.o.doms.tagged fun k h1 h2 => ?_, h.o.time⟩
  ·unfold tagO
   rw [if_neg (by omega), if_pos (by omega)]
  ·unfold tagO
   rw [if_neg (by omega), if_neg (by omega), if_pos (by omega)]
  ·unfold tagO
   rw [if_neg (by omega), if_neg (by omega), if_neg (by omega), if_pos (by omega)]
  ·unfold tagO
   rw [if_neg (by omega), if_neg (by omega), if_neg (by omega), if_neg (by omega), if_pos (by omega)]
  ·refine ⟨g4, us4, a1, ?_, a5.len, ?_, fun j hj => ⟨(a5.each j hj).1.mono (Nat.zero_le _), fun k e => ?_⟩⟩
   ·have z := a5.lo p.lines.length (Nat.le_refl _)
    unfold tagO
    rw [if_neg (by omega), if_neg (by omega), if_neg (by omega), if_neg (by omega), if_neg (by omega), if_pos (by omega), if_pos rfl]
   ·have z := a5.row
    rw [Nat.sub_self, List.replicate_zero, List.append_nil] at z
    exact z.mono (Nat.zero_le _)
   ·have hjn : j < p.lines.length := by rw [← a5.len]; exact hj
    have z1 := a5.lo j (by omega)
    have z2 := ((a5.each j hj).1.lt k e).1
    have z3 := (a5.each j hj).2 k e
    have z4 := up m4 p.lines.length a4 (p.lines.length - (j + 1)) (j + 1) (by omega)
    unfold tagO
    rw [if_neg (by omega), if_neg (by omega), if_neg (by omega), if_neg (by omega), if_neg (by omega), if_pos (by omega), if_neg (by omega), inner_eq a4 hjn z2 z3]
  ·unfold tagO
   rw [if_neg (by omega), if_neg (by omega), if_neg (by omega), if_neg (by omega), if_neg (by omega), if_neg (by omega), if_pos (by omega)]
  ·unfold tagO
   rw [if_neg (by omega), if_neg (by omega), if_neg (by omega), if_neg (by omega), if_neg (by omega), if_neg (by omega), if_neg (by omega), if_pos (by omega)]
  ·refine ⟨g7, us7, b1, ?_, b5.len, ?_, fun j hj => ⟨(b5.each j hj).1.mono (Nat.zero_le _), fun k e => ?_⟩⟩
   ·have z := b5.lo p.ready.length (Nat.le_refl _)
    unfold tagO
    rw [if_neg (by omega), if_neg (by omega), if_neg (by omega), if_neg (by omega), if_neg (by omega), if_neg (by omega), if_neg (by omega), if_neg (by omega), if_pos (by omega), if_pos rfl]
   ·have z := b5.row
    rw [Nat.sub_self, List.replicate_zero, List.append_nil] at z
    exact z.mono (Nat.zero_le _)
   ·have hjn : j < p.ready.length := by rw [← b5.len]; exact hj
    have z1 := b5.lo j (by omega)
    have z2 := ((b5.each j hj).1.lt k e).1
    have z3 := (b5.each j hj).2 k e
    have z4 := up m7 p.ready.length b4 (p.ready.length - (j + 1)) (j + 1) (by omega)
    unfold tagO
    rw [if_neg (by omega), if_neg (by omega), if_neg (by omega), if_neg (by omega), if_neg (by omega), if_neg (by omega), if_neg (by omega), if_neg (by omega), if_pos (by omega), if_neg (by omega), inner_eq b4 hjn z2 z3]
  ·refine ⟨g8, us8, c1, ?_, c5.len, ?_, fun j hj => ⟨(c5.each j hj).1.mono (Nat.zero_le _), fun k e => ?_⟩⟩
   ·have z := c5.lo p.tlbs.length (Nat.le_refl _)
    unfold tagO
    rw [if_neg (by omega), if_neg (by omega), if_neg (by omega), if_neg (by omega), if_neg (by omega), if_neg (by omega), if_neg (by omega), if_neg (by omega), if_neg (by omega), if_pos (by omega), if_pos rfl]
   ·have z := c5.row
    rw [Nat.sub_self, List.replicate_zero, List.append_nil] at z
    exact z.mono (Nat.zero_le _)
   ·have hjn : j < p.tlbs.length := by rw [← c5.len]; exact hj
    have z1 := c5.lo j (by omega)
    have z2 := ((c5.each j hj).1.lt k e).1
    have z3 := (c5.each j hj).2 k e
    have z4 := up m8 p.tlbs.length c4 (p.tlbs.length - (j + 1)) (j + 1) (by omega)
    unfold tagO
    rw [if_neg (by omega), if_neg (by omega), if_neg (by omega), if_neg (by omega), if_neg (by omega), if_neg (by omega), if_neg (by omega), if_neg (by omega), if_neg (by omega), if_pos (by omega), if_neg (by omega), inner_eq c4 hjn z2 z3]
  ·unfold tagO
   rw [if_neg (by omega), if_neg (by omega), if_neg (by omega), if_neg (by omega), if_neg (by omega), if_neg (by omega), if_neg (by omega), if_neg (by omega), if_neg (by omega), if_neg (by omega), if_pos (by omega)]
 ·unfold tagO
  rw [if_pos hk]
theorem kp_sets {B : Nat} {T : Nat → Prop} : ∀ (vs : List Value) (o : Nat) (w : World), T B → Kp T w (w.setCells B o vs)
 | [], _, w, _ => Kp.refl _ _
 | v :: r, o, w, h => by
  rw [World.setCells]
  exact ((Kp.refl T w).setCell (.inl h) v).trans (kp_sets r (o + 1) _ h)
theorem WorldT.sets {w : World} {tag : Nat → Nat} {v : Nat → Value} {p : PW} {B : Nat} (h : WorldT w tag v p) (hB : tag B = 0) (vs : List Value) (o : Nat) : WorldT (w.setCells B o vs) tag v p := by
 have k : Kp (fun k => tag k = 0) w (w.setCells B o vs) := kp_sets vs o w hB
 have ht : ∀ k, k < w.heap.size → tag k = tag k := fun _ _ => rfl
 exact ⟨h.ram.kp k ht (fun k e => by omega), h.kinds.kp k ht (fun k e => by omega), h.slots.kp k ht (fun k e => by omega), h.tasks.kp k ht (fun k e => by omega), h.lines.kp k ht (fun k e => by rcases e with e | ⟨i, e⟩ <;> omega), h.bits.kp k ht (fun k e => by omega), h.cores.kp k ht (fun k e => by omega), h.ready.kp k ht (fun k e => by rcases e with e | ⟨i, e⟩ <;> omega), h.tlbs.kp k ht (fun k e => by rcases e with e | ⟨i, e⟩ <;> omega), h.doms.kp k ht (fun k e => by omega), h.time⟩
/-- A world that does not lie below lo, and is one's own (if it is any). -/
structure FarV (W : World) (lo : Nat) (V : Nat → Value) (p : PW) : Prop where
 f : ∀ ws, (∀ x ∈ ws, x.1 < lo) → WorldV (sts W ws) V p
 o : p.kinds = [] ∨ ∃ tag, WorldT W tag V p ∧ ∀ k, k < lo → tag k = 0
theorem FarV.v0 {W : World} {lo : Nat} {V : Nat → Value} {p : PW} (h : FarV W lo V p) : WorldV W V p := by
 have := h.f [] (by simp)
 rwa [sts0] at this
theorem FarV.put {W : World} {lo : Nat} {V : Nat → Value} {p : PW} (h : FarV W lo V p) (B o : Nat) (vs : List Value) (hB : B < lo) : FarV (W.setCells B o vs) lo V p :=
 ⟨fun ws hw => h.f ((B, o, vs) :: ws) (fun x hx => by
  rcases List.mem_cons.1 hx with rfl | hx
  ·exact hB
  ·exact hw x hx), by
  rcases h.o with h | ⟨tag, h1, h2⟩
  ·exact .inl h
  ·exact .inr ⟨tag, h1.sets (h2 B hB) vs o, h2⟩⟩
theorem FarV.mono {W : World} {lo lo' : Nat} {V : Nat → Value} {p : PW} (h : FarV W lo V p) (hl : lo' ≤ lo) : FarV W lo' V p :=
 ⟨fun ws hw => h.f ws (fun x hx => Nat.lt_of_lt_of_le (hw x hx) hl), by
  rcases h.o with h | ⟨tag, h1, h2⟩
  ·exact .inl h
  ·exact .inr ⟨tag, h1, fun k hk => h2 k (Nat.lt_of_lt_of_le hk hl)⟩⟩
/-- A world in its box, which does not lie below lo. -/
structure Far (W : World) (wb lo : Nat) (V : Nat → Value) (p : PW) : Prop where
 r : W.rangeAt wb 0 (arr11 V).toList
 f : FarV W lo V p
/-- What a deed does to a world of one's own; where what comes lies, is said by Far. -/
def DeedF (N : Nat) (caps : Array Value) (ok : World → Prop) (ans : Int → Value) (p p' : PW) (e : Int) : Prop :=
 ∀ W wb L V, BoxO W wb L V p → ok W → (∀ W', Below (L 0) W W' → ok W') → Calls Tryz.prog N (#[.pointer (some ⟨wb, 0, none⟩)] ++ caps) W fun r W' => r = .returned (ans e) ∧ Below (L 0) W W' ∧ (e = 0 → ∃ V', Far W' wb (L 0) V' p')
theorem BoxT.far {W : World} {wb lo : Nat} {tag : Nat → Nat} {V : Nat → Value} {p : PW} (h : BoxT W wb tag V p) (hl : ∀ l ∈ p.tlbs, l.length ≤ 100) (ht : ∀ k, k < lo → tag k = 0) : Far W wb lo V p := by
 refine ⟨h.r, fun ws hw => ?_, .inr ⟨tag, h.o, ht⟩⟩
 have : ∀ (ws : List (Nat × Nat × List Value)) (W : World), WorldT W tag V p → (∀ x ∈ ws, x.1 < lo) → WorldT (sts W ws) tag V p := fun ws => by
  induction ws with
  | nil => intro W h _; exact h
  | cons x r ih => intro W h hw; exact ih _ (h.sets (ht _ (hw x (by simp))) x.2.2 x.2.1) (fun y hy => hw y (by simp [hy]))
 exact (this ws W h.o hw).v hl
/-- What a deed does to a world whose blocks bear tags. (ok: what it needs of what is not of the world.) -/
def DeedT (N : Nat) (caps : Array Value) (ok : (Nat → Nat) → World → Prop) (ans : Int → Value) (p p' : PW) (e : Int) : Prop :=
 ∀ W wb tag V, BoxT W wb tag V p → ok tag W → Calls Tryz.prog N (#[.pointer (some ⟨wb, 0, none⟩)] ++ caps) W fun r W' => r = .returned (ans e) ∧ ∃ tag', Kt tag tag' W W' ∧ (e = 0 → ∃ V', BoxT W' wb tag' V' p')
theorem DeedT.f {N : Nat} {caps : Array Value} {ok : World → Prop} {ans : Int → Value} {p p' : PW} {e : Int} {okt : (Nat → Nat) → World → Prop} (h : DeedT N caps okt ans p p' e) (hl : ∀ l ∈ p'.tlbs, l.length ≤ 100) (hk : ∀ W lo tag, (∀ W', Below lo W W' → ok W') → (∀ k, k < lo → tag k = 0) → okt tag W) : DeedF N caps ok ans p p' e := by
 intro W wb L V bo _ hst
 obtain ⟨tag, bt, h0⟩ := bo.tagged
 refine (h W wb tag V bt (hk W (L 0) tag hst h0)).mono ?_
 rintro r W' ⟨rfl, tag', kt, h2⟩
 have l0 : L 0 ≤ W.heap.size := Nat.le_trans (bo.o.le 10 (by omega)) (Nat.le_trans bo.lo (Nat.le_of_lt bo.lt))
 refine ⟨rfl, kt.k.below (Below.refl _ _) l0 (fun k hk e => e (h0 k hk)), fun he => ?_⟩
 obtain ⟨V', b2⟩ := h2 he
 exact ⟨V', b2.far hl (fun k hk => kt.t k (Nat.lt_of_lt_of_le hk l0) (h0 k hk))⟩
/-- One number of a row is another one. -/
def upd (f : Nat → Int) (k : Nat) (x : Int) : Nat → Int := fun j => if j = k then x else f j
theorem rowsC_cell (n : Nat) (hn : 0 < n) (fs : List (Nat → Int)) (i k : Nat) (hi : i < fs.length) (hk : k < n) (x : Int) : (rowsC n fs).set (i * n + k) (.int .i64 x) = rowsC n (fs.set i (upd fs[i] k x)) := by
 apply List.ext_getElem?
 intro j
 have hl : (rowsC n fs).length = fs.length * n := rowsC_len n fs
 have hl2 : (rowsC n (fs.set i (upd fs[i] k x))).length = fs.length * n := by rw [rowsC_len, List.length_set]
 by_cases hj : j < fs.length * n
 ·have e : j = j / n * n + j % n := by rw [Nat.mul_comm]; exact (Nat.div_add_mod j n).symm
  have hq : j / n < fs.length := (Nat.div_lt_iff_lt_mul hn).2 hj
  have hr : j % n < n := Nat.mod_lt _ hn
  have a1 := rowsC_at n fs (j / n) (j % n) hq hr
  have a2 := rowsC_at n (fs.set i (upd fs[i] k x)) (j / n) (j % n) (by rw [List.length_set]; exact hq) hr
  rw [← e] at a1 a2
  by_cases h : i * n + k = j
  ·have q1 : j / n = i := by rw [← h, Nat.mul_comm, Nat.mul_add_div hn, Nat.div_eq_of_lt hk, Nat.add_zero]
   have q2 : j % n = k := by rw [← h, Nat.mul_comm, Nat.mul_add_mod, Nat.mod_eq_of_lt hk]
   have a3 : ((rowsC n fs).set (i * n + k) (.int .i64 x))[j]? = some (.int .i64 x) := by rw [h, List.getElem?_set_self (by rw [hl]; exact hj)]
   rw [a2, a3]
   subst q1
   rw [List.getElem_set_self, q2]
   unfold upd
   rw [if_pos rfl]
  ·rw [List.getElem?_set_ne h, a1, a2]
   by_cases hi2 : j / n = i
   ·subst hi2
    rw [List.getElem_set_self]
    unfold upd
    rw [if_neg (fun e2 => h (by rw [← e2]; exact e.symm))]
   ·rw [List.getElem_set_ne (fun e => hi2 e.symm)]
 ·rw [List.getElem?_eq_none (by rw [List.length_set, hl]; omega), List.getElem?_eq_none (by rw [hl2]; omega)]
theorem ints_set (zs : List Int) (i : Nat) (x : Int) : (ints zs).set i (.int .i64 x) = ints (zs.set i x) := by
 unfold ints
 rw [List.map_set]
theorem InT.form {w : World} {tag : Nat → Nat} {t I s n : Nat} {u : Value} {xs : List Value} (h : InT w tag t I s u (n, xs)) (hn : 0 < n) : ∃ g cap, u = .slice (some ⟨g, 0, none⟩) n cap := by
 rcases h.1.2 with ⟨_, h0⟩ | ⟨g, cap, cur, h1, _⟩
 ·simp only at h0
  omega
 ·exact ⟨g, cap, h1⟩
theorem InT.shape {w : World} {tag : Nat → Nat} {t I s n : Nat} {u : Value} {xs : List Value} (h : InT w tag t I s u (n, xs)) : ∃ q g cap, u = .slice q n cap ∧ (0 < n → q = some ⟨g, 0, none⟩) := by
 rcases h.1.2 with ⟨h1, h0⟩ | ⟨g, cap, cur, h1, _⟩
 ·simp only at h0
  subst h0
  exact ⟨none, 0, 0, h1, fun h => by omega⟩
 ·exact ⟨some ⟨g, 0, none⟩, g, cap, h1, fun _ => rfl⟩
theorem InT.cell {w : World} {tag : Nat → Nat} {t I s n g cap : Nat} {xs : List Value} (h : InT w tag t I s (.slice (some ⟨g, 0, none⟩) n cap) (n, xs)) (o : Nat) (x : Value) : InT (w.setCell ⟨g, o, none⟩ x) tag t I s (.slice (some ⟨g, 0, none⟩) n cap) (n, xs.set o x) ∧ Kp (fun k => tag k = t) w (w.setCell ⟨g, o, none⟩ x) :=
 ⟨⟨(h.1.stored o x).1, h.2⟩, Kp.setCell (T := fun k => tag k = t) (Kp.refl _ w) (.inl (h.2 g rfl)) x⟩
theorem InT.range {w : World} {tag : Nat → Nat} {t I n g cap : Nat} {fs : List (Nat → Int)} (h : InT w tag t I n (.slice (some ⟨g, 0, none⟩) fs.length cap) (fs.length, rowsC n fs)) {i : Nat} (hi : i < fs.length) : w.rangeAt g (i * n) (cf n fs[i]) := fun j v hv => by
 have hj : j < n := by have := (List.getElem?_eq_some_iff.1 hv).1; rwa [cf_len] at this
 have e := cf_at n fs[i] j hj
 rw [e] at hv
 cases hv
 have h1 : (i + 1) * n ≤ fs.length * n := Nat.mul_le_mul_right n hi
 have h2 : (i + 1) * n = i * n + n := Nat.succ_mul i n
 have hb : i * n + j < fs.length * n := by omega
 exact (h.1.cellAt (i * n + j) hb).trans (rowsC_at n fs i j hi hj)
theorem InT.int {w : World} {tag : Nat → Nat} {t I g cap : Nat} {zs : List Int} (h : InT w tag t I 1 (.slice (some ⟨g, 0, none⟩) zs.length cap) (zs.length, ints zs)) {i : Nat} (hi : i < zs.length) : w.cell? ⟨g, i, none⟩ = some (.int .i64 zs[i]) :=
 (h.1.cellAt i (by omega)).trans (by unfold ints; rw [List.getElem?_map, List.getElem?_eq_getElem hi]; rfl)
theorem InT.frozen {w : World} {tag : Nat → Nat} {t I s n g cap : Nat} {xs : List Value} (h : InT w tag t I s (.slice (some ⟨g, 0, none⟩) n cap) (n, xs)) (o : Nat) : w.frozen? ⟨g, o, none⟩ = false := h.1.frozenAt _
theorem BoxT.tasksCell {W : World} {wb : Nat} {tag : Nat → Nat} {V : Nat → Value} {p : PW} (h : BoxT W wb tag V p) {g cap : Nat} (e : V 3 = .slice (some ⟨g, 0, none⟩) p.tasks.length cap) {i k : Nat} (hi : i < p.tasks.length) (hk : k < 20) (x : Int) :
  BoxT (W.setCell ⟨g, i * 20 + k, none⟩ (.int .i64 x)) wb tag V { p with tasks := p.tasks.set i (upd p.tasks[i] k x) } ∧ Kt tag tag W (W.setCell ⟨g, i * 20 + k, none⟩ (.int .i64 x)) := by
 have h2 := h.o.tasks
 rw [e] at h2
 obtain ⟨h3, h4⟩ := h2.cell (i * 20 + k) (.int .i64 x)
 rw [rowsC_cell 20 (by decide) p.tasks i k hi hk x] at h3
 refine ⟨h.tasks h4 (fun _ _ => rfl) ?_, .of h4 (fun k e => by omega) (fun _ _ => rfl)⟩
 rw [List.length_set, e]
 exact h3
theorem BoxT.coresCell {W : World} {wb : Nat} {tag : Nat → Nat} {V : Nat → Value} {p : PW} (h : BoxT W wb tag V p) {g cap : Nat} (e : V 6 = .slice (some ⟨g, 0, none⟩) p.cores.length cap) (i : Nat) (x : Int) :
  BoxT (W.setCell ⟨g, i, none⟩ (.int .i64 x)) wb tag V { p with cores := p.cores.set i x } ∧ Kt tag tag W (W.setCell ⟨g, i, none⟩ (.int .i64 x)) := by
 have h2 := h.o.cores
 rw [e] at h2
 obtain ⟨h3, h4⟩ := h2.cell i (.int .i64 x)
 rw [ints_set] at h3
 refine ⟨h.cores h4 (fun _ _ => rfl) ?_, .of h4 (fun k e => by omega) (fun _ _ => rfl)⟩
 rw [List.length_set, e]
 exact h3
theorem BoxT.tasksAt {W : World} {wb : Nat} {tag : Nat → Nat} {V : Nat → Value} {p : PW} (h : BoxT W wb tag V p) {g cap : Nat} (e : V 3 = .slice (some ⟨g, 0, none⟩) p.tasks.length cap) {i k : Nat} (hi : i < p.tasks.length) (hk : k < 20) : W.cell? ⟨g, i * 20 + k, none⟩ = some (.int .i64 (p.tasks[i] k)) := by
 have h2 := h.o.tasks
 rw [e] at h2
 exact h2.range hi k _ (cf_at 20 _ k hk)
theorem BoxT.tasksFr {W : World} {wb : Nat} {tag : Nat → Nat} {V : Nat → Value} {p : PW} (h : BoxT W wb tag V p) {g cap : Nat} (e : V 3 = .slice (some ⟨g, 0, none⟩) p.tasks.length cap) (o : Nat) : W.frozen? ⟨g, o, none⟩ = false := by
 have h2 := h.o.tasks
 rw [e] at h2
 exact h2.frozen o
section
variable {P : Program} {ops : Array Oper} {Q : Exit → Act → World → Prop} {md : Region.Mode} {S R : World → Prop} {fs : List Nat}
/-- None of the last operations has come up. -/
def clean (fs : List Nat) (listed : Array Bool) : Bool := fs.all fun f => !(listed.getD f true)
/-- Each of the last operations waits for this one. -/
def waits (md : Region.Mode) (ops : Array Oper) (fs : List Nat) (i : Nat) : Bool := fs.all fun f => match ops[f]? with
 | some o => o.after.any fun e => Region.binds md e && e.on == i
 | none => false
theorem clean_set {i : Nat} {listed : Array Bool} (hi : fs.contains i = false) : clean fs (listed.setIfInBounds i true) = clean fs listed := by
 have hn : ∀ f ∈ fs, i ≠ f := fun f hf e => by
  subst e
  have : fs.contains i = true := by simpa using hf
  rw [this] at hi
  cases hi
 unfold clean
 rw [Bool.eq_iff_iff, List.all_eq_true, List.all_eq_true]
 exact ⟨fun h f hf => by have := h f hf; rwa [getD_set_ne true (hn f hf)] at this, fun h f hf => by rw [getD_set_ne true (hn f hf)]; exact h f hf⟩
theorem notClean {listed : Array Bool} {X : Prop} (h : clean fs listed = false) : clean fs listed = true → X := fun e => by rw [h] at e; cases e
/-- Whatever order is picked from here on; S holds behind each operation, and R as long as none of the last ones has come up. -/
def wpAnyF (P : Program) (md : Region.Mode) (ops : Array Oper) (Q : Exit → Act → World → Prop) (S R : World → Prop) (fs : List Nat) : Nat → Array Bool → Act → World → Prop
 | 0, listed, a, w => Region.ready md ops listed = [] ∧ Q .normal a w
 | fuel + 1, listed, a, w =>
  (Region.ready md ops listed = [] → Q .normal a w) ∧
  ∀ i ∈ Region.ready md ops listed, wpOp P ops Q i (fun a' w' => (S w' ∧ (clean fs (listed.setIfInBounds i true) = true → R w')) ∧ wpAnyF P md ops Q S R fs fuel (listed.setIfInBounds i true) a' w') a w
theorem wpAny_of_F : ∀ (fuel : Nat) (listed : Array Bool) (a : Act) (w : World), wpAnyF P md ops Q S R fs fuel listed a w → wpAny P md ops Q fuel listed a w
 | 0, _, _, _, h => h
 | fuel + 1, _, _, _, h => ⟨h.1, fun i hi => wpOp_mono (fun a' w' h' => wpAny_of_F fuel _ a' w' h'.2) (h.2 i hi)⟩
theorem wpAnyF_first {i : Nat} {oi : Oper} {v : Value} {r : Bool} (hi : ops[i]? = some oi) (hsel : ∀ (j : Nat) (o : Oper) cs b, ops[j]? = some o → o.op ≠ .select cs b)
  (hQ : ∀ c a w, Q (.panic c) (a.put oi.dst v) w → Q (.panic c) a w) (hif : fs.contains i = false) (hw : r = true → waits md ops fs i = true) :
  ∀ (fuel : Nat) (listed : Array Bool) (a : Act) (w : World),
   (∀ j oj, ops[j]? = some oj → j ≠ i → listed.getD j true = false → (∀ e ∈ oj.after, Region.binds md e = true → e.on ≠ i) → oi.apart ops oj = true) →
   i ∈ Region.ready md ops listed → (r = true → clean fs listed = true) → YieldsIf P ops (fun w => S w ∧ (r = true → R w)) oi v a → S w → (r = true → R w) → (clean fs listed = true → R w) →
   wpAnyF P md ops Q S R fs fuel (listed.setIfInBounds i true) (a.put oi.dst v) w → wpAnyF P md ops Q S R fs (fuel + 1) listed a w := by
 intro fuel
 induction fuel with
 | zero =>
  intro listed a w _ hr _ hy hS hR hC H
  refine ⟨fun h => (by rw [h] at hr; cases hr), fun j hj => ?_⟩
  by_cases hji : j = i
  ·subst hji; exact hy.wpOp hi ⟨hS, hR⟩ ⟨⟨hS, fun h => hC (by rwa [clean_set hif] at h)⟩, H⟩
  ·have := ready_mono hj hji
   rw [H.1] at this
   cases this
 | succ fuel ih =>
  intro listed a w hfree hr hcl hy hS hR hC H
  refine ⟨fun h => (by rw [h] at hr; cases hr), fun j hj => ?_⟩
  by_cases hji : j = i
  ·subst hji; exact hy.wpOp hi ⟨hS, hR⟩ ⟨⟨hS, fun h => hC (by rwa [clean_set hif] at h)⟩, H⟩
  ·have h1 := H.2 j (ready_mono hj hji)
   obtain ⟨hjun, oj, hoj, hall⟩ := mem_ready.1 hj
   have hnot : ∀ e ∈ oj.after, Region.binds md e = true → e.on ≠ i := fun e he hb heq => by
    have h1 := hall e he hb
    have h0 := (mem_ready.1 hr).1
    rw [heq] at h1
    rcases Nat.lt_or_ge i listed.size with h' | h'
    ·simp [h'] at h0 h1; rw [h0] at h1; cases h1
    ·simp [Array.getElem?_eq_none h'] at h1
   have hjf : r = true → fs.contains j = false := fun hr1 => by
    cases hc : fs.contains j with
    | false => rfl
    | true =>
     have hj1 : j ∈ fs := by simpa using hc
     have hww := hw hr1
     unfold waits at hww
     rw [List.all_eq_true] at hww
     have h2 := hww j hj1
     rw [hoj] at h2
     obtain ⟨e, he, hb⟩ := Array.any_eq_true'.1 h2
     simp only [Bool.and_eq_true, beq_iff_eq] at hb
     exact absurd hb.2 (hnot e he hb.1)
   have h2 := wpOp_putIf hoj (hfree j oj hoj hji hjun hnot) (fun cs b => hsel i oi cs b hi) (fun cs b => hsel j oj cs b hoj) hQ hy h1
   have hfree' : ∀ k ok, ops[k]? = some ok → k ≠ i → (listed.setIfInBounds j true).getD k true = false →
     (∀ e ∈ ok.after, Region.binds md e = true → e.on ≠ i) → oi.apart ops ok = true := fun k ok hk hki hun hno => by
    refine hfree k ok hk hki ?_ hno
    by_cases hjk : j = k
    ·subst hjk; exact hjun
    ·rw [getD_set_ne true hjk] at hun; exact hun
   have hset : clean fs ((listed.setIfInBounds i true).setIfInBounds j true) = clean fs (listed.setIfInBounds j true) := by
    rw [Array.setIfInBounds_comm _ _ (Ne.symm hji), clean_set hif]
   refine wpOp_mono (fun a' w' h3 => ?_) h2
   have hRj : clean fs (listed.setIfInBounds j true) = true → R w' := fun h => h3.2.1.2 (by rw [hset]; exact h)
   have hclj : r = true → clean fs (listed.setIfInBounds j true) = true := fun hr1 => by rw [clean_set (hjf hr1)]; exact hcl hr1
   refine ⟨⟨h3.2.1.1, hRj⟩, ih (listed.setIfInBounds j true) a' w' hfree' (ready_mono hr (Ne.symm hji)) hclj h3.1 h3.2.1.1 (fun hr1 => hRj (hclj hr1)) hRj ?_⟩
   rw [Array.setIfInBounds_comm _ _ hji]
   exact h3.2.2
/-- Take an operation first that yields its value wherever S holds. -/
theorem wpAnyF_take {i : Nat} {oi : Oper} {v : Value} {fuel : Nat} {listed : Array Bool} {a : Act} {w : World} (hi : ops[i]? = some oi)
  (hs : Region.noSelect ops = true) (hf : Region.free md ops listed i = true) (hr : (Region.ready md ops listed).contains i = true) (hif : fs.contains i = false)
  (hQ : ∀ c a w, Q (.panic c) (a.put oi.dst v) w → Q (.panic c) a w) (hy : YieldsIf P ops S oi v a) (hS : S w) (hR : clean fs listed = true → R w)
  (h : wpAnyF P md ops Q S R fs fuel (listed.setIfInBounds i true) (a.put oi.dst v) w) : wpAnyF P md ops Q S R fs (fuel + 1) listed a w :=
 wpAnyF_first (r := false) hi (Region.noSelect_spec hs) hQ hif (fun e => by cases e) fuel listed a w (Region.free_spec hi hf) (by simpa using hr) (fun e => by cases e) (by rcases hy with h | h; exact .inl ⟨h.1, fun w hw => h.2 w hw.1⟩; exact .inr h) hS (fun e => by cases e) hR h
/-- Take an operation first that yields its value wherever S and R hold, and for which the last ones wait. -/
theorem wpAnyF_takeR {i : Nat} {oi : Oper} {v : Value} {fuel : Nat} {listed : Array Bool} {a : Act} {w : World} (hi : ops[i]? = some oi)
  (hs : Region.noSelect ops = true) (hf : Region.free md ops listed i = true) (hr : (Region.ready md ops listed).contains i = true) (hif : fs.contains i = false) (hw : waits md ops fs i = true) (hc : clean fs listed = true)
  (hQ : ∀ c a w, Q (.panic c) (a.put oi.dst v) w → Q (.panic c) a w) (hy : YieldsIf P ops (fun w => S w ∧ R w) oi v a) (hS : S w) (hR : clean fs listed = true → R w)
  (h : wpAnyF P md ops Q S R fs fuel (listed.setIfInBounds i true) (a.put oi.dst v) w) : wpAnyF P md ops Q S R fs (fuel + 1) listed a w :=
 wpAnyF_first (r := true) hi (Region.noSelect_spec hs) hQ hif (fun _ => hw) fuel listed a w (Region.free_spec hi hf) (by simpa using hr) (fun _ => hc) (by rcases hy with h | h; exact .inl ⟨h.1, fun w hw => h.2 w ⟨hw.1, hw.2 rfl⟩⟩; exact .inr h) hS (fun _ => hR hc) hR h
theorem wpAnyF_done {listed : Array Bool} {a : Act} {w : World} (hr : Region.ready md ops listed = []) (h : Q .normal a w) :
  ∀ fuel, wpAnyF P md ops Q S R fs fuel listed a w
 | 0 => ⟨hr, h⟩
 | _ + 1 => ⟨fun _ => h, by rw [hr]; simp⟩
def AllReadyF (P : Program) (md : Region.Mode) (ops : Array Oper) (Q : Exit → Act → World → Prop) (S R : World → Prop) (fs : List Nat) (fuel : Nat) (listed : Array Bool) (a : Act) (w : World) (rs : List Nat) : Prop :=
 ∀ i ∈ rs, wpOp P ops Q i (fun a' w' => (S w' ∧ (clean fs (listed.setIfInBounds i true) = true → R w')) ∧ wpAnyF P md ops Q S R fs fuel (listed.setIfInBounds i true) a' w') a w
theorem AllReadyF.nil {fuel : Nat} {listed : Array Bool} {a : Act} {w : World} : AllReadyF P md ops Q S R fs fuel listed a w [] := fun _ h => by cases h
theorem AllReadyF.cons {fuel : Nat} {listed : Array Bool} {a : Act} {w : World} {i : Nat} {o : Oper} {rs : List Nat} (ho : ops[i]? = some o)
  (h : ∀ K' : Act → World → Prop, Shut (∀ a w, S w → (clean fs (listed.setIfInBounds i true) = true → R w) → (S w → (clean fs (listed.setIfInBounds i true) = true → R w) → wpAnyF P md ops Q S R fs fuel (listed.setIfInBounds i true) a w) → K' a w) → if Region.wanted o (yielded ops a.tmps) = true then Oper.wp P o a w K' Q else K' (a.put o.dst undef) w)
  (hs : AllReadyF P md ops Q S R fs fuel listed a w rs) : AllReadyF P md ops Q S R fs fuel listed a w (i :: rs) := fun j hj => by
 rcases List.mem_cons.1 hj with rfl | hj
 ·exact wpOp_step ho (fun K' hK => h K' (fun a w hS hR hW => hK a w ⟨⟨hS, hR⟩, hW hS hR⟩))
 ·exact hs j hj
theorem wpAnyF_ready {rs : List Nat} {fuel : Nat} {listed : Array Bool} {a : Act} {w : World} (hr : Region.ready md ops listed = rs) (hne : rs ≠ [])
  (h : AllReadyF P md ops Q S R fs fuel listed a w rs) : wpAnyF P md ops Q S R fs (fuel + 1) listed a w := ⟨fun h0 => absurd (hr ▸ h0) hne, hr ▸ h⟩
theorem wp_region_F {id : Nat} {a : Act} {w : World} (fs : List Nat) (hm : P.follows .mixedOrders = true) (hS : S w.drew) (hR : R w.drew)
  (h : S w.drew → R w.drew → wpAnyF P .any ops Q S R fs ops.size (Array.replicate ops.size false) a w.drew) : (Code.region id ops true).wp P Q a w :=
 wp_region_any hm (wpAny_of_F _ _ _ _ (h hS hR))
end
def ptr (b : Nat) : Value := .pointer (some ⟨b, 0, none⟩)
def Caps (cs : List (Nat × Value)) (W : World) : Prop := ∀ x ∈ cs, W.cell? ⟨x.1, 0, none⟩ = some x.2
def CapsT (cs : List (Nat × Value)) (tag : Nat → Nat) (W : World) : Prop := ∀ x ∈ cs, W.cell? ⟨x.1, 0, none⟩ = some x.2 ∧ tag x.1 = 0
theorem Caps.below {cs : List (Nat × Value)} {w w' : World} (h : Caps cs w) (hb : Below w.heap.size w w') : Caps cs w' := fun x hx => (hb.cell (World.block_lt_of_cell? _ _ (h x hx))).trans (h x hx)
theorem CapsT.kt {cs : List (Nat × Value)} {tag tag' : Nat → Nat} {w w' : World} (h : CapsT cs tag w) (hk : Kt tag tag' w w') : CapsT cs tag' w' := fun x hx => ⟨hk.cell (h x hx).1 (h x hx).2, hk.tag0 (h x hx).1 (h x hx).2⟩
theorem caps_lo {W : World} {lo c : Nat} {x : Value} (h : ∀ W', Below lo W W' → W'.cell? ⟨c, 0, none⟩ = some x) : c < lo := by
 apply Classical.byContradiction
 intro hn
 have h0 := h W (Below.refl _ _)
 have h1 := h (W.setCell ⟨c, 0, none⟩ (.bool true)) ((Below.refl lo W).setCell (p := ⟨c, 0, none⟩) (by simp; omega) _)
 have h2 := h (W.setCell ⟨c, 0, none⟩ (.bool false)) ((Below.refl lo W).setCell (p := ⟨c, 0, none⟩) (by simp; omega) _)
 rw [World.cell?_setCell_same W _ _ h0] at h1 h2
 cases h1.trans h2.symm
theorem caps_tag {cs : List (Nat × Value)} {W : World} {lo : Nat} {tag : Nat → Nat} (h : ∀ W', Below lo W W' → Caps cs W') (ht : ∀ k, k < lo → tag k = 0) : CapsT cs tag W := fun x hx =>
 ⟨h W (Below.refl _ _) x hx, ht _ (caps_lo fun W' hb => h W' hb x hx)⟩
theorem DeedT.caps {N : Nat} {caps : Array Value} {cs : List (Nat × Value)} {ans : Int → Value} {p p' : PW} {e : Int} (h : DeedT N caps (CapsT cs) ans p p' e) (hl : ∀ l ∈ p'.tlbs, l.length ≤ 100) : DeedF N caps (Caps cs) ans p p' e :=
 h.f hl (fun _ _ _ h1 h2 => caps_tag h1 h2)
end Go.Proofs.YtkocmkaeaagbaaaGreatDoor.Wd
