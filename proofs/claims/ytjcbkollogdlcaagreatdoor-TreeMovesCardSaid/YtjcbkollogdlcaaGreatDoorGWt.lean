/- Worlds of one's own whose blocks bear tags: what is written into one list leaves the others as they are. (Written by mk_wt.py.) -/
import Derived.Test.YtjcbkollogdlcaaGreatDoorGBox
namespace Go.Proofs.YtjcbkollogdlcaaGreatDoor.Wd
open Go.RowKit Go.Proofs.YtjcbkollogdlcaaGreatDoor.Mem Go.Proofs.YtjcbkollogdlcaaGreatDoor.Bw Go.Proofs.YtjcbkollogdlcaaGreatDoor.Nums Go.Proofs.YtjcbkollogdlcaaGreatDoor.Mmu

/-- A row of one's own, whose block bears a tag. -/
def InT (w : World) (tag : Nat → Nat) (t I s : Nat) (u : Value) (c : Nat × List Value) : Prop := w.ownsRow 0 I s u c.1 c.2 ∧ ∀ k, u.ownBlock = some k → tag k = t
/-- Lists of one's own: the outer row's block bears the tag t, that of list j the tag i + 3 * j. -/
def ListT (w : World) (tag : Nat → Nat) (t i O I s n : Nat) (v : Value) (cc : Nat → Nat × List Value) : Prop := ∃ g us, v = .slice (some ⟨g, 0, none⟩) n n ∧ tag g = t ∧ us.length = n ∧ w.ownsRow 0 O 1 (.slice (some ⟨g, 0, none⟩) n n) n us ∧ ∀ j (h : j < us.length), InT w tag (i + 3 * j) I s us[j] (cc j)
theorem own_kp {w w' : World} {T : Nat → Prop} {B e size n : Nat} {v : Value} {xs : List Value} (h : w.ownsRow B e size v n xs) (hk : Kp T w w') (hn : ∀ k, v.ownBlock = some k → ¬ T k) : w'.ownsRow B e size v n xs := by
  refine ⟨h.1, ?_⟩
  rcases h.2 with h2 | ⟨g, cap, cur, rfl, h3, h4, h5⟩
  · exact .inl h2
  · exact .inr ⟨g, cap, cur, rfl, h3, by rw [hk.block g (Array.getElem?_eq_some_iff.1 h4).1 (hn g rfl)]; exact h4, h5⟩
theorem InT.kp {w w' : World} {T : Nat → Prop} {tag tag' : Nat → Nat} {t I s : Nat} {u : Value} {c : Nat × List Value} (h : InT w tag t I s u c) (hk : Kp T w w') (ht : ∀ k, k < w.heap.size → tag' k = tag k) (hn : ∀ k, tag k = t → ¬ T k) : InT w' tag' t I s u c :=
  ⟨own_kp h.1 hk (fun k e => hn k (h.2 k e)), fun k e => (ht k (h.1.lt k e).2).trans (h.2 k e)⟩
theorem ListT.kp {w w' : World} {T : Nat → Prop} {tag tag' : Nat → Nat} {t i O I s n : Nat} {v : Value} {cc : Nat → Nat × List Value} (h : ListT w tag t i O I s n v cc) (hk : Kp T w w') (ht : ∀ k, k < w.heap.size → tag' k = tag k) (hn : ∀ k, tag k = t ∨ (∃ j, tag k = i + 3 * j) → ¬ T k) : ListT w' tag' t i O I s n v cc := by
  obtain ⟨g, us, h1, h2, h3, h4, h5⟩ := h
  refine ⟨g, us, h1, (ht g (h4.lt g rfl).2).trans h2, h3, own_kp h4 hk (fun k e => hn k (.inl ?_)), fun j hj => (h5 j hj).kp hk ht (fun k e => hn k (.inr ⟨j, e⟩))⟩
  have : g = k := by simpa [Value.ownBlock] using e
  rw [← this]
  exact h2
/-- A world of one's own, its blocks with tags. -/
structure WorldT (w : World) (tag : Nat → Nat) (v : Nat → Value) (p : PW) : Prop where
  ram : InT w tag 2 3 1 (v 0) (p.ram.length, ints p.ram)
  kinds : InT w tag 3 3 1 (v 1) (p.kinds.length, ints p.kinds)
  slots : InT w tag 4 71 7 (v 2) (p.slots.length, rowsC 7 p.slots)
  tasks : InT w tag 5 86 20 (v 3) (p.tasks.length, rowsC 20 p.tasks)
  lines : ListT w tag 6 12 22 3 1 p.lines.length (v 4) (ci p.lines)
  bits : InT w tag 7 3 1 (v 5) (p.bits.length, ints p.bits)
  cores : InT w tag 8 3 1 (v 6) (p.cores.length, ints p.cores)
  ready : ListT w tag 9 13 22 3 1 p.ready.length (v 7) (ci p.ready)
  tlbs : ListT w tag 10 14 65 134 4 p.tlbs.length (v 8) (ce p.tlbs)
  doms : InT w tag 11 3 1 (v 9) (p.doms.length, ints p.doms)
  time : v 10 = .int .i64 p.time
/-- .. in its box. -/
structure BoxT (W : World) (wb : Nat) (tag : Nat → Nat) (V : Nat → Value) (p : PW) : Prop where
  r : W.rangeAt wb 0 (arr11 V).toList
  t : W.there wb 0 11
  g : tag wb = 1
  o : WorldT W tag V p
/-- What is not of the world (tag 0) is as it was, and not of it. -/
structure Kt (tag tag' : Nat → Nat) (W W' : World) : Prop where
  k : Kp (fun k => tag k ≠ 0) W W'
  t : ∀ k, k < W.heap.size → tag k = 0 → tag' k = 0
theorem Kt.refl (tag : Nat → Nat) (W : World) : Kt tag tag W W := ⟨Kp.refl _ _, fun _ _ h => h⟩
theorem Kt.trans {tag tag' tag'' : Nat → Nat} {A B C : World} (h : Kt tag tag' A B) (k : Kt tag' tag'' B C) : Kt tag tag'' A C :=
  ⟨⟨k.k.os.trans h.k.os, k.k.tape.trans h.k.tape, k.k.output.trans h.k.output, Nat.le_trans h.k.size k.k.size, fun i hi hn => (k.k.block i (Nat.lt_of_lt_of_le hi h.k.size) (fun e => e (h.t i hi (Classical.byContradiction fun f => hn f)))).trans (h.k.block i hi hn)⟩, fun i hi h0 => k.t i (Nat.lt_of_lt_of_le hi h.k.size) (h.t i hi h0)⟩
theorem Kt.below {tag : Nat → Nat} {A B : World} (h : Below A.heap.size A B) : Kt tag tag A B := ⟨.of_below h, fun _ _ e => e⟩
theorem Kt.cell {tag tag' : Nat → Nat} {A B : World} (h : Kt tag tag' A B) {b o : Nat} {x : Value} (hx : A.cell? ⟨b, o, none⟩ = some x) (h0 : tag b = 0) : B.cell? ⟨b, o, none⟩ = some x := (h.k.cell (p := ⟨b, o, none⟩) (World.block_lt_of_cell? _ _ hx) (fun e => e h0)).trans hx
theorem Kt.tag0 {tag tag' : Nat → Nat} {A B : World} (h : Kt tag tag' A B) {b o : Nat} {x : Value} (hx : A.cell? ⟨b, o, none⟩ = some x) (h0 : tag b = 0) : tag' b = 0 := h.t b (World.block_lt_of_cell? A ⟨b, o, none⟩ hx) h0
theorem Kt.of {tag tag' : Nat → Nat} {T : Nat → Prop} {A B : World} (h : Kp T A B) (ht : ∀ k, T k → tag k ≠ 0) (he : ∀ k, k < A.heap.size → tag' k = tag k) : Kt tag tag' A B := ⟨h.wider (fun k _ e => ht k e), fun k hk e => (he k hk).trans e⟩
theorem BoxT.lt {W : World} {wb : Nat} {tag : Nat → Nat} {V : Nat → Value} {p : PW} (h : BoxT W wb tag V p) : wb < W.heap.size := World.block_lt_of_cell? _ ⟨wb, 0, none⟩ (range_cell h.r (k := 0) rfl)
theorem BoxT.kp {W W' : World} {wb : Nat} {tag tag' : Nat → Nat} {V : Nat → Value} {p : PW} {T : Nat → Prop} (h : BoxT W wb tag V p) (k : Kp T W W') (hT : ∀ k, k < W.heap.size → T k → tag k = 0) (ht : ∀ k, k < W.heap.size → tag' k = tag k) : BoxT W' wb tag' V p := by
  have k2 : Kp (fun k => tag k = 0) W W' := k.wider hT
  exact ⟨range_kp h.r k2 (by rw [h.g]; decide), there_kp h.t k2 (by rw [h.g]; decide), (ht wb h.lt).trans h.g, ⟨h.o.ram.kp k2 ht (fun k e => by omega), h.o.kinds.kp k2 ht (fun k e => by omega), h.o.slots.kp k2 ht (fun k e => by omega), h.o.tasks.kp k2 ht (fun k e => by omega), h.o.lines.kp k2 ht (fun k e => by rcases e with e | ⟨i, e⟩ <;> omega), h.o.bits.kp k2 ht (fun k e => by omega), h.o.cores.kp k2 ht (fun k e => by omega), h.o.ready.kp k2 ht (fun k e => by rcases e with e | ⟨i, e⟩ <;> omega), h.o.tlbs.kp k2 ht (fun k e => by rcases e with e | ⟨i, e⟩ <;> omega), h.o.doms.kp k2 ht (fun k e => by omega), h.o.time⟩⟩
theorem BoxT.below {W W' : World} {wb : Nat} {tag : Nat → Nat} {V : Nat → Value} {p : PW} (h : BoxT W wb tag V p) (hb : Below W.heap.size W W') : BoxT W' wb tag V p := h.kp (T := fun _ => False) (.of_below hb) (fun _ _ e => e.elim) (fun _ _ => rfl)
theorem BoxT.ram {W W' : World} {wb : Nat} {tag tag' : Nat → Nat} {V : Nat → Value} {p : PW} (h : BoxT W wb tag V p) (k : Kp (fun k => tag k = 2) W W') (ht : ∀ k, k < W.heap.size → tag' k = tag k) {x : List Int} (n : InT W' tag' 2 3 1 (V 0) (x.length, ints x)) : BoxT W' wb tag' V { p with ram := x } :=
  ⟨range_kp h.r k (by rw [h.g]; decide), there_kp h.t k (by rw [h.g]; decide), (ht wb h.lt).trans h.g, ⟨n, h.o.kinds.kp k ht (fun k e => by omega), h.o.slots.kp k ht (fun k e => by omega), h.o.tasks.kp k ht (fun k e => by omega), h.o.lines.kp k ht (fun k e => by rcases e with e | ⟨i, e⟩ <;> omega), h.o.bits.kp k ht (fun k e => by omega), h.o.cores.kp k ht (fun k e => by omega), h.o.ready.kp k ht (fun k e => by rcases e with e | ⟨i, e⟩ <;> omega), h.o.tlbs.kp k ht (fun k e => by rcases e with e | ⟨i, e⟩ <;> omega), h.o.doms.kp k ht (fun k e => by omega), h.o.time⟩⟩
theorem BoxT.kinds {W W' : World} {wb : Nat} {tag tag' : Nat → Nat} {V : Nat → Value} {p : PW} (h : BoxT W wb tag V p) (k : Kp (fun k => tag k = 3) W W') (ht : ∀ k, k < W.heap.size → tag' k = tag k) {x : List Int} (n : InT W' tag' 3 3 1 (V 1) (x.length, ints x)) : BoxT W' wb tag' V { p with kinds := x } :=
  ⟨range_kp h.r k (by rw [h.g]; decide), there_kp h.t k (by rw [h.g]; decide), (ht wb h.lt).trans h.g, ⟨h.o.ram.kp k ht (fun k e => by omega), n, h.o.slots.kp k ht (fun k e => by omega), h.o.tasks.kp k ht (fun k e => by omega), h.o.lines.kp k ht (fun k e => by rcases e with e | ⟨i, e⟩ <;> omega), h.o.bits.kp k ht (fun k e => by omega), h.o.cores.kp k ht (fun k e => by omega), h.o.ready.kp k ht (fun k e => by rcases e with e | ⟨i, e⟩ <;> omega), h.o.tlbs.kp k ht (fun k e => by rcases e with e | ⟨i, e⟩ <;> omega), h.o.doms.kp k ht (fun k e => by omega), h.o.time⟩⟩
theorem BoxT.slots {W W' : World} {wb : Nat} {tag tag' : Nat → Nat} {V : Nat → Value} {p : PW} (h : BoxT W wb tag V p) (k : Kp (fun k => tag k = 4) W W') (ht : ∀ k, k < W.heap.size → tag' k = tag k) {x : List (Nat → Int)} (n : InT W' tag' 4 71 7 (V 2) (x.length, rowsC 7 x)) : BoxT W' wb tag' V { p with slots := x } :=
  ⟨range_kp h.r k (by rw [h.g]; decide), there_kp h.t k (by rw [h.g]; decide), (ht wb h.lt).trans h.g, ⟨h.o.ram.kp k ht (fun k e => by omega), h.o.kinds.kp k ht (fun k e => by omega), n, h.o.tasks.kp k ht (fun k e => by omega), h.o.lines.kp k ht (fun k e => by rcases e with e | ⟨i, e⟩ <;> omega), h.o.bits.kp k ht (fun k e => by omega), h.o.cores.kp k ht (fun k e => by omega), h.o.ready.kp k ht (fun k e => by rcases e with e | ⟨i, e⟩ <;> omega), h.o.tlbs.kp k ht (fun k e => by rcases e with e | ⟨i, e⟩ <;> omega), h.o.doms.kp k ht (fun k e => by omega), h.o.time⟩⟩
theorem BoxT.tasks {W W' : World} {wb : Nat} {tag tag' : Nat → Nat} {V : Nat → Value} {p : PW} (h : BoxT W wb tag V p) (k : Kp (fun k => tag k = 5) W W') (ht : ∀ k, k < W.heap.size → tag' k = tag k) {x : List (Nat → Int)} (n : InT W' tag' 5 86 20 (V 3) (x.length, rowsC 20 x)) : BoxT W' wb tag' V { p with tasks := x } :=
  ⟨range_kp h.r k (by rw [h.g]; decide), there_kp h.t k (by rw [h.g]; decide), (ht wb h.lt).trans h.g, ⟨h.o.ram.kp k ht (fun k e => by omega), h.o.kinds.kp k ht (fun k e => by omega), h.o.slots.kp k ht (fun k e => by omega), n, h.o.lines.kp k ht (fun k e => by rcases e with e | ⟨i, e⟩ <;> omega), h.o.bits.kp k ht (fun k e => by omega), h.o.cores.kp k ht (fun k e => by omega), h.o.ready.kp k ht (fun k e => by rcases e with e | ⟨i, e⟩ <;> omega), h.o.tlbs.kp k ht (fun k e => by rcases e with e | ⟨i, e⟩ <;> omega), h.o.doms.kp k ht (fun k e => by omega), h.o.time⟩⟩
theorem BoxT.lines {W W' : World} {wb : Nat} {tag tag' : Nat → Nat} {V : Nat → Value} {p : PW} (h : BoxT W wb tag V p) (k : Kp (fun k => tag k = 6 ∨ ∃ j, tag k = 12 + 3 * j) W W') (ht : ∀ k, k < W.heap.size → tag' k = tag k) {x : List (List Int)} (n : ListT W' tag' 6 12 22 3 1 x.length (V 4) (ci x)) : BoxT W' wb tag' V { p with lines := x } :=
  ⟨range_kp h.r k (by rw [h.g]; rintro (h | ⟨j, h⟩) <;> omega), there_kp h.t k (by rw [h.g]; rintro (h | ⟨j, h⟩) <;> omega), (ht wb h.lt).trans h.g, ⟨h.o.ram.kp k ht (fun k e => by rintro (h | ⟨j, h⟩) <;> omega), h.o.kinds.kp k ht (fun k e => by rintro (h | ⟨j, h⟩) <;> omega), h.o.slots.kp k ht (fun k e => by rintro (h | ⟨j, h⟩) <;> omega), h.o.tasks.kp k ht (fun k e => by rintro (h | ⟨j, h⟩) <;> omega), n, h.o.bits.kp k ht (fun k e => by rintro (h | ⟨j, h⟩) <;> omega), h.o.cores.kp k ht (fun k e => by rintro (h | ⟨j, h⟩) <;> omega), h.o.ready.kp k ht (fun k e => by rintro (h | ⟨j, h⟩) <;> rcases e with e | ⟨i, e⟩ <;> omega), h.o.tlbs.kp k ht (fun k e => by rintro (h | ⟨j, h⟩) <;> rcases e with e | ⟨i, e⟩ <;> omega), h.o.doms.kp k ht (fun k e => by rintro (h | ⟨j, h⟩) <;> omega), h.o.time⟩⟩
theorem BoxT.bits {W W' : World} {wb : Nat} {tag tag' : Nat → Nat} {V : Nat → Value} {p : PW} (h : BoxT W wb tag V p) (k : Kp (fun k => tag k = 7) W W') (ht : ∀ k, k < W.heap.size → tag' k = tag k) {x : List Int} (n : InT W' tag' 7 3 1 (V 5) (x.length, ints x)) : BoxT W' wb tag' V { p with bits := x } :=
  ⟨range_kp h.r k (by rw [h.g]; decide), there_kp h.t k (by rw [h.g]; decide), (ht wb h.lt).trans h.g, ⟨h.o.ram.kp k ht (fun k e => by omega), h.o.kinds.kp k ht (fun k e => by omega), h.o.slots.kp k ht (fun k e => by omega), h.o.tasks.kp k ht (fun k e => by omega), h.o.lines.kp k ht (fun k e => by rcases e with e | ⟨i, e⟩ <;> omega), n, h.o.cores.kp k ht (fun k e => by omega), h.o.ready.kp k ht (fun k e => by rcases e with e | ⟨i, e⟩ <;> omega), h.o.tlbs.kp k ht (fun k e => by rcases e with e | ⟨i, e⟩ <;> omega), h.o.doms.kp k ht (fun k e => by omega), h.o.time⟩⟩
theorem BoxT.cores {W W' : World} {wb : Nat} {tag tag' : Nat → Nat} {V : Nat → Value} {p : PW} (h : BoxT W wb tag V p) (k : Kp (fun k => tag k = 8) W W') (ht : ∀ k, k < W.heap.size → tag' k = tag k) {x : List Int} (n : InT W' tag' 8 3 1 (V 6) (x.length, ints x)) : BoxT W' wb tag' V { p with cores := x } :=
  ⟨range_kp h.r k (by rw [h.g]; decide), there_kp h.t k (by rw [h.g]; decide), (ht wb h.lt).trans h.g, ⟨h.o.ram.kp k ht (fun k e => by omega), h.o.kinds.kp k ht (fun k e => by omega), h.o.slots.kp k ht (fun k e => by omega), h.o.tasks.kp k ht (fun k e => by omega), h.o.lines.kp k ht (fun k e => by rcases e with e | ⟨i, e⟩ <;> omega), h.o.bits.kp k ht (fun k e => by omega), n, h.o.ready.kp k ht (fun k e => by rcases e with e | ⟨i, e⟩ <;> omega), h.o.tlbs.kp k ht (fun k e => by rcases e with e | ⟨i, e⟩ <;> omega), h.o.doms.kp k ht (fun k e => by omega), h.o.time⟩⟩
theorem BoxT.ready {W W' : World} {wb : Nat} {tag tag' : Nat → Nat} {V : Nat → Value} {p : PW} (h : BoxT W wb tag V p) (k : Kp (fun k => tag k = 9 ∨ ∃ j, tag k = 13 + 3 * j) W W') (ht : ∀ k, k < W.heap.size → tag' k = tag k) {x : List (List Int)} (n : ListT W' tag' 9 13 22 3 1 x.length (V 7) (ci x)) : BoxT W' wb tag' V { p with ready := x } :=
  ⟨range_kp h.r k (by rw [h.g]; rintro (h | ⟨j, h⟩) <;> omega), there_kp h.t k (by rw [h.g]; rintro (h | ⟨j, h⟩) <;> omega), (ht wb h.lt).trans h.g, ⟨h.o.ram.kp k ht (fun k e => by rintro (h | ⟨j, h⟩) <;> omega), h.o.kinds.kp k ht (fun k e => by rintro (h | ⟨j, h⟩) <;> omega), h.o.slots.kp k ht (fun k e => by rintro (h | ⟨j, h⟩) <;> omega), h.o.tasks.kp k ht (fun k e => by rintro (h | ⟨j, h⟩) <;> omega), h.o.lines.kp k ht (fun k e => by rintro (h | ⟨j, h⟩) <;> rcases e with e | ⟨i, e⟩ <;> omega), h.o.bits.kp k ht (fun k e => by rintro (h | ⟨j, h⟩) <;> omega), h.o.cores.kp k ht (fun k e => by rintro (h | ⟨j, h⟩) <;> omega), n, h.o.tlbs.kp k ht (fun k e => by rintro (h | ⟨j, h⟩) <;> rcases e with e | ⟨i, e⟩ <;> omega), h.o.doms.kp k ht (fun k e => by rintro (h | ⟨j, h⟩) <;> omega), h.o.time⟩⟩
theorem BoxT.tlbs {W W' : World} {wb : Nat} {tag tag' : Nat → Nat} {V : Nat → Value} {p : PW} (h : BoxT W wb tag V p) (k : Kp (fun k => tag k = 10 ∨ ∃ j, tag k = 14 + 3 * j) W W') (ht : ∀ k, k < W.heap.size → tag' k = tag k) {x : List (List Ent)} (n : ListT W' tag' 10 14 65 134 4 x.length (V 8) (ce x)) : BoxT W' wb tag' V { p with tlbs := x } :=
  ⟨range_kp h.r k (by rw [h.g]; rintro (h | ⟨j, h⟩) <;> omega), there_kp h.t k (by rw [h.g]; rintro (h | ⟨j, h⟩) <;> omega), (ht wb h.lt).trans h.g, ⟨h.o.ram.kp k ht (fun k e => by rintro (h | ⟨j, h⟩) <;> omega), h.o.kinds.kp k ht (fun k e => by rintro (h | ⟨j, h⟩) <;> omega), h.o.slots.kp k ht (fun k e => by rintro (h | ⟨j, h⟩) <;> omega), h.o.tasks.kp k ht (fun k e => by rintro (h | ⟨j, h⟩) <;> omega), h.o.lines.kp k ht (fun k e => by rintro (h | ⟨j, h⟩) <;> rcases e with e | ⟨i, e⟩ <;> omega), h.o.bits.kp k ht (fun k e => by rintro (h | ⟨j, h⟩) <;> omega), h.o.cores.kp k ht (fun k e => by rintro (h | ⟨j, h⟩) <;> omega), h.o.ready.kp k ht (fun k e => by rintro (h | ⟨j, h⟩) <;> rcases e with e | ⟨i, e⟩ <;> omega), n, h.o.doms.kp k ht (fun k e => by rintro (h | ⟨j, h⟩) <;> omega), h.o.time⟩⟩
theorem BoxT.doms {W W' : World} {wb : Nat} {tag tag' : Nat → Nat} {V : Nat → Value} {p : PW} (h : BoxT W wb tag V p) (k : Kp (fun k => tag k = 11) W W') (ht : ∀ k, k < W.heap.size → tag' k = tag k) {x : List Int} (n : InT W' tag' 11 3 1 (V 9) (x.length, ints x)) : BoxT W' wb tag' V { p with doms := x } :=
  ⟨range_kp h.r k (by rw [h.g]; decide), there_kp h.t k (by rw [h.g]; decide), (ht wb h.lt).trans h.g, ⟨h.o.ram.kp k ht (fun k e => by omega), h.o.kinds.kp k ht (fun k e => by omega), h.o.slots.kp k ht (fun k e => by omega), h.o.tasks.kp k ht (fun k e => by omega), h.o.lines.kp k ht (fun k e => by rcases e with e | ⟨i, e⟩ <;> omega), h.o.bits.kp k ht (fun k e => by omega), h.o.cores.kp k ht (fun k e => by omega), h.o.ready.kp k ht (fun k e => by rcases e with e | ⟨i, e⟩ <;> omega), h.o.tlbs.kp k ht (fun k e => by rcases e with e | ⟨i, e⟩ <;> omega), n, h.o.time⟩⟩
theorem ListT.lists {w : World} {tag : Nat → Nat} {t i O : Nat} {v : Value} {ls : List (List Int)} (h : ListT w tag t i O 3 1 ls.length v (ci ls)) : ListsIn w v ls := by
  obtain ⟨g, us, rfl, _, h3, h4, h5⟩ := h
  refine ⟨some ⟨g, 0, none⟩, g, 0, ls.length, rfl, fun _ => rfl, fun j hj => ?_⟩
  have hj2 : j < us.length := by rw [h3]; exact hj
  have hr := h4.cellAt j (by omega)
  rw [List.getElem?_eq_getElem hj2] at hr
  refine ⟨us[j], by rw [Nat.zero_add]; exact hr, ?_⟩
  have := (h5 j hj2).1
  unfold ci at this
  rw [List.getD_eq_getElem?_getD, List.getElem?_eq_getElem hj] at this
  exact own_ints this
theorem ListT.tlbs {w : World} {tag : Nat → Nat} {t i O : Nat} {v : Value} {ls : List (List Ent)} (h : ListT w tag t i O 134 4 ls.length v (ce ls)) (hl : ∀ l ∈ ls, l.length ≤ 100) : TlbsIn w v ls := by
  obtain ⟨g, us, rfl, _, h3, h4, h5⟩ := h
  refine ⟨some ⟨g, 0, none⟩, g, 0, ls.length, rfl, fun _ => rfl, fun j hj => ?_⟩
  have hj2 : j < us.length := by rw [h3]; exact hj
  have hr := h4.cellAt j (by omega)
  rw [List.getElem?_eq_getElem hj2] at hr
  refine ⟨us[j], by rw [Nat.zero_add]; exact hr, ?_⟩
  have := (h5 j hj2).1
  unfold ce at this
  rw [List.getD_eq_getElem?_getD, List.getElem?_eq_getElem hj] at this
  exact own_tlb this (hl _ (List.getElem_mem hj))
theorem WorldT.v {w : World} {tag : Nat → Nat} {v : Nat → Value} {p : PW} (h : WorldT w tag v p) (hl : ∀ l ∈ p.tlbs, l.length ≤ 100) : WorldV w v p :=
  ⟨own_ints h.ram.1, own_ints h.kinds.1, own_rowsC h.slots.1, own_rowsC h.tasks.1, h.lines.lists, own_ints h.bits.1, own_ints h.cores.1, h.ready.lists, h.tlbs.tlbs hl, own_ints h.doms.1, h.time⟩
theorem BoxT.view {W : World} {wb : Nat} {tag : Nat → Nat} {V : Nat → Value} {p : PW} (h : BoxT W wb tag V p) (hp : p.Fits) (hl : ∀ l ∈ p.tlbs, l.length ≤ 100) : ViewAt W wb V p := ⟨h.r, h.o.v hl, hp⟩
/-- The number of a list's block among the lists' blocks. -/
noncomputable def inner (m : Nat → Nat) (n k : Nat) : Nat := open Classical in if h : ∃ j, j < n ∧ m j ≤ k ∧ k < m (j + 1) then Classical.choose h else 0
theorem inner_eq {m : Nat → Nat} {n j k : Nat} (hm : ∀ j, j < n → m j ≤ m (j + 1)) (hj : j < n) (h1 : m j ≤ k) (h2 : k < m (j + 1)) : inner m n k = j := by
  have he : ∃ j, j < n ∧ m j ≤ k ∧ k < m (j + 1) := ⟨j, hj, h1, h2⟩
  unfold inner
  rw [dif_pos he]
  obtain ⟨a, b, c⟩ := Classical.choose_spec he
  have up : ∀ d i, i + d ≤ n → m i ≤ m (i + d) := fun d => by
    induction d with
    | zero => intro i _; exact Nat.le_refl _
    | succ d ih => intro i hi; exact Nat.le_trans (ih i (by omega)) (hm (i + d) (by omega))
  rcases Nat.lt_trichotomy (Classical.choose he) j with h | h | h
  · have := up (j - (Classical.choose he + 1)) (Classical.choose he + 1) (by omega)
    rw [show Classical.choose he + 1 + (j - (Classical.choose he + 1)) = j by omega] at this
    omega
  · exact h
  · have := up (Classical.choose he - (j + 1)) (j + 1) (by omega)
    rw [show j + 1 + (Classical.choose he - (j + 1)) = Classical.choose he by omega] at this
    omega
/-- The tags of a world whose lists lie in ranges of blocks. -/
noncomputable def tagO (L : Nat → Nat) (wb g4 g7 g8 : Nat) (m4 m7 m8 : Nat → Nat) (n4 n7 n8 k : Nat) : Nat :=
  if k < L 0 then 0 else if k < L 1 then 2 else if k < L 2 then 3 else if k < L 3 then 4 else if k < L 4 then 5
  else if k < L 5 then (if k = g4 then 6 else 12 + 3 * inner m4 n4 k) else if k < L 6 then 7 else if k < L 7 then 8
  else if k < L 8 then (if k = g7 then 9 else 13 + 3 * inner m7 n7 k) else if k < L 9 then (if k = g8 then 10 else 14 + 3 * inner m8 n8 k)
  else if k < L 10 then 11 else if k = wb then 1 else 0
theorem InO.tagged {w : World} {lo hi I s t : Nat} {u : Value} {c : Nat × List Value} {tag : Nat → Nat} (h : InO w lo hi I s u c) (ht : ∀ k, lo ≤ k → k < hi → tag k = t) : InT w tag t I s u c :=
  ⟨h.1.mono (Nat.zero_le _), fun k e => ht k (h.1.lt k e).1 (h.2 k e)⟩
theorem BoxO.tagged {W : World} {wb : Nat} {L : Nat → Nat} {V : Nat → Value} {p : PW} (h : BoxO W wb L V p) : ∃ tag, BoxT W wb tag V p ∧ ∀ k, k < L 0 → tag k = 0 := by
  obtain ⟨g4, us4, m4, a1, a2, a3, a4, a5⟩ := h.o.lines
  obtain ⟨g7, us7, m7, b1, b2, b3, b4, b5⟩ := h.o.ready
  obtain ⟨g8, us8, m8, c1, c2, c3, c4, c5⟩ := h.o.tlbs
  have e0 := h.o.mono 0 (by omega)
  have e1 := h.o.mono 1 (by omega)
  have e2 := h.o.mono 2 (by omega)
  have e3 := h.o.mono 3 (by omega)
  have e4 := h.o.mono 4 (by omega)
  have e5 := h.o.mono 5 (by omega)
  have e6 := h.o.mono 6 (by omega)
  have e7 := h.o.mono 7 (by omega)
  have e8 := h.o.mono 8 (by omega)
  have e9 := h.o.mono 9 (by omega)
  have hlo := h.lo
  have up : ∀ (m : Nat → Nat) (n : Nat), (∀ j, j < n → m j ≤ m (j + 1)) → ∀ d j, j + d = n → m j ≤ m n := fun m n hm d => by
    induction d with
    | zero => intro j hj; rw [show j = n by omega]; exact Nat.le_refl _
    | succ d ih => intro j hj; exact Nat.le_trans (hm j (by omega)) (ih (j + 1) (by omega))
  simp only [Nat.zero_add, Nat.reduceAdd] at e0 e1 e2 e3 e4 e5 e6 e7 e8 e9
  refine ⟨tagO L wb g4 g7 g8 m4 m7 m8 p.lines.length p.ready.length p.tlbs.length, ⟨h.r, h.t, ?_, ?_⟩, fun k hk => ?_⟩
  · unfold tagO
    repeat rw [if_neg (by omega)]
    rw [if_pos rfl]
  · refine ⟨h.o.ram.tagged fun k h1 h2 => ?_, h.o.kinds.tagged fun k h1 h2 => ?_, h.o.slots.tagged fun k h1 h2 => ?_, h.o.tasks.tagged fun k h1 h2 => ?_, ?_, h.o.bits.tagged fun k h1 h2 => ?_, h.o.cores.tagged fun k h1 h2 => ?_, ?_, ?_, h.o.doms.tagged fun k h1 h2 => ?_, h.o.time⟩
    · unfold tagO
      rw [if_neg (by omega), if_pos (by omega)]
    · unfold tagO
      rw [if_neg (by omega), if_neg (by omega), if_pos (by omega)]
    · unfold tagO
      rw [if_neg (by omega), if_neg (by omega), if_neg (by omega), if_pos (by omega)]
    · unfold tagO
      rw [if_neg (by omega), if_neg (by omega), if_neg (by omega), if_neg (by omega), if_pos (by omega)]
    · refine ⟨g4, us4, a1, ?_, a5.len, ?_, fun j hj => ⟨(a5.each j hj).1.mono (Nat.zero_le _), fun k e => ?_⟩⟩
      · have z := a5.lo p.lines.length (Nat.le_refl _)
        unfold tagO
        rw [if_neg (by omega), if_neg (by omega), if_neg (by omega), if_neg (by omega), if_neg (by omega), if_pos (by omega), if_pos rfl]
      · have z := a5.row
        rw [Nat.sub_self, List.replicate_zero, List.append_nil] at z
        exact z.mono (Nat.zero_le _)
      · have hjn : j < p.lines.length := by rw [← a5.len]; exact hj
        have z1 := a5.lo j (by omega)
        have z2 := ((a5.each j hj).1.lt k e).1
        have z3 := (a5.each j hj).2 k e
        have z4 := up m4 p.lines.length a4 (p.lines.length - (j + 1)) (j + 1) (by omega)
        unfold tagO
        rw [if_neg (by omega), if_neg (by omega), if_neg (by omega), if_neg (by omega), if_neg (by omega), if_pos (by omega), if_neg (by omega), inner_eq a4 hjn z2 z3]
    · unfold tagO
      rw [if_neg (by omega), if_neg (by omega), if_neg (by omega), if_neg (by omega), if_neg (by omega), if_neg (by omega), if_pos (by omega)]
    · unfold tagO
      rw [if_neg (by omega), if_neg (by omega), if_neg (by omega), if_neg (by omega), if_neg (by omega), if_neg (by omega), if_neg (by omega), if_pos (by omega)]
    · refine ⟨g7, us7, b1, ?_, b5.len, ?_, fun j hj => ⟨(b5.each j hj).1.mono (Nat.zero_le _), fun k e => ?_⟩⟩
      · have z := b5.lo p.ready.length (Nat.le_refl _)
        unfold tagO
        rw [if_neg (by omega), if_neg (by omega), if_neg (by omega), if_neg (by omega), if_neg (by omega), if_neg (by omega), if_neg (by omega), if_neg (by omega), if_pos (by omega), if_pos rfl]
      · have z := b5.row
        rw [Nat.sub_self, List.replicate_zero, List.append_nil] at z
        exact z.mono (Nat.zero_le _)
      · have hjn : j < p.ready.length := by rw [← b5.len]; exact hj
        have z1 := b5.lo j (by omega)
        have z2 := ((b5.each j hj).1.lt k e).1
        have z3 := (b5.each j hj).2 k e
        have z4 := up m7 p.ready.length b4 (p.ready.length - (j + 1)) (j + 1) (by omega)
        unfold tagO
        rw [if_neg (by omega), if_neg (by omega), if_neg (by omega), if_neg (by omega), if_neg (by omega), if_neg (by omega), if_neg (by omega), if_neg (by omega), if_pos (by omega), if_neg (by omega), inner_eq b4 hjn z2 z3]
    · refine ⟨g8, us8, c1, ?_, c5.len, ?_, fun j hj => ⟨(c5.each j hj).1.mono (Nat.zero_le _), fun k e => ?_⟩⟩
      · have z := c5.lo p.tlbs.length (Nat.le_refl _)
        unfold tagO
        rw [if_neg (by omega), if_neg (by omega), if_neg (by omega), if_neg (by omega), if_neg (by omega), if_neg (by omega), if_neg (by omega), if_neg (by omega), if_neg (by omega), if_pos (by omega), if_pos rfl]
      · have z := c5.row
        rw [Nat.sub_self, List.replicate_zero, List.append_nil] at z
        exact z.mono (Nat.zero_le _)
      · have hjn : j < p.tlbs.length := by rw [← c5.len]; exact hj
        have z1 := c5.lo j (by omega)
        have z2 := ((c5.each j hj).1.lt k e).1
        have z3 := (c5.each j hj).2 k e
        have z4 := up m8 p.tlbs.length c4 (p.tlbs.length - (j + 1)) (j + 1) (by omega)
        unfold tagO
        rw [if_neg (by omega), if_neg (by omega), if_neg (by omega), if_neg (by omega), if_neg (by omega), if_neg (by omega), if_neg (by omega), if_neg (by omega), if_neg (by omega), if_pos (by omega), if_neg (by omega), inner_eq c4 hjn z2 z3]
    · unfold tagO
      rw [if_neg (by omega), if_neg (by omega), if_neg (by omega), if_neg (by omega), if_neg (by omega), if_neg (by omega), if_neg (by omega), if_neg (by omega), if_neg (by omega), if_neg (by omega), if_pos (by omega)]
  · unfold tagO
    rw [if_pos hk]
theorem kp_sets {B : Nat} {T : Nat → Prop} : ∀ (vs : List Value) (o : Nat) (w : World), T B → Kp T w (w.setCells B o vs)
  | [], _, w, _ => Kp.refl _ _
  | v :: r, o, w, h => by
    rw [World.setCells]
    exact ((Kp.refl T w).setCell (.inl h) v).trans (kp_sets r (o + 1) _ h)
theorem WorldT.sets {w : World} {tag : Nat → Nat} {v : Nat → Value} {p : PW} {B : Nat} (h : WorldT w tag v p) (hB : tag B = 0) (vs : List Value) (o : Nat) : WorldT (w.setCells B o vs) tag v p := by
  have k : Kp (fun k => tag k = 0) w (w.setCells B o vs) := kp_sets vs o w hB
  have ht : ∀ k, k < w.heap.size → tag k = tag k := fun _ _ => rfl
  exact ⟨h.ram.kp k ht (fun k e => by omega), h.kinds.kp k ht (fun k e => by omega), h.slots.kp k ht (fun k e => by omega), h.tasks.kp k ht (fun k e => by omega), h.lines.kp k ht (fun k e => by rcases e with e | ⟨i, e⟩ <;> omega), h.bits.kp k ht (fun k e => by omega), h.cores.kp k ht (fun k e => by omega), h.ready.kp k ht (fun k e => by rcases e with e | ⟨i, e⟩ <;> omega), h.tlbs.kp k ht (fun k e => by rcases e with e | ⟨i, e⟩ <;> omega), h.doms.kp k ht (fun k e => by omega), h.time⟩
theorem BoxT.far {W : World} {wb lo : Nat} {tag : Nat → Nat} {V : Nat → Value} {p : PW} (h : BoxT W wb tag V p) (hl : ∀ l ∈ p.tlbs, l.length ≤ 100) (ht : ∀ k, k < lo → tag k = 0) : Far W wb lo V p := by
  refine ⟨h.r, fun ws hw => ?_⟩
  have : ∀ (ws : List (Nat × Nat × List Value)) (W : World), WorldT W tag V p → (∀ x ∈ ws, x.1 < lo) → WorldT (sts W ws) tag V p := fun ws => by
    induction ws with
    | nil => intro W h _; exact h
    | cons x r ih => intro W h hw; exact ih _ (h.sets (ht _ (hw x (by simp))) x.2.2 x.2.1) (fun y hy => hw y (by simp [hy]))
  exact (this ws W h.o hw).v hl
/-- What a deed does to a world whose blocks bear tags. (ok: what it needs of what is not of the world.) -/
def DeedT (N : Nat) (caps : Array Value) (ok : (Nat → Nat) → World → Prop) (ans : Int → Value) (p p' : PW) (e : Int) : Prop :=
  ∀ W wb tag V, BoxT W wb tag V p → ok tag W → Calls Tryz.prog N (#[.pointer (some ⟨wb, 0, none⟩)] ++ caps) W fun r W' => r = .returned (ans e) ∧ ∃ tag', Kt tag tag' W W' ∧ (e = 0 → ∃ V', BoxT W' wb tag' V' p')
theorem DeedT.f {N : Nat} {caps : Array Value} {ok : World → Prop} {ans : Int → Value} {p p' : PW} {e : Int} {okt : (Nat → Nat) → World → Prop} (h : DeedT N caps okt ans p p' e) (hl : ∀ l ∈ p'.tlbs, l.length ≤ 100) (hk : ∀ W lo tag, (∀ W', Below lo W W' → ok W') → (∀ k, k < lo → tag k = 0) → okt tag W) : DeedF N caps ok ans p p' e := by
  intro W wb L V bo _ hst
  obtain ⟨tag, bt, h0⟩ := bo.tagged
  refine (h W wb tag V bt (hk W (L 0) tag hst h0)).mono ?_
  rintro r W' ⟨rfl, tag', kt, h2⟩
  have l0 : L 0 ≤ W.heap.size := Nat.le_trans (bo.o.le 10 (by omega)) (Nat.le_trans bo.lo (Nat.le_of_lt bo.lt))
  refine ⟨rfl, kt.k.below (Below.refl _ _) l0 (fun k hk e => e (h0 k hk)), fun he => ?_⟩
  obtain ⟨V', b2⟩ := h2 he
  exact ⟨V', b2.far hl (fun k hk => kt.t k (Nat.lt_of_lt_of_le hk l0) (h0 k hk))⟩
end Go.Proofs.YtjcbkollogdlcaaGreatDoor.Wd
