/- keyholdref.Did: its world; the flat memory as a bus. -/
import Derived.Test.YtlkplpdnleaihabCpuStep
import Derived.Test.YtlkplpdnleaihabRefIns
import Derived.Test.YtlkplpdnleaihabRefBits
namespace Go.Proofs.Ytlkplpdnleaihab.Cpu
open Go.RowKit Go.Proofs.Ytlkplpdnleaihab.Mem Go.Proofs.Ytlkplpdnleaihab.Bw Go.Proofs.Ytlkplpdnleaihab.Nums

theorem FlatAt.kept {U : Nat → Prop} {w w' : World} {p b cap : Nat} {q : Option Addr} {zs : List Int} {low : Int} (h : FlatAt w p q b cap zs low) (hb : Kp U w w') (h1 : ¬ U p) (h2 : ¬ U b) : FlatAt w' p q b cap zs low where
  c0 := (hb.cell (World.block_lt_of_cell? _ _ h.c0) h1).trans h.c0
  c1 := (hb.cell (World.block_lt_of_cell? _ _ h.c1) h1).trans h.c1
  hq := h.hq
  ints := fun j hj => (hb.cell (World.block_lt_of_cell? _ _ (h.ints j hj)) h2).trans (h.ints j hj)
  froz := fun j hj => (hb.frozen (World.block_lt_of_cell? _ ⟨b, j, none⟩ (by have := h.ints j hj; rw [Nat.zero_add] at this; exact this)) h2).trans (h.froz j hj)
  ne := h.ne
  len := h.len
  words := h.words
/-- The flat memory at p, as a bus. -/
def flatBus (p b cap : Nat) (q : Option Addr) (low : Int) : BusOf (.iface 28 (.pointer (some ⟨p, 0, none⟩))) (List Int) where
  Inv := fun w zs => FlatAt w p q b cap zs low ∧ b < w.heap.size
  T := (· = b)
  F := fun k => k = p ∨ k = b
  ld := ldL
  ok := okL
  st := fun zs at_ v => stL zs low at_ v
  oks := fun zs at_ => okS zs low at_
  word := fun at_ h => ldL_word h.1.words at_
  flt := fun h hk => by
    rcases hk with rfl | rfl
    · exact World.block_lt_of_cell? _ _ h.1.c0
    · exact h.2
  tf := fun _ h => .inr h
  stab := fun h hk hn => ⟨h.1.kept hk (hn _ (.inl rfl)) (hn _ (.inr rfl)), Nat.lt_of_lt_of_le h.2 hk.size⟩
  load := fun at_ h h0 h1 => load_flat p b cap q _ low at_ _ h.1 h0 h1
  store := fun {W m} at_ v h h0 h1 v0 v1 => by
    cases hn : okS m low at_ with
    | true => exact (store_yes p b cap q _ low at_ v _ h.1 h0 h1 v0 v1 hn).mono fun _ _ ⟨e, k, f⟩ => ⟨e, k, f, Nat.lt_of_lt_of_le h.2 k.size⟩
    | false =>
      have e : stL m low at_ v = m := by
        unfold okS at hn
        rw [decide_eq_false_iff_not] at hn
        unfold stL
        rw [if_neg hn]
      rw [e]
      exact (store_no p b cap q _ low at_ v _ h.1 h0 h1 hn).mono fun _ _ ⟨e, k⟩ => ⟨e, .of_below k, h.1.below k, Nat.lt_of_lt_of_le h.2 k.size⟩
/-- The world behind Did's first statements. -/
structure GW (T : Nat → Prop) (w W : World) (f g : Nat → Int) (o A B i : Int) (c : Nat) : Prop where
  t : W.rangeAt w.heap.size 0 (tc f)
  r : W.there (w.heap.size + 1) 0 20
  i0 : W.cell? ⟨c, 0, none⟩ = some (.int .i64 o)
  i1 : W.cell? ⟨c, 1, none⟩ = some (.int .i64 A)
  i2 : W.cell? ⟨c, 2, none⟩ = some (.int .i64 B)
  i3 : W.cell? ⟨c, 3, none⟩ = some (.int .i64 i)
  n : W.rangeAt (c + 1) 0 (tc g)
  nt : W.there (c + 1) 0 20
  kp : Kp T w W
  lo : w.heap.size + 1 < c
  sz : c + 1 < W.heap.size
theorem gw_start (w w1 : World) (f : Nat → Int) (o A B i : Int) (z : Array Value) (hz : z.size = 20) (h1 : Below ((w.alloc (.cells (tc f).toArray 25)).alloc (.cells z 25)).heap.size ((w.alloc (.cells (tc f).toArray 25)).alloc (.cells z 25)) w1) :
    GW (fun _ => False) w (((w1.alloc (.cells #[.int .i64 o, .int .i64 A, .int .i64 B, .int .i64 i] 48)).alloc (.cells z 25)).setCells (w1.heap.size + 1) 0 (tc f)) f f o A B i w1.heap.size := by
  have hs := h1.size
  simp at hs
  have q := cells_new w1 #[.int .i64 o, .int .i64 A, .int .i64 B, .int .i64 i] 48
  have q2 := cells_alloc q (by simp) (.cells z 25)
  have hc : ∀ k, (((w1.alloc (.cells #[.int .i64 o, .int .i64 A, .int .i64 B, .int .i64 i] 48)).alloc (.cells z 25)).setCells (w1.heap.size + 1) 0 (tc f)).cell? ⟨w1.heap.size, k, none⟩ = (#[.int .i64 o, .int .i64 A, .int .i64 B, .int .i64 i] : Array Value)[k]? := fun k => by
    rw [cell_setCells (by omega)]
    exact q2 k
  exact {
    t := World.rangeAt_setCells_apart (World.rangeAt_alloc (World.rangeAt_alloc (range_below (World.rangeAt_alloc (range_new w _ _ _ rfl) _) h1) _) _) _ _ _ (.inl (by omega))
    r := World.there_setCells (World.there_alloc (World.there_alloc (there_kp (T := fun _ => False) (there_new _ _ _ _ _ (by simp) (by omega)) (.of_below h1) id) _) _) _ _ _
    i0 := hc 0
    i1 := hc 1
    i2 := hc 2
    i3 := hc 3
    n := World.rangeAt_setCells_same _ _ _ _ (by rw [tc_len]; exact there_new _ _ _ _ _ (by simp) (by omega))
    nt := World.there_setCells (there_new _ _ _ _ _ (by simp) (by omega)) _ _ _
    kp := Kp.setCells (.inr (by omega)) _ _ _ (((((((Kp.refl _ w).alloc _).alloc _).trans (.of_below h1))).alloc _).alloc _)
    lo := by omega
    sz := by rw [setCells_size]; simp }
theorem GW.set {T : Nat → Prop} {w W : World} {f g : Nat → Int} {o A B i : Int} {c : Nat} (h : GW T w W f g o A B i c) (k : Nat) (hk : k < 20) (v : Int) : GW T w (W.setCell ⟨c + 1, k, none⟩ (.int .i64 v)) f (upd g k v) o A B i c where
  t := range_far h.t (by have := h.lo; omega) _
  r := there_set h.r _ _
  i0 := (World.cell?_setCell_other W _ _ _ (by intro e; have := congrArg Addr.block e; simp only at this; omega)).trans h.i0
  i1 := (World.cell?_setCell_other W _ _ _ (by intro e; have := congrArg Addr.block e; simp only at this; omega)).trans h.i1
  i2 := (World.cell?_setCell_other W _ _ _ (by intro e; have := congrArg Addr.block e; simp only at this; omega)).trans h.i2
  i3 := (World.cell?_setCell_other W _ _ _ (by intro e; have := congrArg Addr.block e; simp only at this; omega)).trans h.i3
  n := by rw [← tc_set]; exact range_set h.n (by rw [tc_len]; exact hk) _
  nt := there_set h.nt _ _
  kp := h.kp.setCell (.inr (by have := h.lo; omega)) _
  lo := h.lo
  sz := by rw [show (W.setCell ⟨c + 1, k, none⟩ (.int .i64 v)).heap.size = W.heap.size by simp [World.setCell]]; exact h.sz
theorem GW.drw {T : Nat → Prop} {w W : World} {f g : Nat → Int} {o A B i : Int} {c : Nat} (h : GW T w W f g o A B i c) : GW T w W.drew f g o A B i c := ⟨h.t, h.r, h.i0, h.i1, h.i2, h.i3, h.n, h.nt, h.kp.drew 1, h.lo, h.sz⟩
theorem GW.kept {T : Nat → Prop} {w W W' : World} {f g : Nat → Int} {o A B i : Int} {c : Nat} (h : GW (fun _ => False) w W f g o A B i c) (hb : Kp T W W') (ht : ∀ k, T k → k < w.heap.size) : GW T w W' f g o A B i c := by
  have hs := h.sz
  have hl := h.lo
  exact ⟨range_kp h.t hb (fun e => by have := ht _ e; omega), there_kp h.r hb (fun e => by have := ht _ e; omega), (hb.cell (by simp; omega) (fun e => by have := ht _ e; simp at this; omega)).trans h.i0, (hb.cell (by simp; omega) (fun e => by have := ht _ e; simp at this; omega)).trans h.i1, (hb.cell (by simp; omega) (fun e => by have := ht _ e; simp at this; omega)).trans h.i2, (hb.cell (by simp; omega) (fun e => by have := ht _ e; simp at this; omega)).trans h.i3,
    range_kp h.n hb (fun e => by have := ht _ e; omega), there_kp h.nt hb (fun e => by have := ht _ e; omega), (h.kp.wider (fun _ _ e => e.elim)).trans hb, h.lo, by have := hb.size; omega⟩
theorem GW.res {T : Nat → Prop} {w W : World} {f g : Nat → Int} {o A B i : Int} {c : Nat} (h : GW T w W f g o A B i c) (e : Nat → Int) : (W.setCells (w.heap.size + 1) 0 (tc e)).rangeAt (w.heap.size + 1) 0 (tc e) ∧ Kp T w (W.setCells (w.heap.size + 1) 0 (tc e)) :=
  ⟨World.rangeAt_setCells_same _ _ _ _ (by rw [tc_len]; exact h.r), Kp.setCells (.inr (by omega)) _ _ _ h.kp⟩
theorem kp_one (w W : World) (cs : List Value) : Kp (· = w.heap.size + 1) W (W.setCells (w.heap.size + 1) 0 cs) := Kp.setCells (T := (· = w.heap.size + 1)) (.inl rfl) _ _ _ (Kp.refl _ _)
end Go.Proofs.Ytlkplpdnleaihab.Cpu
