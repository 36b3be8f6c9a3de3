/- cpu.do: what it answers, and its world. -/
import Derived.Test.YtlkplpdnleaihagCpuFlat
import Derived.Test.YtlkplpdnleaihagIsaPlain
import Derived.Test.YtlkplpdnleaihagBig
import Derived.Deep.RegionHeld3
namespace Go.Proofs.Ytlkplpdnleaihag.Cpu
open Go.RowKit Go.Proofs.Ytlkplpdnleaihag.Mem Go.Proofs.Ytlkplpdnleaihag.Bw Go.Proofs.Ytlkplpdnleaihag.Nums

/-- A task's twenty cells. -/
def tc (f : Nat → Int) : List Value := (List.range 20).map fun k => .int .i64 (f k)
theorem tc_len (f : Nat → Int) : (tc f).length = 20 := by simp [tc]
theorem tc_one (f : Nat → Int) : ∀ v ∈ tc f, v.oneCell' = true := by
  intro v hv
  obtain ⟨k, _, rfl⟩ := List.mem_map.1 hv
  rfl
theorem tc_at (f : Nat → Int) (k : Nat) (h : k < 20) : (tc f)[k]? = some (.int .i64 (f k)) := by simp [tc, h]
def upd (f : Nat → Int) (k : Nat) (v : Int) : Nat → Int := fun i => if i = k then v else f i
theorem tc_set (f : Nat → Int) (k : Nat) (v : Int) : (tc f).set k (.int .i64 v) = tc (upd f k v) := by
  apply List.ext_getElem?
  intro j
  by_cases hj : j < 20
  · rw [tc_at _ j hj]
    by_cases e : k = j
    · subst e
      rw [List.getElem?_set_self (by rw [tc_len]; exact hj)]
      simp [upd]
    · rw [List.getElem?_set_ne e, tc_at f j hj]
      unfold upd
      rw [if_neg (fun h => e h.symm)]
  · rw [List.getElem?_eq_none (by rw [List.length_set, tc_len]; omega), List.getElem?_eq_none (by rw [tc_len]; omega)]
/-- The world behind do's first statements. -/
structure DW (T : Nat → Prop) (w W : World) (f g : Nat → Int) (o A B i : Int) : Prop where
  t : W.rangeAt w.heap.size 0 (tc f)
  i0 : W.cell? ⟨w.heap.size + 1, 0, none⟩ = some (.int .i64 o)
  i1 : W.cell? ⟨w.heap.size + 1, 1, none⟩ = some (.int .i64 A)
  i2 : W.cell? ⟨w.heap.size + 1, 2, none⟩ = some (.int .i64 B)
  i3 : W.cell? ⟨w.heap.size + 1, 3, none⟩ = some (.int .i64 i)
  r : W.there (w.heap.size + 1 + 1) 0 20
  n : W.rangeAt (w.heap.size + 1 + 1 + 1) 0 (tc g)
  nt : W.there (w.heap.size + 1 + 1 + 1) 0 20
  kp : Kp T w W
  sz : w.heap.size + 1 + 1 + 1 < W.heap.size
theorem dw_start (w : World) (f : Nat → Int) (o A B i : Int) (z : Array Value) (hz : z.size = 20) :
    DW (fun _ => False) w (((((w.alloc (.cells (tc f).toArray 35)).alloc (.cells #[.int .i64 o, .int .i64 A, .int .i64 B, .int .i64 i] 45)).alloc (.cells z 35)).alloc (.cells z 35)).setCells (w.heap.size + 1 + 1 + 1) 0 (tc f)) f f o A B i := by
  have q := cells_new (w.alloc (.cells (tc f).toArray 35)) #[.int .i64 o, .int .i64 A, .int .i64 B, .int .i64 i] 45
  have q2 := cells_alloc (cells_alloc q (by simp) (.cells z 35)) (by simp) (.cells z 35)
  have e : (w.alloc (.cells (tc f).toArray 35)).heap.size = w.heap.size + 1 := by simp
  rw [e] at q2
  have hc : ∀ k, (((((w.alloc (.cells (tc f).toArray 35)).alloc (.cells #[.int .i64 o, .int .i64 A, .int .i64 B, .int .i64 i] 45)).alloc (.cells z 35)).alloc (.cells z 35)).setCells (w.heap.size + 1 + 1 + 1) 0 (tc f)).cell? ⟨w.heap.size + 1, k, none⟩ = (#[.int .i64 o, .int .i64 A, .int .i64 B, .int .i64 i] : Array Value)[k]? := fun k => by
    rw [cell_setCells (by omega)]
    exact q2 k
  exact {
    t := World.rangeAt_setCells_apart (World.rangeAt_alloc (World.rangeAt_alloc (World.rangeAt_alloc (range_new w _ _ _ rfl) _) _) _) _ _ _ (.inl (by omega))
    i0 := hc 0
    i1 := hc 1
    i2 := hc 2
    i3 := hc 3
    r := World.there_setCells (World.there_alloc (there_new _ _ _ _ _ (by simp) (by omega)) _) _ _ _
    n := World.rangeAt_setCells_same _ _ _ _ (by rw [tc_len]; exact there_new _ _ _ _ _ (by simp) (by omega))
    nt := World.there_setCells (there_new _ _ _ _ _ (by simp) (by omega)) _ _ _
    kp := Kp.setCells (.inr (by omega)) _ _ _ (((((Kp.refl _ w).alloc _).alloc _).alloc _).alloc _)
    sz := by rw [setCells_size]; simp }
theorem DW.set {T : Nat → Prop} {w W : World} {f g : Nat → Int} {o A B i : Int} (h : DW T w W f g o A B i) (k : Nat) (hk : k < 20) (v : Int) : DW T w (W.setCell ⟨w.heap.size + 1 + 1 + 1, k, none⟩ (.int .i64 v)) f (upd g k v) o A B i where
  t := range_far h.t (by omega) _
  i0 := (World.cell?_setCell_other W _ _ _ (by intro e; have := congrArg Addr.block e; simp only at this; omega)).trans h.i0
  i1 := (World.cell?_setCell_other W _ _ _ (by intro e; have := congrArg Addr.block e; simp only at this; omega)).trans h.i1
  i2 := (World.cell?_setCell_other W _ _ _ (by intro e; have := congrArg Addr.block e; simp only at this; omega)).trans h.i2
  i3 := (World.cell?_setCell_other W _ _ _ (by intro e; have := congrArg Addr.block e; simp only at this; omega)).trans h.i3
  r := there_set h.r _ _
  n := by rw [← tc_set]; exact range_set h.n (by rw [tc_len]; exact hk) _
  nt := there_set h.nt _ _
  kp := h.kp.setCell (.inr (by omega)) _
  sz := by rw [show (W.setCell ⟨w.heap.size + 1 + 1 + 1, k, none⟩ (.int .i64 v)).heap.size = W.heap.size by simp [World.setCell]]; exact h.sz
theorem DW.drew {T : Nat → Prop} {w W : World} {f g : Nat → Int} {o A B i : Int} (h : DW T w W f g o A B i) (n : Nat) : DW T w (W.drewN n) f g o A B i := ⟨h.t, h.i0, h.i1, h.i2, h.i3, h.r, h.n, h.nt, h.kp.drew n, h.sz⟩
theorem DW.res {T : Nat → Prop} {w W : World} {f g : Nat → Int} {o A B i : Int} (h : DW T w W f g o A B i) (e : Nat → Int) : (W.setCells (w.heap.size + 1 + 1) 0 (tc e)).rangeAt (w.heap.size + 1 + 1) 0 (tc e) ∧ Kp T w (W.setCells (w.heap.size + 1 + 1) 0 (tc e)) :=
  ⟨World.rangeAt_setCells_same _ _ _ _ (by rw [tc_len]; exact h.r), Kp.setCells (.inr (by omega)) _ _ _ h.kp⟩
/-- Where words are: what a bus does, by a memory m that it stands for. -/
structure BusOf (bus : Value) (M : Type) where
  Inv : World → M → Prop
  T : Nat → Prop
  F : Nat → Prop
  ld : M → Int → Int
  ok : M → Int → Bool
  st : M → Int → Int → M
  oks : M → Int → Bool
  word : ∀ {W m} (at_ : Int), Inv W m → 0 ≤ ld m at_ ∧ ld m at_ < 65536
  flt : ∀ {W m k}, Inv W m → F k → k < W.heap.size
  tf : ∀ k, T k → F k
  stab : ∀ {U W W' m}, Inv W m → Kp U W W' → (∀ k, F k → ¬ U k) → Inv W' m
  load : ∀ {W m} (at_ : Int), Inv W m → 0 ≤ at_ → at_ < 65536 → Calls Try.prog 16 #[bus, .int .i64 at_] W fun e w' => e = .returned (.tuple #[.int .i64 (ld m at_), .bool (ok m at_)]) ∧ Below W.heap.size W w'
  store : ∀ {W m} (at_ v : Int), Inv W m → 0 ≤ at_ → at_ < 65536 → 0 ≤ v → v < 65536 → Calls Try.prog 35 #[bus, .int .i64 at_, .int .i64 v] W fun e w' => e = .returned (.bool (oks m at_)) ∧ Kp T W w' ∧ Inv w' (st m at_ v)
/-- What do answers. -/
def doR {bus : Value} {M : Type} (X : BusOf bus M) (m : M) (f : Nat → Int) (o : Int) (A B : Nat) (i : Int) : (Nat → Int) × Int × Int × M :=
  if o = 0 then (f, 3, 0, m)
  else if o = 14 then (upd f 8 ((f 8 + 2) % 65536), 1, i, m)
  else if o = 1 then (upd (upd f 8 ((f 8 + 2) % 65536)) A (i % 65536), 0, 0, m)
  else if o = 10 then (if X.ok m ((f B + i) % 65536) = true then (upd (upd f 8 ((f 8 + 2) % 65536)) A (X.ld m ((f B + i) % 65536)), 0, 0, m) else (f, 2, (f B + i) % 65536, m))
  else if o = 11 then (if X.oks m ((f B + i) % 65536) = true then (upd f 8 ((f 8 + 2) % 65536), 0, 0, X.st m ((f B + i) % 65536) (f A)) else (f, 2, (f B + i) % 65536, X.st m ((f B + i) % 65536) (f A)))
  else if o = 12 then (upd (upd f 8 ((f 8 + 2) % 65536)) 8 (i % 65536), 0, 0, m)
  else if o = 13 then (if f A = 0 then (upd (upd f 8 ((f 8 + 2) % 65536)) 8 (i % 65536), 0, 0, m) else (upd f 8 ((f 8 + 2) % 65536), 0, 0, m))
  else (upd (upd f 8 ((f 8 + 2) % 65536)) A (comb o (f A) (f B) % 65536), 0, 0, m)
def retV (g : Nat → Int) (ev n : Int) : Value := .tuple #[.agg (tc g).toArray, .int .i64 ev, .int .i64 n]
theorem DW.kept {T : Nat → Prop} {w W W' : World} {f g : Nat → Int} {o A B i : Int} (h : DW (fun _ => False) w W f g o A B i) (hb : Kp T W W') (ht : ∀ k, T k → k < w.heap.size) : DW T w W' f g o A B i := by
  have hs := h.sz
  exact ⟨range_kp h.t hb (fun e => by have := ht _ e; omega), (hb.cell (by simp; omega) (fun e => by have := ht _ e; simp at this; omega)).trans h.i0, (hb.cell (by simp; omega) (fun e => by have := ht _ e; simp at this; omega)).trans h.i1, (hb.cell (by simp; omega) (fun e => by have := ht _ e; simp at this; omega)).trans h.i2, (hb.cell (by simp; omega) (fun e => by have := ht _ e; simp at this; omega)).trans h.i3,
    there_kp h.r hb (fun e => by have := ht _ e; omega), range_kp h.n hb (fun e => by have := ht _ e; omega), there_kp h.nt hb (fun e => by have := ht _ e; omega), (h.kp.wider (fun _ _ e => e.elim)).trans hb, by have := hb.size; omega⟩
theorem DW.below {w W W' : World} {f g : Nat → Int} {o A B i : Int} (h : DW (fun _ => False) w W f g o A B i) (hb : Below W.heap.size W W') : DW (fun _ => False) w W' f g o A B i := h.kept (.of_below hb) (fun _ e => e.elim)
theorem kp_res (w W : World) (cs : List Value) : Kp (· = w.heap.size + 1 + 1) W (W.setCells (w.heap.size + 1 + 1) 0 cs) := Kp.setCells (T := (· = w.heap.size + 1 + 1)) (.inl rfl) _ _ _ (Kp.refl _ _)
theorem DW.drw {T : Nat → Prop} {w W : World} {f g : Nat → Int} {o A B i : Int} (h : DW T w W f g o A B i) : DW T w W.drew f g o A B i := h.drew 1
end Go.Proofs.Ytlkplpdnleaihag.Cpu
