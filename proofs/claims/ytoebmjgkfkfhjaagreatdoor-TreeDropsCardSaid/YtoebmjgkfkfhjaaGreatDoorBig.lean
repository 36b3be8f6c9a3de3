/- Structs of many cells: loads and stores of them whole. -/
import Derived.Test.YtoebmjgkfkfhjaaGreatDoorGBase
import Derived.Test.YtoebmjgkfkfhjaaGreatDoorChecked
import Derived.Deep.MidRow
namespace Go.Proofs.YtoebmjgkfkfhjaaGreatDoor.Mem
open Go.RowKit
theorem range_new (w : World) (cs : List Value) (t : TypeId) (n : Nat) (hn : n = w.heap.size) : (w.alloc (.cells cs.toArray t)).rangeAt n 0 cs := fun j v hv => by
 rw [World.cell?_alloc_at _ _ _ _ hn]
 simpa using hv
theorem range_newA (w : World) (cs : List Value) (arr : Array Value) (t : TypeId) (n : Nat) (hn : n = w.heap.size) (ha : arr = cs.toArray) : (w.alloc (.cells arr t)).rangeAt n 0 cs := by subst ha; exact range_new w cs t n hn
theorem there_new (w : World) (arr : Array Value) (t : TypeId) (n k : Nat) (hn : n = w.heap.size) (hk : k ≤ arr.size) : (w.alloc (.cells arr t)).there n 0 k := fun j hj => by
 constructor
 ·rw [World.cell?_alloc_at _ _ _ _ hn]
  simp
  omega
 ·subst hn
  simp
theorem range_below {w w' : World} {b : Nat} {cs : List Value} (h : w.rangeAt b 0 cs) (hb : Below w.heap.size w w') : w'.rangeAt b 0 cs := fun j v hv => by
 have := h j v hv
 exact (hb.cell (World.block_lt_of_cell? _ _ this)).trans this
theorem range_kp {T : Nat → Prop} {w w' : World} {b : Nat} {cs : List Value} (h : w.rangeAt b 0 cs) (hb : Kp T w w') (hn : ¬ T b) : w'.rangeAt b 0 cs := fun j v hv => by
 have := h j v hv
 exact (hb.cell (World.block_lt_of_cell? _ _ this) hn).trans this
theorem there_kp {T : Nat → Prop} {w w' : World} {b n : Nat} (h : w.there b 0 n) (hb : Kp T w w') (hn : ¬ T b) : w'.there b 0 n := fun j hj => by
 obtain ⟨h1, h2⟩ := h j hj
 obtain ⟨u, hu⟩ := Option.isSome_iff_exists.1 h1
 have hl := World.block_lt_of_cell? _ _ hu
 exact ⟨by rw [hb.cell hl hn]; exact h1, by rw [hb.frozen hl hn]; exact h2⟩
theorem range_set {w : World} {b k : Nat} {cs : List Value} (h : w.rangeAt b 0 cs) (hk : k < cs.length) (v : Value) : (w.setCell ⟨b, k, none⟩ v).rangeAt b 0 (cs.set k v) := fun j u hu => by
 rw [Nat.zero_add]
 by_cases e : k = j
 ·subst e
  have := h k _ (List.getElem?_eq_getElem hk)
  rw [Nat.zero_add] at this
  rw [World.cell?_setCell_same w _ _ this]
  rw [List.getElem?_set_self hk] at hu
  exact hu
 ·rw [World.cell?_setCell_other w _ _ _ (by intro h; cases h; omega)]
  rw [List.getElem?_set_ne e] at hu
  have := h j u hu
  rw [Nat.zero_add] at this
  exact this
theorem range_far {w : World} {b B k : Nat} {cs : List Value} (h : w.rangeAt b 0 cs) (hne : B ≠ b) (v : Value) : (w.setCell ⟨B, k, none⟩ v).rangeAt b 0 cs := fun j u hu => by
 rw [World.cell?_setCell_other w _ _ _ (by intro h; cases h; omega)]
 exact h j u hu
theorem there_set {w : World} {b n : Nat} (h : w.there b 0 n) (a : Addr) (v : Value) : (w.setCell a v).there b 0 n := fun j hj => by
 obtain ⟨h1, h2⟩ := h j hj
 obtain ⟨u, hu⟩ := Option.isSome_iff_exists.1 h1
 refine ⟨?_, by rw [World.frozen?_setCell]; exact h2⟩
 by_cases e : a = ⟨b, 0 + j, none⟩
 ·subst e; rw [World.cell?_setCell_same _ _ _ hu]; rfl
 ·rw [World.cell?_setCell_other _ _ _ _ e, hu]; rfl
theorem range_cell {w : World} {b k : Nat} {cs : List Value} {v : Value} (h : w.rangeAt b 0 cs) (hk : cs[k]? = some v) : w.cell? ⟨b, k, none⟩ = some v := by
 have := h k v hk
 rwa [Nat.zero_add] at this
theorem Kp.setCells {T : Nat → Prop} {w : World} {b : Nat} (hb : T b ∨ w.heap.size ≤ b) : ∀ (vs : List Value) (o : Nat) (w' : World), Kp T w w' → Kp T w (w'.setCells b o vs)
 | [], _, _, h => h
 | v :: r, o, w', h => by
  rw [World.setCells]
  exact Kp.setCells hb r (o + 1) _ (h.setCell hb v)
theorem setCells_size (b : Nat) : ∀ (vs : List Value) (o : Nat) (w : World), (w.setCells b o vs).heap.size = w.heap.size
 | [], _, _ => rfl
 | v :: r, o, w => by
  rw [World.setCells, setCells_size b r (o + 1) _]
  simp [World.setCell]
theorem cell_setCells {w : World} {b C o : Nat} (hne : C ≠ b) (vs : List Value) (o' : Nat) : (w.setCells b o' vs).cell? ⟨C, o, none⟩ = w.cell? ⟨C, o, none⟩ := by
 rw [World.cell?_setCells_out b vs o' w ⟨C, o, none⟩ (fun hb _ => absurd hb hne)]
theorem info20 : (Tryz.prog.info? 85).map (·.size) = some 20 := by kernel_rfl
theorem wp_ld {ops : Array Oper} {rest : List Oper} {op : Oper} {a : Act} {w : World} {Q : Exit → Act → World → Prop} (hgd : op.guard = none) (x : Operand) (ho : op.op = .load 85 x)
  (b : Nat) (hx : a.eval x = .pointer (some ⟨b, 0, none⟩)) (cs : List Value) (hl : cs.length = 20) (hc : w.rangeAt b 0 cs)
  (h : wpList Tryz.prog ops Q rest (a.put op.dst (.agg cs.toArray)) w) : wpList Tryz.prog ops Q (op :: rest) a w :=
 wpList_load_mid hgd 85 x ho b 0 hx cs _ hc Tryz.underlying85 rfl (by rw [info20, hl]) h
theorem wp_st {ops : Array Oper} {rest : List Oper} {op : Oper} {a : Act} {w : World} {Q : Exit → Act → World → Prop} (hgd : op.guard = none) (x y : Operand) (ho : op.op = .store 85 x y)
  (b : Nat) (hx : a.eval x = .pointer (some ⟨b, 0, none⟩)) (cs : List Value) (hy : a.eval y = .agg cs.toArray) (hl : cs.length = 20) (h1 : ∀ v ∈ cs, v.oneCell' = true) (ht : w.there b 0 20)
  (h : wpList Tryz.prog ops Q rest (a.put op.dst undef) (w.setCells b 0 cs)) : wpList Tryz.prog ops Q (op :: rest) a w :=
 wpList_store_mid hgd 85 x y ho b 0 cs.toArray hx hy (by simpa [hl] using ht) (by rw [info20]; simp [hl]) (all_oneCell_toArray h1) (by simpa using h)
theorem run_ld (w : World) (b : Nat) (cs : List Value) (hc : w.rangeAt b 0 cs) (hl : cs.length = 20) : (loadVar 85 ⟨b, 0, none⟩).run Tryz.prog w = .ok (.agg cs.toArray) w :=
 run_loadVar_mid w b 0 85 cs _ hc Tryz.underlying85 rfl (by rw [info20, hl])
theorem results_c3 {fn : Func} {p u v : Tmp} {ty : TypeId} (h : fn.results = #[.cell p ty, .tmp u, .tmp v]) {tmps : Array Value} {P : Program} {w : World} {b : Nat} {x y z : Value} (hp : tmps.getD p undef = .pointer (some ⟨b, 0, none⟩)) (hl : (loadVar ty ⟨b, 0, none⟩).run P w = .ok x w) (hu : tmps.getD u undef = y) (hv : tmps.getD v undef = z) :
  (results fn tmps).run P w = .ok (.tuple #[x, y, z]) w := by
 simp only [results, h]
 simp [Sem.run_bind, Result.andThen, asAddr]
 have hp' := hp
 have hu' := hu
 have hv' := hv
 simp at hp' hu' hv'
 rw [hp', hu', hv']
 simp [hl]
theorem results_c1 {fn : Func} {p : Tmp} {ty : TypeId} (h : fn.results = #[.cell p ty]) {tmps : Array Value} {P : Program} {w : World} {b : Nat} {x : Value} (hp : tmps.getD p undef = .pointer (some ⟨b, 0, none⟩)) (hl : (loadVar ty ⟨b, 0, none⟩).run P w = .ok x w) :
  (results fn tmps).run P w = .ok x w := by
 simp only [results, h]
 simp [Sem.run_bind, Result.andThen, asAddr]
 have hp' := hp
 simp at hp'
 rw [hp']
 simp [hl]
end Go.Proofs.YtoebmjgkfkfhjaaGreatDoor.Mem
