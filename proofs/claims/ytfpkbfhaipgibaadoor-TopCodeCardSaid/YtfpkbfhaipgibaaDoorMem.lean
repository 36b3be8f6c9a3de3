/- Small laws on worlds: cells behind stores, new blocks and calls. -/
import Derived.WalkKit
import Derived.WalkSpells
import Derived.WalkLawsBesides
namespace Go.Proofs.YtfpkbfhaipgibaaDoor.Mem
open Go.RowKit

theorem ret_bool {a b : Bool} (h : a = b) : Ending.returned (.bool a) = .returned (.bool b) := by rw [h]
theorem ret_int {k : IntKind} {a b : Int} (h : a = b) : Ending.returned (.int k a) = .returned (.int k b) := by rw [h]
theorem val_eq {k : IntKind} {a b : Int} (h : a = b) : Value.int k a = Value.int k b := by rw [h]
theorem bcell {W w1 : World} (hb : Below W.heap.size W w1) : (∀ b o, b < W.heap.size → w1.cell? ⟨b, o, none⟩ = W.cell? ⟨b, o, none⟩) ∧ (∀ b o, b < W.heap.size → w1.frozen? ⟨b, o, none⟩ = W.frozen? ⟨b, o, none⟩) :=
  ⟨fun b o h => hb.cell (p := ⟨b, o, none⟩) h, fun b o h => hb.frozen (p := ⟨b, o, none⟩) h⟩
theorem bal {w w' : World} (h : Below w.heap.size w w') (o : Obj) : Below w.heap.size w (w'.alloc o) := h.alloc h.size o
theorem btr {w w1 w2 : World} (h : Below w.heap.size w w1) (h2 : Below w1.heap.size w1 w2) : Below w.heap.size w w2 := h.trans (h2.mono h.size)
theorem bset {w w' : World} (h : Below w.heap.size w w') {b o : Nat} (hb : w.heap.size ≤ b) (v : Value) : Below w.heap.size w (w'.setCell ⟨b, o, none⟩ v) := h.setCell hb v
theorem hid {p : Prop} (h : p) : Hid p := h
theorem cells_set {W : World} {B : Nat} {arr : Array Value} (h : ∀ o, W.cell? ⟨B, o, none⟩ = arr[o]?) (i : Nat) (hi : i < arr.size) (v : Value) :
    ∀ o, (W.setCell ⟨B, i, none⟩ v).cell? ⟨B, o, none⟩ = (arr.setIfInBounds i v)[o]? := by
  intro o
  by_cases ho : i = o
  · subst ho
    rw [World.cell?_setCell_same W _ _ ((h i).trans (Array.getElem?_eq_getElem hi))]
    simp [hi]
  · rw [World.cell?_setCell_other W _ _ _ (by intro e; cases e; exact ho rfl), h o]
    simp [ho]
theorem two_set {W : World} {B : Nat} {v0 v1 x0 x1 : Value} (h : ∀ o, W.cell? ⟨B, o, none⟩ = (#[x0, x1] : Array Value)[o]?) :
    ∀ o, ((W.setCell ⟨B, 0, none⟩ v0).setCell ⟨B, 1, none⟩ v1).cell? ⟨B, o, none⟩ = (#[v0, v1] : Array Value)[o]? :=
  cells_set (cells_set h 0 (by simp) v0) 1 (by simp) v1
theorem four_set {W : World} {B : Nat} {v0 v1 v2 v3 x0 x1 x2 x3 : Value} (h : ∀ o, W.cell? ⟨B, o, none⟩ = (#[x0, x1, x2, x3] : Array Value)[o]?) :
    ∀ o, ((((W.setCell ⟨B, 0, none⟩ v0).setCell ⟨B, 1, none⟩ v1).setCell ⟨B, 2, none⟩ v2).setCell ⟨B, 3, none⟩ v3).cell? ⟨B, o, none⟩ = (#[v0, v1, v2, v3] : Array Value)[o]? :=
  cells_set (cells_set (cells_set (cells_set h 0 (by simp) v0) 1 (by simp) v1) 2 (by simp) v2) 3 (by simp) v3
theorem cells_far {W : World} {B C i : Nat} {arr : Array Value} (h : ∀ o, W.cell? ⟨C, o, none⟩ = arr[o]?) (hne : B ≠ C) (v : Value) :
    ∀ o, (W.setCell ⟨B, i, none⟩ v).cell? ⟨C, o, none⟩ = arr[o]? := by
  intro o
  rw [World.cell?_setCell_other W _ _ _ (by intro e; cases e; exact hne rfl), h o]
theorem cells_alloc {W : World} {C : Nat} {arr : Array Value} (h : ∀ o, W.cell? ⟨C, o, none⟩ = arr[o]?) (hlt : C < W.heap.size) (ob : Obj) :
    ∀ o, (W.alloc ob).cell? ⟨C, o, none⟩ = arr[o]? := by
  intro o
  rw [World.cell?_alloc_lt _ _ ⟨C, o, none⟩ hlt, h o]
theorem froz_alloc {W : World} {C : Nat} (h : ∀ o, W.frozen? ⟨C, o, none⟩ = false) (hlt : C < W.heap.size) (ob : Obj) :
    ∀ o, (W.alloc ob).frozen? ⟨C, o, none⟩ = false := by
  intro o
  rw [World.frozen?_alloc_old _ _ ⟨C, o, none⟩ (Nat.ne_of_lt hlt), h o]
theorem cells_next {W W' : World} {C : Nat} {arr : Array Value} (h : ∀ o, W.cell? ⟨C, o, none⟩ = arr[o]?) (hlt : C < W.heap.size) (hb : Below W.heap.size W W') : ∀ o, W'.cell? ⟨C, o, none⟩ = arr[o]? :=
  fun o => (hb.cell (p := ⟨C, o, none⟩) hlt).trans (h o)
theorem cells_new (W : World) (arr : Array Value) (t : TypeId) : ∀ o, (W.alloc (.cells arr t)).cell? ⟨W.heap.size, o, none⟩ = arr[o]? := fun _ => World.cell?_alloc_at _ _ _ _ rfl
theorem cells_at (W : World) (arr : Array Value) (t : TypeId) (n : Nat) (hn : n = W.heap.size) : ∀ o, (W.alloc (.cells arr t)).cell? ⟨n, o, none⟩ = arr[o]? := fun _ => World.cell?_alloc_at _ _ _ _ hn
end Go.Proofs.YtfpkbfhaipgibaaDoor.Mem
