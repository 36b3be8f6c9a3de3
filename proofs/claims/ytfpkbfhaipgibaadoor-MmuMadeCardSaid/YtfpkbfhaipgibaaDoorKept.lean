/- Worlds in which all that lay there is as it was, but for some blocks. -/
import Derived.Test.YtfpkbfhaipgibaaDoorMem
import Derived.Below
namespace Go.Proofs.YtfpkbfhaipgibaaDoor.Mem
open Go.RowKit

/-- All blocks that lay in w are as they were, but for those of which T speaks. -/
structure Kp (T : Nat → Prop) (w w' : World) : Prop where
  os : w'.os = w.os
  tape : w'.tape = w.tape
  output : w'.output = w.output
  size : w.heap.size ≤ w'.heap.size
  block : ∀ k, k < w.heap.size → ¬ T k → w'.heap[k]? = w.heap[k]?
theorem Kp.refl (T : Nat → Prop) (w : World) : Kp T w w := ⟨rfl, rfl, rfl, Nat.le_refl _, fun _ _ _ => rfl⟩
theorem Kp.trans {T : Nat → Prop} {a b c : World} (h : Kp T a b) (k : Kp T b c) : Kp T a c :=
  ⟨k.os.trans h.os, k.tape.trans h.tape, k.output.trans h.output, Nat.le_trans h.size k.size, fun i hi ht => (k.block i (Nat.lt_of_lt_of_le hi h.size) ht).trans (h.block i hi ht)⟩
theorem Kp.of_below {T : Nat → Prop} {w w' : World} (h : Below w.heap.size w w') : Kp T w w' := ⟨h.os, h.tape, h.output, h.size, fun k hk _ => h.block k hk⟩
theorem Kp.wider {T U : Nat → Prop} {w w' : World} (h : Kp T w w') (hu : ∀ k, k < w.heap.size → T k → U k) : Kp U w w' := ⟨h.os, h.tape, h.output, h.size, fun k hk hn => h.block k hk fun ht => hn (hu k hk ht)⟩
theorem Kp.cell {T : Nat → Prop} {w w' : World} (h : Kp T w w') {p : Addr} (hp : p.block < w.heap.size) (hn : ¬ T p.block) : w'.cell? p = w.cell? p := World.cell?_of_block (w := w) (h.block p.block hp hn)
theorem Kp.frozen {T : Nat → Prop} {w w' : World} (h : Kp T w w') {p : Addr} (hp : p.block < w.heap.size) (hn : ¬ T p.block) : w'.frozen? p = w.frozen? p := World.frozen?_of_block (w := w) (h.block p.block hp hn)
theorem Kp.below {T : Nat → Prop} {w w' : World} (h : Kp T w w') {B : Nat} {a : World} (hb : Below B a w) (hB : B ≤ w.heap.size) (ht : ∀ k, k < B → ¬ T k) : Below B a w' :=
  ⟨h.os.trans hb.os, h.tape.trans hb.tape, h.output.trans hb.output, Nat.le_trans hb.size h.size, fun k hk => (h.block k (Nat.lt_of_lt_of_le hk hB) (ht k hk)).trans (hb.block k hk)⟩
theorem Kp.all {w w' : World} (h : Kp (fun _ => False) w w') : Below w.heap.size w w' := ⟨h.os, h.tape, h.output, h.size, fun k hk => h.block k hk id⟩
theorem Kp.alloc {T : Nat → Prop} {w w' : World} (h : Kp T w w') (o : Obj) : Kp T w (w'.alloc o) := h.trans (.of_below (bal (Below.refl _ _) o))
theorem Kp.setCell {T : Nat → Prop} {w w' : World} (h : Kp T w w') {b o : Nat} (hb : T b ∨ w.heap.size ≤ b) (v : Value) : Kp T w (w'.setCell ⟨b, o, none⟩ v) :=
  ⟨h.os, h.tape, h.output, by simp [World.setCell]; exact h.size, fun k hk hn => (Below.heap_setCell w' ⟨b, o, none⟩ v k (by intro e; simp at e; subst e; rcases hb with hb | hb; exact hn hb; omega)).trans (h.block k hk hn)⟩
theorem Kp.drew {T : Nat → Prop} {w w' : World} (h : Kp T w w') (n : Nat) : Kp T w (w'.drewN n) := h.trans (.of_below ⟨rfl, rfl, rfl, Nat.le_refl _, fun _ _ => rfl⟩)
theorem Kp.cells {T : Nat → Prop} {W W' : World} {C : Nat} {arr : Array Value} (hb : Kp T W W') (h : ∀ o, W.cell? ⟨C, o, none⟩ = arr[o]?) (hlt : C < W.heap.size) (hn : ¬ T C) : ∀ o, W'.cell? ⟨C, o, none⟩ = arr[o]? :=
  fun o => (hb.cell (p := ⟨C, o, none⟩) hlt hn).trans (h o)
end Go.Proofs.YtfpkbfhaipgibaaDoor.Mem
