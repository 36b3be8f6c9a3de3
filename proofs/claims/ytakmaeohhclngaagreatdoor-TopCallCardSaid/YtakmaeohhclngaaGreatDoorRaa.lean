/- Small laws on worlds: cells behind stores, new blocks and calls. · Numbers in memory; keyholdref.Pick, walked. · Worlds in which all that lay there is as it was, but for some blocks. · keyholdlaw.words, keyholdref.Blank and keyholdref.Same, walked. · A region that draws its order, whose first operations only make new memory: whatever order they come in, each leaves a value of which its own condition holds, in a world that has grown; and what the operations of F leave lies apart. -/
import Derived.WalkKit
import Derived.OrdersHeld
import Derived.WalkSpells
import Derived.WalkLawsBesides
import Derived.Test.YtakmaeohhclngaaGreatDoorChecked
import Derived.Below
import Derived.Deep.QuietTactic
import Derived.BigQuiet
import Derived.OwnWalk
import Derived.Laws.OwnMore
import Derived.Deep.RegionHeld3
namespace Go.Proofs.YtakmaeohhclngaaGreatDoor.Mem
open Go.RowKit
theorem jD {α : Type} (l : List α) (i : Nat) (a : α) : l.toArray.setIfInBounds i a = (l.set i a).toArray := List.setIfInBounds_toArray ..
theorem jE {α : Type} (a b : α) (t : List α) : (a :: t).set 0 b = b :: t := rfl
theorem jF {α : Type} (a b : α) (t : List α) (n : Nat) : (a :: t).set (n + 1) b = a :: t.set n b := rfl
/-- What the walks of regions simplify by, as one. -/
theorem jj : (∀ (a : Act) (d : Tmp) (v : Value), a.put (some d) v = { a with tmps := a.tmps.setIfInBounds d v }) ∧ (∀ (a : Act) (v : Value), a.put none v = a) ∧
  (∀ {α : Type} {xs : List α} {i : Nat} (h : i < xs.toArray.size), xs.toArray[i] = xs[i]'(by simpa using h)) ∧
  (∀ {α : Type} (a : α) (t : List α) (i : Nat) (h : i + 1 < (a :: t).length), getElem (a :: t) (i + 1) h = getElem t i (Nat.lt_of_succ_lt_succ h)) ∧
  (∀ {α : Type} (a : α) (t : List α) (h : 0 < (a :: t).length), getElem (a :: t) 0 h = a) ∧
  (∀ {α : Type} (l : List α) (i : Nat) (a : α), l.toArray.setIfInBounds i a = (l.set i a).toArray) ∧
  (∀ {α : Type} (a b : α) (t : List α), (a :: t).set 0 b = b :: t) ∧ (∀ {α : Type} (a b : α) (t : List α) (n : Nat), (a :: t).set (n + 1) b = a :: t.set n b) :=
 ⟨fun _ _ _ => rfl, fun _ _ => rfl, fun h => List.getElem_toArray h, fun _ _ _ _ => rfl, fun _ _ _ => rfl, fun _ _ _ => List.setIfInBounds_toArray .., fun _ _ _ => rfl, fun _ _ _ _ => rfl⟩
section
variable {P : Program} {ops : Array Oper} {Q : Exit → Act → World → Prop} {md : Region.Mode} {S : World → Prop}
/-- wpAnyH_take, with what it asks of closed things found by itself. -/
theorem tg (i : Nat) (v : Value) {oi : Oper} {fuel : Nat} {listed : Array Bool} {a : Act} {w : World} (hi : ops[i]? = some oi) (hy : YieldsIf P ops S oi v a) (hS : S w)
  (h : wpAnyH P md ops Q S fuel (listed.setIfInBounds i true) (a.put oi.dst v) w) (hs : Region.noSelect ops = true := by kernel_rfl) (hf : Region.free md ops listed i = true := by kernel_rfl)
  (hr : (Region.ready md ops listed).contains i = true := by kernel_rfl) (hQ : ∀ c a w, Q (.panic c) (a.put oi.dst v) w → Q (.panic c) a w := by exact fun _ _ _ h => h) : wpAnyH P md ops Q S (fuel + 1) listed a w :=
 wpAnyH_take hi hs hf hr hQ hy hS h
/-- Of an operation that no world matters to. -/
theorem tk (i : Nat) (v : Value) {oi : Oper} {fuel : Nat} {listed : Array Bool} {a : Act} {w : World} (hi : ops[i]? = some oi) (hS : S w)
  (h : wpAnyH P md ops Q S fuel (listed.setIfInBounds i true) (a.put oi.dst v) w) (hy : YieldsIf P ops S oi v a := by exact Or.inl ⟨by rfl, fun W h => by clear h; go_simp⟩) (hs : Region.noSelect ops = true := by kernel_rfl)
  (hf : Region.free md ops listed i = true := by kernel_rfl) (hr : (Region.ready md ops listed).contains i = true := by kernel_rfl)
  (hQ : ∀ c a w, Q (.panic c) (a.put oi.dst v) w → Q (.panic c) a w := by exact fun _ _ _ h => h) : wpAnyH P md ops Q S (fuel + 1) listed a w :=
 wpAnyH_take hi hs hf hr hQ hy hS h
/-- Of an operation that is not done. -/
theorem tn (i : Nat) (v : Value) {oi : Oper} {fuel : Nat} {listed : Array Bool} {a : Act} {w : World} (hi : ops[i]? = some oi) (hS : S w)
  (h : wpAnyH P md ops Q S fuel (listed.setIfInBounds i true) (a.put oi.dst v) w) (hy : YieldsIf P ops S oi v a := by exact Or.inr ⟨by rfl, rfl⟩) (hs : Region.noSelect ops = true := by kernel_rfl)
  (hf : Region.free md ops listed i = true := by kernel_rfl) (hr : (Region.ready md ops listed).contains i = true := by kernel_rfl)
  (hQ : ∀ c a w, Q (.panic c) (a.put oi.dst v) w → Q (.panic c) a w := by exact fun _ _ _ h => h) : wpAnyH P md ops Q S (fuel + 1) listed a w :=
 wpAnyH_take hi hs hf hr hQ hy hS h
end
theorem ret_bool {a b : Bool} (h : a = b) : Ending.returned (.bool a) = .returned (.bool b) := by rw [h]
theorem ret_int {k : IntKind} {a b : Int} (h : a = b) : Ending.returned (.int k a) = .returned (.int k b) := by rw [h]
theorem bcell {W w1 : World} (hb : Below W.heap.size W w1) : (∀ b o, b < W.heap.size → w1.cell? ⟨b, o, none⟩ = W.cell? ⟨b, o, none⟩) ∧ (∀ b o, b < W.heap.size → w1.frozen? ⟨b, o, none⟩ = W.frozen? ⟨b, o, none⟩) :=
 ⟨fun b o h => hb.cell (p := ⟨b, o, none⟩) h, fun b o h => hb.frozen (p := ⟨b, o, none⟩) h⟩
theorem bal {w w' : World} (h : Below w.heap.size w w') (o : Obj) : Below w.heap.size w (w'.alloc o) := h.alloc h.size o
theorem btr {w w1 w2 : World} (h : Below w.heap.size w w1) (h2 : Below w1.heap.size w1 w2) : Below w.heap.size w w2 := h.trans (h2.mono h.size)
theorem bset {w w' : World} (h : Below w.heap.size w w') {b o : Nat} (hb : w.heap.size ≤ b) (v : Value) : Below w.heap.size w (w'.setCell ⟨b, o, none⟩ v) := h.setCell hb v
theorem hid {p : Prop} (h : p) : Hid p := h
theorem cells_set {W : World} {B : Nat} {arr : Array Value} (h : ∀ o, W.cell? ⟨B, o, none⟩ = arr[o]?) (i : Nat) (hi : i < arr.size) (v : Value) :
  ∀ o, (W.setCell ⟨B, i, none⟩ v).cell? ⟨B, o, none⟩ = (arr.setIfInBounds i v)[o]? := by
 intro o
 by_cases ho : i = o
 ·subst ho
  rw [World.cell?_setCell_same W _ _ ((h i).trans (Array.getElem?_eq_getElem hi))]
  simp [hi]
 ·rw [World.cell?_setCell_other W _ _ _ (by intro e; cases e; exact ho rfl), h o]
  simp [ho]
theorem four_set {W : World} {B : Nat} {v0 v1 v2 v3 x0 x1 x2 x3 : Value} (h : ∀ o, W.cell? ⟨B, o, none⟩ = (#[x0, x1, x2, x3] : Array Value)[o]?) :
  ∀ o, ((((W.setCell ⟨B, 0, none⟩ v0).setCell ⟨B, 1, none⟩ v1).setCell ⟨B, 2, none⟩ v2).setCell ⟨B, 3, none⟩ v3).cell? ⟨B, o, none⟩ = (#[v0, v1, v2, v3] : Array Value)[o]? :=
 cells_set (cells_set (cells_set (cells_set h 0 (by simp) v0) 1 (by simp) v1) 2 (by simp) v2) 3 (by simp) v3
theorem cells_alloc {W : World} {C : Nat} {arr : Array Value} (h : ∀ o, W.cell? ⟨C, o, none⟩ = arr[o]?) (hlt : C < W.heap.size) (ob : Obj) :
  ∀ o, (W.alloc ob).cell? ⟨C, o, none⟩ = arr[o]? := by
 intro o
 rw [World.cell?_alloc_lt _ _ ⟨C, o, none⟩ hlt, h o]
theorem cells_next {W W' : World} {C : Nat} {arr : Array Value} (h : ∀ o, W.cell? ⟨C, o, none⟩ = arr[o]?) (hlt : C < W.heap.size) (hb : Below W.heap.size W W') : ∀ o, W'.cell? ⟨C, o, none⟩ = arr[o]? :=
 fun o => (hb.cell (p := ⟨C, o, none⟩) hlt).trans (h o)
theorem cells_new (W : World) (arr : Array Value) (t : TypeId) : ∀ o, (W.alloc (.cells arr t)).cell? ⟨W.heap.size, o, none⟩ = arr[o]? := fun _ => World.cell?_alloc_at _ _ _ _ rfl
theorem cells_at (W : World) (arr : Array Value) (t : TypeId) (n : Nat) (hn : n = W.heap.size) : ∀ o, (W.alloc (.cells arr t)).cell? ⟨n, o, none⟩ = arr[o]? := fun _ => World.cell?_alloc_at _ _ _ _ hn
end Go.Proofs.YtakmaeohhclngaaGreatDoor.Mem
namespace Go.Proofs.YtakmaeohhclngaaGreatDoor.Nums
open Go.RowKit Go.Proofs.YtakmaeohhclngaaGreatDoor.Mem
/-- Numbers in memory. -/
def IntsAt (w : World) (b off : Nat) (zs : List Int) : Prop := ∀ j (h : j < zs.length), w.cell? ⟨b, off + j, none⟩ = some (.int .i64 zs[j])
theorem IntsAt.below {w w' : World} {b off : Nat} {zs : List Int} (h : IntsAt w b off zs) (hb : Below w.heap.size w w') : IntsAt w' b off zs :=
 fun j hj => (hb.cell (World.block_lt_of_cell? _ _ (h j hj))).trans (h j hj)
theorem IntsAt.far {w : World} {b off B i : Nat} {zs : List Int} (h : IntsAt w b off zs) (hne : B ≠ b) (v : Value) : IntsAt (w.setCell ⟨B, i, none⟩ v) b off zs := fun j hj => by
 rw [World.cell?_setCell_other w _ _ _ (by intro e; cases e; exact hne rfl)]
 exact h j hj
theorem IntsAt.set {w : World} {b k : Nat} {zs : List Int} (h : IntsAt w b 0 zs) (hk : k < zs.length) (x : Int) : IntsAt (w.setCell ⟨b, k, none⟩ (.int .i64 x)) b 0 (zs.set k x) := fun j hj => by
 rw [List.length_set] at hj
 by_cases e : k = j
 ·subst e
  have := h k hk
  rw [Nat.zero_add] at this ⊢
  rw [World.cell?_setCell_same w _ _ this]
  simp
 ·rw [World.cell?_setCell_other w _ _ _ (by intro h; cases h; omega), h j hj]
  rw [List.getElem_set_ne e]
theorem below_drew (w : World) (n : Nat) : Below w.heap.size w (w.drewN n) := ⟨rfl, rfl, rfl, Nat.le_refl _, fun _ _ => rfl⟩
/-- A list of numbers as a slice: a row of the call's own, or nil. -/
def Row1 (w : World) (v : Value) (zs : List Int) : Prop := ∃ p cap, v = .slice p zs.length cap ∧ (0 < zs.length → ∃ b, p = some ⟨b, 0, none⟩ ∧ IntsAt w b 0 zs)
theorem Row1.below {w w' : World} {v : Value} {zs : List Int} (h : Row1 w v zs) (hb : Below w.heap.size w w') : Row1 w' v zs := by
 obtain ⟨p, cap, h1, h2⟩ := h
 exact ⟨p, cap, h1, fun hl => let ⟨b, h3, h4⟩ := h2 hl; ⟨b, h3, h4.below hb⟩⟩
end Go.Proofs.YtakmaeohhclngaaGreatDoor.Nums
namespace Go.Proofs.YtakmaeohhclngaaGreatDoor.Mem
open Go.RowKit
/-- All blocks that lay in w are as they were, but for those of which T speaks. -/
structure Kp (T : Nat → Prop) (w w' : World) : Prop where
 os : w'.os = w.os
 tape : w'.tape = w.tape
 output : w'.output = w.output
 size : w.heap.size ≤ w'.heap.size
 block : ∀ k, k < w.heap.size → ¬ T k → w'.heap[k]? = w.heap[k]?
theorem Kp.refl (T : Nat → Prop) (w : World) : Kp T w w := ⟨rfl, rfl, rfl, Nat.le_refl _, fun _ _ _ => rfl⟩
theorem Kp.trans {T : Nat → Prop} {a b c : World} (h : Kp T a b) (k : Kp T b c) : Kp T a c :=
 ⟨k.os.trans h.os, k.tape.trans h.tape, k.output.trans h.output, Nat.le_trans h.size k.size, fun i hi ht => (k.block i (Nat.lt_of_lt_of_le hi h.size) ht).trans (h.block i hi ht)⟩
theorem Kp.of_below {T : Nat → Prop} {w w' : World} (h : Below w.heap.size w w') : Kp T w w' := ⟨h.os, h.tape, h.output, h.size, fun k hk _ => h.block k hk⟩
theorem Kp.wider {T U : Nat → Prop} {w w' : World} (h : Kp T w w') (hu : ∀ k, k < w.heap.size → T k → U k) : Kp U w w' := ⟨h.os, h.tape, h.output, h.size, fun k hk hn => h.block k hk fun ht => hn (hu k hk ht)⟩
theorem Kp.cell {T : Nat → Prop} {w w' : World} (h : Kp T w w') {p : Addr} (hp : p.block < w.heap.size) (hn : ¬ T p.block) : w'.cell? p = w.cell? p := World.cell?_of_block (w := w) (h.block p.block hp hn)
theorem Kp.frozen {T : Nat → Prop} {w w' : World} (h : Kp T w w') {p : Addr} (hp : p.block < w.heap.size) (hn : ¬ T p.block) : w'.frozen? p = w.frozen? p := World.frozen?_of_block (w := w) (h.block p.block hp hn)
theorem Kp.below {T : Nat → Prop} {w w' : World} (h : Kp T w w') {B : Nat} {a : World} (hb : Below B a w) (hB : B ≤ w.heap.size) (ht : ∀ k, k < B → ¬ T k) : Below B a w' :=
 ⟨h.os.trans hb.os, h.tape.trans hb.tape, h.output.trans hb.output, Nat.le_trans hb.size h.size, fun k hk => (h.block k (Nat.lt_of_lt_of_le hk hB) (ht k hk)).trans (hb.block k hk)⟩
theorem Kp.all {w w' : World} (h : Kp (fun _ => False) w w') : Below w.heap.size w w' := ⟨h.os, h.tape, h.output, h.size, fun k hk => h.block k hk id⟩
theorem Kp.alloc {T : Nat → Prop} {w w' : World} (h : Kp T w w') (o : Obj) : Kp T w (w'.alloc o) := h.trans (.of_below (bal (Below.refl _ _) o))
theorem Kp.setCell {T : Nat → Prop} {w w' : World} (h : Kp T w w') {b o : Nat} (hb : T b ∨ w.heap.size ≤ b) (v : Value) : Kp T w (w'.setCell ⟨b, o, none⟩ v) :=
 ⟨h.os, h.tape, h.output, by simp [World.setCell]; exact h.size, fun k hk hn => (Below.heap_setCell w' ⟨b, o, none⟩ v k (by intro e; simp at e; subst e; rcases hb with hb | hb; exact hn hb; omega)).trans (h.block k hk hn)⟩
theorem Kp.drew {T : Nat → Prop} {w w' : World} (h : Kp T w w') (n : Nat) : Kp T w (w'.drewN n) := h.trans (.of_below ⟨rfl, rfl, rfl, Nat.le_refl _, fun _ _ => rfl⟩)
theorem Kp.cells {T : Nat → Prop} {W W' : World} {C : Nat} {arr : Array Value} (hb : Kp T W W') (h : ∀ o, W.cell? ⟨C, o, none⟩ = arr[o]?) (hlt : C < W.heap.size) (hn : ¬ T C) : ∀ o, W'.cell? ⟨C, o, none⟩ = arr[o]? :=
 fun o => (hb.cell (p := ⟨C, o, none⟩) hlt hn).trans (h o)
end Go.Proofs.YtakmaeohhclngaaGreatDoor.Mem
namespace Go.Proofs.YtakmaeohhclngaaGreatDoor.Nums
open Go.RowKit Go.Proofs.YtakmaeohhclngaaGreatDoor.Mem
theorem info_get {P : Program} {t : TypeId} {z : Value} {s b : Nat} (h : (P.info? t).map (fun i => (i.zero, i.size, i.bytes)) = some (some z, s, b)) : ∃ i0, P.info? t = some i0 ∧ i0.zero = some z ∧ i0.size = s ∧ i0.bytes = b := by
 cases hi : P.info? t with
 | none => rw [hi] at h; cases h
 | some i0 =>
  rw [hi] at h
  simp at h
  exact ⟨i0, rfl, h.1, h.2.1, h.2.2⟩
theorem infoI : (Tryz.prog.info? 3).map (fun i => (i.zero, i.size, i.bytes)) = some (some (.int .i64 0), 1, 8) := by kernel_rfl
theorem int1 (a : Int) : ∀ x ∈ [Value.int .i64 a], x.oneCell' = true := by
 intro x hx
 simp at hx
 subst hx
 rfl
theorem own_below {w w' : World} {B e size n : Nat} {v : Value} {xs : List Value} (h : w.ownsRow B e size v n xs) (hb : Below w.heap.size w w') : w'.ownsRow B e size v n xs := by
 refine ⟨h.1, ?_⟩
 rcases h.2 with h2 | ⟨g, cap, cur, h1, h2, h3, h4⟩
 ·exact .inl h2
 ·have hl : g < w.heap.size := by
   by_cases hl : g < w.heap.size
   ·exact hl
   ·rw [Array.getElem?_eq_none (by omega)] at h3; cases h3
  exact .inr ⟨g, cap, cur, h1, h2, (hb.block g hl).trans h3, h4⟩
def ints (l : List Int) : List Value := l.map (.int .i64)
/-- A slice of numbers that was handed in. -/
def RawIn (w : World) (v : Value) (zs : List Int) : Prop := ∃ q b off cap, v = .slice q zs.length cap ∧ (0 < zs.length → q = some ⟨b, off, none⟩) ∧ IntsAt w b off zs ∧ ∀ z ∈ zs, -9223372036854775808 ≤ z ∧ z ≤ 9223372036854775807
theorem RawIn.below {w w' : World} {v : Value} {zs : List Int} (h : RawIn w v zs) (hb : Below w.heap.size w w') : RawIn w' v zs := by
 obtain ⟨q, b, off, cap, h1, h2, h3, h4⟩ := h
 exact ⟨q, b, off, cap, h1, h2, h3.below hb, h4⟩
end Go.Proofs.YtakmaeohhclngaaGreatDoor.Nums
namespace Go.Proofs.YtakmaeohhclngaaGreatDoor.Hd2
open Go.RowKit Go.Proofs.YtakmaeohhclngaaGreatDoor.Mem
/-- The first n1 operations have no guard, hang on earlier ones alone, and leave their values in slots of their own, below N; each later one waits for all of them. -/
def headOk (md : Region.Mode) (ops : Array Oper) (n1 N : Nat) : Bool :=
 decide (n1 ≤ ops.size) && (List.range ops.size).all fun i => match ops[i]? with
  | none => true
  | some o => if i < n1 then o.guard.isNone && o.after.all (fun e => decide (e.on < i)) && (match o.dst with | none => false | some d => decide (d < N) && (List.range i).all fun j => (ops[j]?).bind (·.dst) != some d)
   else (List.range n1).all fun j => o.after.any fun e => Region.binds md e && e.on == j
/-- How many of the first n are not listed. -/
def left (listed : Array Bool) : Nat → Nat
 | 0 => 0
 | n + 1 => left listed n + (if listed.getD n false = true then 0 else 1)
theorem getD_set {l : Array Bool} {i j : Nat} (hi : i < l.size) : (l.setIfInBounds i true).getD j false = if j = i then true else l.getD j false := by
 simp only [Array.getD_eq_getD_getElem?, Array.getElem?_setIfInBounds]
 by_cases h : i = j
 ·subst h; simp [hi]
 ·have : ¬ j = i := fun e => h e.symm
  simp [h, this]
theorem left_above {l : Array Bool} {i : Nat} (hi : i < l.size) : ∀ n, n ≤ i → left (l.setIfInBounds i true) n = left l n
 | 0, _ => rfl
 | n + 1, h => by
  have e : ¬ n = i := by omega
  simp only [left]
  rw [left_above hi n (by omega), getD_set hi, if_neg e]
theorem left_set {l : Array Bool} {i : Nat} (hi : i < l.size) (hf : l.getD i false = false) : ∀ n, i < n → left (l.setIfInBounds i true) n + 1 = left l n
 | 0, h => by omega
 | n + 1, h => by
  simp only [left]
  rw [getD_set hi]
  by_cases e : n = i
  ·subst e
   rw [left_above hi n (Nat.le_refl _), if_pos rfl, hf]
   simp
  ·rw [if_neg e]
   have := left_set hi hf n (by omega)
   omega
theorem left_zero {l : Array Bool} : ∀ n, left l n = 0 → ∀ j, j < n → l.getD j false = true
 | 0, _, j, hj => by omega
 | n + 1, h, j, hj => by
  simp only [left] at h
  by_cases e : j = n
  ·subst e
   by_cases hl : l.getD j false = true
   ·exact hl
   ·rw [if_neg hl] at h; omega
  ·exact left_zero n (by omega) j (by omega)
theorem left_first {l : Array Bool} : ∀ n, left l n ≠ 0 → ∃ j, j < n ∧ l.getD j false = false ∧ ∀ k, k < j → l.getD k false = true
 | 0, h => absurd rfl h
 | n + 1, h => by
  by_cases h0 : left l n = 0
  ·refine ⟨n, by omega, ?_, left_zero n h0⟩
   simp only [left, h0] at h
   by_cases hl : l.getD n false = true
   ·rw [if_pos hl] at h; exact absurd rfl h
   ·simpa using hl
  ·obtain ⟨j, h1, h2, h3⟩ := left_first n h0
   exact ⟨j, by omega, h2, h3⟩
/-- Where the first operations have come to. -/
structure Hd (ops : Array Oper) (n1 : Nat) (F : Nat → Bool) (R : Nat → Value → World → Prop) (w0 : World) (a0 : Act) (listed : Array Bool) (a : Act) (w : World) : Prop where
 sz : listed.size = ops.size
 tail : ∀ i, n1 ≤ i → listed.getD i false = false
 bel : Below w0.heap.size w0 w
 df : a.defers = a0.defers
 ts : a.tmps.size = a0.tmps.size
 got : ∀ i o d, ops[i]? = some o → o.dst = some d → listed.getD i false = true → R i (a.tmps.getD d undef) w
 old : ∀ s, (∀ i o, i < n1 → ops[i]? = some o → o.dst ≠ some s) → a.tmps.getD s undef = a0.tmps.getD s undef
 dj : ∀ i j o o' d d', ops[i]? = some o → o.dst = some d → ops[j]? = some o' → o'.dst = some d' → listed.getD i false = true → listed.getD j false = true → F i = true → F j = true → i ≠ j → ∀ k, (a.tmps.getD d undef).ownBlock = some k → (a.tmps.getD d' undef).ownBlock ≠ some k
theorem all_range {n : Nat} {p : Nat → Bool} (h : (List.range n).all p = true) {i : Nat} (hi : i < n) : p i = true := List.all_eq_true.1 h i (List.mem_range.2 hi)
theorem Hd.oldB {ops : Array Oper} {n1 : Nat} {F : Nat → Bool} {R : Nat → Value → World → Prop} {w0 : World} {a0 : Act} {listed : Array Bool} {a : Act} {w : World} (h : Hd ops n1 F R w0 a0 listed a w) (s : Nat) (hs : ((List.range n1).all fun i => (ops[i]?).bind (·.dst) != some s) = true) : a.eval (.tmp s) = a0.eval (.tmp s) :=
 h.old s fun i o hi ho e => by
  have := all_range hs hi
  rw [ho] at this
  simp [e] at this
theorem Hd.gotB {ops : Array Oper} {n1 : Nat} {F : Nat → Bool} {R : Nat → Value → World → Prop} {w0 : World} {a0 : Act} {listed : Array Bool} {a : Act} {w : World} (h : Hd ops n1 F R w0 a0 listed a w) (i d : Nat) (hs : (ops[i]?).bind (·.dst) = some d) (hl : listed.getD i false = true) : R i (a.eval (.tmp d)) w := by
 cases ho : ops[i]? with
 | none => rw [ho] at hs; cases hs
 | some o => rw [ho] at hs; exact h.got i o d ho hs hl
section
variable {P : Program} {md : Region.Mode} {ops : Array Oper} {Q : Exit → Act → World → Prop} {n1 N : Nat} {F : Nat → Bool} {R : Nat → Value → World → Prop} {w0 : World} {a0 : Act}
theorem headOk_at (h : headOk md ops n1 N = true) {i : Nat} {o : Oper} (ho : ops[i]? = some o) :
  (i < n1 → o.guard = none ∧ (∀ e ∈ o.after, e.on < i) ∧ ∃ d, o.dst = some d ∧ d < N ∧ ∀ j o', j < i → ops[j]? = some o' → o'.dst ≠ some d) ∧
  (n1 ≤ i → ∀ j, j < n1 → ∃ e ∈ o.after, Region.binds md e = true ∧ e.on = j) := by
 unfold headOk at h
 rw [Bool.and_eq_true] at h
 have hi : i < ops.size := (Array.getElem?_eq_some_iff.1 ho).1
 have := all_range h.2 hi
 rw [ho] at this
 simp only at this
 constructor
 ·intro hlt
  rw [if_pos hlt] at this
  simp only [Bool.and_eq_true, Option.isNone_iff_eq_none, Array.all_eq_true'] at this
  obtain ⟨⟨h1, h2⟩, h3⟩ := this
  refine ⟨h1, fun e he => by simpa using h2 e he, ?_⟩
  cases hd : o.dst with
  | none => rw [hd] at h3; simp at h3
  | some d =>
   rw [hd] at h3
   simp only [Bool.and_eq_true, decide_eq_true_eq] at h3
   refine ⟨d, rfl, h3.1, fun j o' hj ho' e => ?_⟩
   have := all_range h3.2 hj
   rw [ho'] at this
   simp [e] at this
 ·intro hge j hj
  rw [if_neg (by omega)] at this
  have := all_range this hj
  rw [Array.any_eq_true'] at this
  obtain ⟨e, he, h4⟩ := this
  rw [Bool.and_eq_true] at h4
  exact ⟨e, he, h4.1, by simpa using h4.2⟩
theorem ready_mem {listed : Array Bool} {i : Nat} (h : i ∈ Region.ready md ops listed) : ∃ o, ops[i]? = some o ∧ i < ops.size ∧ listed.getD i true = false ∧ ∀ e ∈ o.after, Region.binds md e = true → listed.getD e.on false = true := by
 unfold Region.ready at h
 obtain ⟨h1, h2⟩ := List.mem_filter.1 h
 have hi := List.mem_range.1 h1
 rw [Bool.and_eq_true] at h2
 obtain ⟨h3, h4⟩ := h2
 have ho : ops[i]? = some ops[i] := Array.getElem?_eq_getElem hi
 rw [ho] at h4
 simp only [Option.map_some, Option.getD_some, Array.all_eq_true'] at h4
 refine ⟨ops[i], ho, hi, by simpa using h3, fun e he hb => ?_⟩
 have := h4 e he
 simpa [hb] using this
theorem mem_ready {listed : Array Bool} {i : Nat} {o : Oper} (ho : ops[i]? = some o) (hl : listed.getD i true = false) (hd : ∀ e ∈ o.after, listed.getD e.on false = true) : i ∈ Region.ready md ops listed := by
 unfold Region.ready
 refine List.mem_filter.2 ⟨List.mem_range.2 (Array.getElem?_eq_some_iff.1 ho).1, ?_⟩
 rw [ho, hl]
 simp only [Bool.not_false, Bool.true_and, Option.map_some, Option.getD_some, Array.all_eq_true']
 intro e he
 simp [hd e he]
theorem getD_tf {l : Array Bool} {i : Nat} (h : i < l.size) : l.getD i true = l.getD i false := by
 simp [Array.getD_eq_getD_getElem?, h]
theorem wpAny_head (hok : headOk md ops n1 N = true) (hN : N ≤ a0.tmps.size) (E : Array Bool) (hE : E.size = ops.size) (hEi : ∀ i, i < ops.size → E.getD i false = decide (i < n1))
  (hmono : ∀ i v w w', Below w.heap.size w w' → R i v w → R i v w') (hlt : ∀ i v w, F i = true → R i v w → ∀ k, v.ownBlock = some k → k < w.heap.size)
  (hstep : ∀ i o, i < n1 → ops[i]? = some o → ∀ listed a w, Hd ops n1 F R w0 a0 listed a w → (∀ e ∈ o.after, Region.binds md e = true → listed.getD e.on false = true) → o.wp P a w (fun a' w' => ∃ v, a' = a.put o.dst v ∧ R i v w' ∧ Below w.heap.size w w' ∧ (F i = true → ∀ k, v.ownBlock = some k → w.heap.size ≤ k)) Q)
  (hend : ∀ a w, Hd ops n1 F R w0 a0 E a w → wpAny P md ops Q (ops.size - n1) E a w) :
  ∀ k listed a w, left listed n1 = k → Hd ops n1 F R w0 a0 listed a w → wpAny P md ops Q (k + (ops.size - n1)) listed a w := by
 have hn1 : n1 ≤ ops.size := by
  unfold headOk at hok
  rw [Bool.and_eq_true] at hok
  simpa using hok.1
 intro k
 induction k with
 | zero =>
  intro listed a w hk h
  have he : listed = E := by
   apply Array.ext
   ·rw [h.sz, hE]
   ·intro i h1 h2
    have e1 : listed.getD i false = listed[i] := by simp [Array.getD_eq_getD_getElem?, h1]
    have e2 : E.getD i false = E[i] := by simp [Array.getD_eq_getD_getElem?, h2]
    rw [← e1, ← e2, hEi i (by omega)]
    by_cases hi : i < n1
    ·rw [left_zero n1 hk i hi, decide_eq_true hi]
    ·rw [h.tail i (by omega), decide_eq_false hi]
  subst he
  rw [Nat.zero_add]
  exact hend a w h
 | succ k ih =>
  intro listed a w hk h
  rw [show k + 1 + (ops.size - n1) = (k + (ops.size - n1)) + 1 by omega]
  obtain ⟨j, j1, j2, j3⟩ := left_first (l := listed) n1 (by omega)
  have hj : j < ops.size := by omega
  have hjr : j ∈ Region.ready md ops listed := by
   have ho : ops[j]? = some ops[j] := Array.getElem?_eq_getElem hj
   refine mem_ready ho (by rw [getD_tf (by rw [h.sz]; exact hj)]; exact j2) fun e he => ?_
   exact j3 _ (((headOk_at hok ho).1 j1).2.1 e he)
  refine ⟨fun hr => by rw [hr] at hjr; simp at hjr, fun i hi => ?_⟩
  obtain ⟨o, ho, hi2, hl, hd⟩ := ready_mem hi
  rw [getD_tf (by rw [h.sz]; exact hi2)] at hl
  have hin : i < n1 := by
   rcases Nat.lt_or_ge i n1 with h1 | h1
   ·exact h1
   ·obtain ⟨e, he, hb, hon⟩ := (headOk_at hok ho).2 h1 j j1
    have := hd e he hb
    rw [hon, j2] at this
    cases this
  obtain ⟨hg, _, d, hdst, hdN, hdj⟩ := (headOk_at hok ho).1 hin
  unfold wpOp
  rw [ho]
  simp only
  rw [if_pos (by unfold Region.wanted; rw [hg])]
  refine Or.inl (Oper.wp_mono (fun a' w' hv => ?_) (hstep i o hin ho listed a w h hd))
  obtain ⟨v, rfl, hR, hb, hfr⟩ := hv
  refine ih (listed.setIfInBounds i true) (a.put o.dst v) w' (by have := left_set (by rw [h.sz]; exact hi2) hl n1 hin; omega) ?_
  have hda : d < a.tmps.size := by
   rw [h.ts]
   exact Nat.lt_of_lt_of_le hdN hN
  have hput : ∀ s, (a.put o.dst v).tmps.getD s undef = if s = d then v else a.tmps.getD s undef := by
   intro s
   rw [hdst]
   simp only [Act.put, Array.getD_eq_getD_getElem?, Array.getElem?_setIfInBounds]
   by_cases e : d = s
   ·subst e; simp [hda]
   ·have : ¬ s = d := fun x => e x.symm
    simp [e, this]
  refine ⟨by rw [Array.size_setIfInBounds]; exact h.sz, fun i' hi' => ?_, h.bel.trans (hb.mono h.bel.size), by rw [hdst]; exact h.df, by rw [hdst]; simp only [Act.put, Array.size_setIfInBounds]; exact h.ts, fun i' o' d' ho' hd' hl' => ?_, fun s hs => ?_, fun i1 j1' o1 o2 d1 d2 ho1 hd1 ho2 hd2 hl1 hl2 hf1 hf2 hne k hk1 hk2 => ?_⟩
  ·rw [getD_set (by rw [h.sz]; exact hi2), if_neg (by omega)]
   exact h.tail i' hi'
  ·rw [getD_set (by rw [h.sz]; exact hi2)] at hl'
   by_cases e : i' = i
   ·subst e
    obtain rfl := Option.some.inj (ho.symm.trans ho')
    obtain rfl := Option.some.inj (hdst.symm.trans hd')
    rw [hput, if_pos rfl]
    exact hR
   ·rw [if_neg e] at hl'
    have hi'n : i' < n1 := by
     rcases Nat.lt_or_ge i' n1 with h1 | h1
     ·exact h1
     ·rw [h.tail i' h1] at hl'; cases hl'
    have hne : ¬ d' = d := by
     rintro rfl
     rcases Nat.lt_or_gt_of_ne e with h1 | h1
     ·exact hdj i' o' h1 ho' hd'
     ·obtain ⟨_, _, d2, hd2, _, hx⟩ := (headOk_at hok ho').1 hi'n
      obtain rfl := Option.some.inj (hd'.symm.trans hd2)
      exact hx i o h1 ho hdst
    rw [hput, if_neg hne]
    exact hmono _ _ _ _ hb (h.got i' o' d' ho' hd' hl')
  ·have hne : ¬ s = d := by
    rintro rfl
    exact hs i o hin ho hdst
   rw [hput, if_neg hne]
   exact h.old s hs
  ·rw [getD_set (by rw [h.sz]; exact hi2)] at hl1 hl2
   have far : ∀ x ox dx, ops[x]? = some ox → ox.dst = some dx → (if x = i then true else listed.getD x false) = true → x ≠ i → listed.getD x false = true ∧ ¬ dx = d := fun x ox dx hox hdx hlx hx => by
    rw [if_neg hx] at hlx
    have hxn : x < n1 := by
     rcases Nat.lt_or_ge x n1 with h1 | h1
     ·exact h1
     ·rw [h.tail x h1] at hlx; cases hlx
    refine ⟨hlx, ?_⟩
    rintro rfl
    rcases Nat.lt_or_gt_of_ne hx with h1 | h1
    ·exact hdj x ox h1 hox hdx
    ·obtain ⟨_, _, d3, hd3, _, hx3⟩ := (headOk_at hok hox).1 hxn
     obtain rfl := Option.some.inj (hdx.symm.trans hd3)
     exact hx3 i o h1 ho hdst
   rw [hput] at hk1 hk2
   by_cases e1 : i1 = i
   ·subst e1
    obtain rfl := Option.some.inj (ho.symm.trans ho1)
    obtain rfl := Option.some.inj (hdst.symm.trans hd1)
    rw [if_pos rfl] at hk1
    obtain ⟨hlx, hdx⟩ := far j1' o2 d2 ho2 hd2 hl2 (Ne.symm hne)
    rw [if_neg hdx] at hk2
    have := hlt j1' _ w hf2 (h.got j1' o2 d2 ho2 hd2 hlx) k hk2
    have := hfr hf1 k hk1
    omega
   ·obtain ⟨hlx, hdx⟩ := far i1 o1 d1 ho1 hd1 hl1 e1
    rw [if_neg hdx] at hk1
    by_cases e2 : j1' = i
    ·subst e2
     obtain rfl := Option.some.inj (ho.symm.trans ho2)
     obtain rfl := Option.some.inj (hdst.symm.trans hd2)
     rw [if_pos rfl] at hk2
     have := hlt i1 _ w hf1 (h.got i1 o1 d1 ho1 hd1 hlx) k hk1
     have := hfr hf2 k hk2
     omega
    ·obtain ⟨hly, hdy⟩ := far j1' o2 d2 ho2 hd2 hl2 e2
     rw [if_neg hdy] at hk2
     exact h.dj i1 j1' o1 o2 d1 d2 ho1 hd1 ho2 hd2 hlx hly hf1 hf2 hne k hk1 hk2
theorem repl_getD (n k : Nat) : (Array.replicate n false).getD k false = false := by
 rw [Array.getD_eq_getD_getElem?, Array.getElem?_replicate]
 split <;> rfl
theorem left_none (n : Nat) : ∀ k, k ≤ n → left (Array.replicate n false) k = k
 | 0, _ => rfl
 | k + 1, h => by
  simp only [left]
  rw [left_none n k (by omega), repl_getD]
  simp
/-- The region whole. -/
theorem wp_head {id : Nat} {a : Act} {w : World} (hm : P.follows .mixedOrders = true) (hok : headOk .any ops n1 N = true) (hN : N ≤ a.tmps.size) (E : Array Bool) (hE : E.size = ops.size) (hEi : ∀ i, i < ops.size → E.getD i false = decide (i < n1))
  (hmono : ∀ i v w w', Below w.heap.size w w' → R i v w → R i v w') (hlt : ∀ i v w, F i = true → R i v w → ∀ k, v.ownBlock = some k → k < w.heap.size)
  (hstep : ∀ i o, i < n1 → ops[i]? = some o → ∀ listed a' w', Hd ops n1 F R w.drew a listed a' w' → (∀ e ∈ o.after, Region.binds .any e = true → listed.getD e.on false = true) → o.wp P a' w' (fun a2 w2 => ∃ v, a2 = a'.put o.dst v ∧ R i v w2 ∧ Below w'.heap.size w' w2 ∧ (F i = true → ∀ k, v.ownBlock = some k → w'.heap.size ≤ k)) Q)
  (hend : ∀ a' w', Hd ops n1 F R w.drew a E a' w' → wpAny P .any ops Q (ops.size - n1) E a' w') : (Code.region id ops true).wp P Q a w := by
 have hn1 : n1 ≤ ops.size := by
  unfold headOk at hok
  rw [Bool.and_eq_true] at hok
  simpa using hok.1
 refine wp_region_any hm ?_
 have := wpAny_head hok hN E hE hEi hmono hlt hstep hend n1 (Array.replicate ops.size false) a w.drew (left_none ops.size n1 hn1)
  ⟨by simp, fun i _ => repl_getD _ _, Below.refl _ _, rfl, rfl, fun i o d _ _ hl => (by rw [repl_getD] at hl; cases hl), fun s _ => rfl, fun i j o o' d d' _ _ _ _ hl => (by rw [repl_getD] at hl; cases hl)⟩
 rw [show n1 + (ops.size - n1) = ops.size by omega] at this
 exact this
end
end Go.Proofs.YtakmaeohhclngaaGreatDoor.Hd2
