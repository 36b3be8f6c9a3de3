/- Small laws on worlds: cells behind stores, new blocks and calls. · Numbers in memory; keyholdref.Pick, walked. · Worlds in which all that lay there is as it was, but for some blocks. · keyholdlaw.words, keyholdref.Blank and keyholdref.Same, walked. -/
import Derived.WalkKit
import Derived.OrdersHeld
import Derived.WalkSpells
import Derived.WalkLawsBesides
import Derived.Test.YtoebmjgkfkfhjaaGreatDoorChecked
import Derived.Below
import Derived.Deep.QuietTactic
import Derived.BigQuiet
import Derived.OwnWalk
import Derived.Laws.OwnMore
namespace Go.Proofs.YtoebmjgkfkfhjaaGreatDoor.Mem
open Go.RowKit
theorem jA {α : Type} {xs : List α} {i : Nat} (h : i < xs.toArray.size) : xs.toArray[i] = xs[i]'(by simpa using h) := List.getElem_toArray h
theorem jB {α : Type} (a : α) (t : List α) (i : Nat) (h : i + 1 < (a :: t).length) : getElem (a :: t) (i + 1) h = getElem t i (Nat.lt_of_succ_lt_succ h) := rfl
theorem jC {α : Type} (a : α) (t : List α) (h : 0 < (a :: t).length) : getElem (a :: t) 0 h = a := rfl
theorem jD {α : Type} (l : List α) (i : Nat) (a : α) : l.toArray.setIfInBounds i a = (l.set i a).toArray := List.setIfInBounds_toArray ..
theorem jE {α : Type} (a b : α) (t : List α) : (a :: t).set 0 b = b :: t := rfl
theorem jF {α : Type} (a b : α) (t : List α) (n : Nat) : (a :: t).set (n + 1) b = a :: t.set n b := rfl
/-- What the walks of regions simplify by, as one. -/
theorem jj : (∀ (a : Act) (d : Tmp) (v : Value), a.put (some d) v = { a with tmps := a.tmps.setIfInBounds d v }) ∧ (∀ (a : Act) (v : Value), a.put none v = a) ∧
  (∀ {α : Type} {xs : List α} {i : Nat} (h : i < xs.toArray.size), xs.toArray[i] = xs[i]'(by simpa using h)) ∧
  (∀ {α : Type} (a : α) (t : List α) (i : Nat) (h : i + 1 < (a :: t).length), getElem (a :: t) (i + 1) h = getElem t i (Nat.lt_of_succ_lt_succ h)) ∧
  (∀ {α : Type} (a : α) (t : List α) (h : 0 < (a :: t).length), getElem (a :: t) 0 h = a) ∧
  (∀ {α : Type} (l : List α) (i : Nat) (a : α), l.toArray.setIfInBounds i a = (l.set i a).toArray) ∧
  (∀ {α : Type} (a b : α) (t : List α), (a :: t).set 0 b = b :: t) ∧ (∀ {α : Type} (a b : α) (t : List α) (n : Nat), (a :: t).set (n + 1) b = a :: t.set n b) :=
 ⟨fun _ _ _ => rfl, fun _ _ => rfl, fun h => List.getElem_toArray h, fun _ _ _ _ => rfl, fun _ _ _ => rfl, fun _ _ _ => List.setIfInBounds_toArray .., fun _ _ _ => rfl, fun _ _ _ _ => rfl⟩
section
variable {P : Program} {ops : Array Oper} {Q : Exit → Act → World → Prop} {md : Region.Mode} {S : World → Prop}
/-- wpAnyH_take, with what it asks of closed things found by itself. -/
theorem tg (i : Nat) (v : Value) {oi : Oper} {fuel : Nat} {listed : Array Bool} {a : Act} {w : World} (hi : ops[i]? = some oi) (hy : YieldsIf P ops S oi v a) (hS : S w)
  (h : wpAnyH P md ops Q S fuel (listed.setIfInBounds i true) (a.put oi.dst v) w) (hs : Region.noSelect ops = true := by kernel_rfl) (hf : Region.free md ops listed i = true := by kernel_rfl)
  (hr : (Region.ready md ops listed).contains i = true := by kernel_rfl) (hQ : ∀ c a w, Q (.panic c) (a.put oi.dst v) w → Q (.panic c) a w := by exact fun _ _ _ h => h) : wpAnyH P md ops Q S (fuel + 1) listed a w :=
 wpAnyH_take hi hs hf hr hQ hy hS h
/-- Of an operation that no world matters to. -/
theorem tk (i : Nat) (v : Value) {oi : Oper} {fuel : Nat} {listed : Array Bool} {a : Act} {w : World} (hi : ops[i]? = some oi) (hS : S w)
  (h : wpAnyH P md ops Q S fuel (listed.setIfInBounds i true) (a.put oi.dst v) w) (hy : YieldsIf P ops S oi v a := by exact Or.inl ⟨by rfl, fun W h => by clear h; go_simp⟩) (hs : Region.noSelect ops = true := by kernel_rfl)
  (hf : Region.free md ops listed i = true := by kernel_rfl) (hr : (Region.ready md ops listed).contains i = true := by kernel_rfl)
  (hQ : ∀ c a w, Q (.panic c) (a.put oi.dst v) w → Q (.panic c) a w := by exact fun _ _ _ h => h) : wpAnyH P md ops Q S (fuel + 1) listed a w :=
 wpAnyH_take hi hs hf hr hQ hy hS h
/-- Of an operation that is not done. -/
theorem tn (i : Nat) (v : Value) {oi : Oper} {fuel : Nat} {listed : Array Bool} {a : Act} {w : World} (hi : ops[i]? = some oi) (hS : S w)
  (h : wpAnyH P md ops Q S fuel (listed.setIfInBounds i true) (a.put oi.dst v) w) (hy : YieldsIf P ops S oi v a := by exact Or.inr ⟨by rfl, rfl⟩) (hs : Region.noSelect ops = true := by kernel_rfl)
  (hf : Region.free md ops listed i = true := by kernel_rfl) (hr : (Region.ready md ops listed).contains i = true := by kernel_rfl)
  (hQ : ∀ c a w, Q (.panic c) (a.put oi.dst v) w → Q (.panic c) a w := by exact fun _ _ _ h => h) : wpAnyH P md ops Q S (fuel + 1) listed a w :=
 wpAnyH_take hi hs hf hr hQ hy hS h
end
theorem ret_bool {a b : Bool} (h : a = b) : Ending.returned (.bool a) = .returned (.bool b) := by rw [h]
theorem ret_int {k : IntKind} {a b : Int} (h : a = b) : Ending.returned (.int k a) = .returned (.int k b) := by rw [h]
theorem bcell {W w1 : World} (hb : Below W.heap.size W w1) : (∀ b o, b < W.heap.size → w1.cell? ⟨b, o, none⟩ = W.cell? ⟨b, o, none⟩) ∧ (∀ b o, b < W.heap.size → w1.frozen? ⟨b, o, none⟩ = W.frozen? ⟨b, o, none⟩) :=
 ⟨fun b o h => hb.cell (p := ⟨b, o, none⟩) h, fun b o h => hb.frozen (p := ⟨b, o, none⟩) h⟩
theorem bal {w w' : World} (h : Below w.heap.size w w') (o : Obj) : Below w.heap.size w (w'.alloc o) := h.alloc h.size o
theorem btr {w w1 w2 : World} (h : Below w.heap.size w w1) (h2 : Below w1.heap.size w1 w2) : Below w.heap.size w w2 := h.trans (h2.mono h.size)
theorem bset {w w' : World} (h : Below w.heap.size w w') {b o : Nat} (hb : w.heap.size ≤ b) (v : Value) : Below w.heap.size w (w'.setCell ⟨b, o, none⟩ v) := h.setCell hb v
theorem hid {p : Prop} (h : p) : Hid p := h
theorem cells_set {W : World} {B : Nat} {arr : Array Value} (h : ∀ o, W.cell? ⟨B, o, none⟩ = arr[o]?) (i : Nat) (hi : i < arr.size) (v : Value) :
  ∀ o, (W.setCell ⟨B, i, none⟩ v).cell? ⟨B, o, none⟩ = (arr.setIfInBounds i v)[o]? := by
 intro o
 by_cases ho : i = o
 ·subst ho
  rw [World.cell?_setCell_same W _ _ ((h i).trans (Array.getElem?_eq_getElem hi))]
  simp [hi]
 ·rw [World.cell?_setCell_other W _ _ _ (by intro e; cases e; exact ho rfl), h o]
  simp [ho]
theorem two_set {W : World} {B : Nat} {v0 v1 x0 x1 : Value} (h : ∀ o, W.cell? ⟨B, o, none⟩ = (#[x0, x1] : Array Value)[o]?) :
  ∀ o, ((W.setCell ⟨B, 0, none⟩ v0).setCell ⟨B, 1, none⟩ v1).cell? ⟨B, o, none⟩ = (#[v0, v1] : Array Value)[o]? :=
 cells_set (cells_set h 0 (by simp) v0) 1 (by simp) v1
theorem four_set {W : World} {B : Nat} {v0 v1 v2 v3 x0 x1 x2 x3 : Value} (h : ∀ o, W.cell? ⟨B, o, none⟩ = (#[x0, x1, x2, x3] : Array Value)[o]?) :
  ∀ o, ((((W.setCell ⟨B, 0, none⟩ v0).setCell ⟨B, 1, none⟩ v1).setCell ⟨B, 2, none⟩ v2).setCell ⟨B, 3, none⟩ v3).cell? ⟨B, o, none⟩ = (#[v0, v1, v2, v3] : Array Value)[o]? :=
 cells_set (cells_set (cells_set (cells_set h 0 (by simp) v0) 1 (by simp) v1) 2 (by simp) v2) 3 (by simp) v3
theorem cells_far {W : World} {B C i : Nat} {arr : Array Value} (h : ∀ o, W.cell? ⟨C, o, none⟩ = arr[o]?) (hne : B ≠ C) (v : Value) :
  ∀ o, (W.setCell ⟨B, i, none⟩ v).cell? ⟨C, o, none⟩ = arr[o]? := by
 intro o
 rw [World.cell?_setCell_other W _ _ _ (by intro e; cases e; exact hne rfl), h o]
theorem cells_alloc {W : World} {C : Nat} {arr : Array Value} (h : ∀ o, W.cell? ⟨C, o, none⟩ = arr[o]?) (hlt : C < W.heap.size) (ob : Obj) :
  ∀ o, (W.alloc ob).cell? ⟨C, o, none⟩ = arr[o]? := by
 intro o
 rw [World.cell?_alloc_lt _ _ ⟨C, o, none⟩ hlt, h o]
theorem froz_alloc {W : World} {C : Nat} (h : ∀ o, W.frozen? ⟨C, o, none⟩ = false) (hlt : C < W.heap.size) (ob : Obj) :
  ∀ o, (W.alloc ob).frozen? ⟨C, o, none⟩ = false := by
 intro o
 rw [World.frozen?_alloc_old _ _ ⟨C, o, none⟩ (Nat.ne_of_lt hlt), h o]
theorem cells_next {W W' : World} {C : Nat} {arr : Array Value} (h : ∀ o, W.cell? ⟨C, o, none⟩ = arr[o]?) (hlt : C < W.heap.size) (hb : Below W.heap.size W W') : ∀ o, W'.cell? ⟨C, o, none⟩ = arr[o]? :=
 fun o => (hb.cell (p := ⟨C, o, none⟩) hlt).trans (h o)
theorem cells_new (W : World) (arr : Array Value) (t : TypeId) : ∀ o, (W.alloc (.cells arr t)).cell? ⟨W.heap.size, o, none⟩ = arr[o]? := fun _ => World.cell?_alloc_at _ _ _ _ rfl
theorem cells_at (W : World) (arr : Array Value) (t : TypeId) (n : Nat) (hn : n = W.heap.size) : ∀ o, (W.alloc (.cells arr t)).cell? ⟨n, o, none⟩ = arr[o]? := fun _ => World.cell?_alloc_at _ _ _ _ hn
end Go.Proofs.YtoebmjgkfkfhjaaGreatDoor.Mem
namespace Go.Proofs.YtoebmjgkfkfhjaaGreatDoor.Nums
open Go.RowKit Go.Proofs.YtoebmjgkfkfhjaaGreatDoor.Mem
/-- Numbers in memory. -/
def IntsAt (w : World) (b off : Nat) (zs : List Int) : Prop := ∀ j (h : j < zs.length), w.cell? ⟨b, off + j, none⟩ = some (.int .i64 zs[j])
theorem IntsAt.below {w w' : World} {b off : Nat} {zs : List Int} (h : IntsAt w b off zs) (hb : Below w.heap.size w w') : IntsAt w' b off zs :=
 fun j hj => (hb.cell (World.block_lt_of_cell? _ _ (h j hj))).trans (h j hj)
theorem IntsAt.far {w : World} {b off B i : Nat} {zs : List Int} (h : IntsAt w b off zs) (hne : B ≠ b) (v : Value) : IntsAt (w.setCell ⟨B, i, none⟩ v) b off zs := fun j hj => by
 rw [World.cell?_setCell_other w _ _ _ (by intro e; cases e; exact hne rfl)]
 exact h j hj
theorem IntsAt.set {w : World} {b k : Nat} {zs : List Int} (h : IntsAt w b 0 zs) (hk : k < zs.length) (x : Int) : IntsAt (w.setCell ⟨b, k, none⟩ (.int .i64 x)) b 0 (zs.set k x) := fun j hj => by
 rw [List.length_set] at hj
 by_cases e : k = j
 ·subst e
  have := h k hk
  rw [Nat.zero_add] at this ⊢
  rw [World.cell?_setCell_same w _ _ this]
  simp
 ·rw [World.cell?_setCell_other w _ _ _ (by intro h; cases h; omega), h j hj]
  rw [List.getElem_set_ne e]
theorem below_drew (w : World) (n : Nat) : Below w.heap.size w (w.drewN n) := ⟨rfl, rfl, rfl, Nat.le_refl _, fun _ _ => rfl⟩
/-- A list of numbers as a slice: a row of the call's own, or nil. -/
def Row1 (w : World) (v : Value) (zs : List Int) : Prop := ∃ p cap, v = .slice p zs.length cap ∧ (0 < zs.length → ∃ b, p = some ⟨b, 0, none⟩ ∧ IntsAt w b 0 zs)
theorem Row1.below {w w' : World} {v : Value} {zs : List Int} (h : Row1 w v zs) (hb : Below w.heap.size w w') : Row1 w' v zs := by
 obtain ⟨p, cap, h1, h2⟩ := h
 exact ⟨p, cap, h1, fun hl => let ⟨b, h3, h4⟩ := h2 hl; ⟨b, h3, h4.below hb⟩⟩
end Go.Proofs.YtoebmjgkfkfhjaaGreatDoor.Nums
namespace Go.Proofs.YtoebmjgkfkfhjaaGreatDoor.Mem
open Go.RowKit
/-- All blocks that lay in w are as they were, but for those of which T speaks. -/
structure Kp (T : Nat → Prop) (w w' : World) : Prop where
 os : w'.os = w.os
 tape : w'.tape = w.tape
 output : w'.output = w.output
 size : w.heap.size ≤ w'.heap.size
 block : ∀ k, k < w.heap.size → ¬ T k → w'.heap[k]? = w.heap[k]?
theorem Kp.refl (T : Nat → Prop) (w : World) : Kp T w w := ⟨rfl, rfl, rfl, Nat.le_refl _, fun _ _ _ => rfl⟩
theorem Kp.trans {T : Nat → Prop} {a b c : World} (h : Kp T a b) (k : Kp T b c) : Kp T a c :=
 ⟨k.os.trans h.os, k.tape.trans h.tape, k.output.trans h.output, Nat.le_trans h.size k.size, fun i hi ht => (k.block i (Nat.lt_of_lt_of_le hi h.size) ht).trans (h.block i hi ht)⟩
theorem Kp.of_below {T : Nat → Prop} {w w' : World} (h : Below w.heap.size w w') : Kp T w w' := ⟨h.os, h.tape, h.output, h.size, fun k hk _ => h.block k hk⟩
theorem Kp.wider {T U : Nat → Prop} {w w' : World} (h : Kp T w w') (hu : ∀ k, k < w.heap.size → T k → U k) : Kp U w w' := ⟨h.os, h.tape, h.output, h.size, fun k hk hn => h.block k hk fun ht => hn (hu k hk ht)⟩
theorem Kp.cell {T : Nat → Prop} {w w' : World} (h : Kp T w w') {p : Addr} (hp : p.block < w.heap.size) (hn : ¬ T p.block) : w'.cell? p = w.cell? p := World.cell?_of_block (w := w) (h.block p.block hp hn)
theorem Kp.frozen {T : Nat → Prop} {w w' : World} (h : Kp T w w') {p : Addr} (hp : p.block < w.heap.size) (hn : ¬ T p.block) : w'.frozen? p = w.frozen? p := World.frozen?_of_block (w := w) (h.block p.block hp hn)
theorem Kp.below {T : Nat → Prop} {w w' : World} (h : Kp T w w') {B : Nat} {a : World} (hb : Below B a w) (hB : B ≤ w.heap.size) (ht : ∀ k, k < B → ¬ T k) : Below B a w' :=
 ⟨h.os.trans hb.os, h.tape.trans hb.tape, h.output.trans hb.output, Nat.le_trans hb.size h.size, fun k hk => (h.block k (Nat.lt_of_lt_of_le hk hB) (ht k hk)).trans (hb.block k hk)⟩
theorem Kp.all {w w' : World} (h : Kp (fun _ => False) w w') : Below w.heap.size w w' := ⟨h.os, h.tape, h.output, h.size, fun k hk => h.block k hk id⟩
theorem Kp.alloc {T : Nat → Prop} {w w' : World} (h : Kp T w w') (o : Obj) : Kp T w (w'.alloc o) := h.trans (.of_below (bal (Below.refl _ _) o))
theorem Kp.setCell {T : Nat → Prop} {w w' : World} (h : Kp T w w') {b o : Nat} (hb : T b ∨ w.heap.size ≤ b) (v : Value) : Kp T w (w'.setCell ⟨b, o, none⟩ v) :=
 ⟨h.os, h.tape, h.output, by simp [World.setCell]; exact h.size, fun k hk hn => (Below.heap_setCell w' ⟨b, o, none⟩ v k (by intro e; simp at e; subst e; rcases hb with hb | hb; exact hn hb; omega)).trans (h.block k hk hn)⟩
theorem Kp.drew {T : Nat → Prop} {w w' : World} (h : Kp T w w') (n : Nat) : Kp T w (w'.drewN n) := h.trans (.of_below ⟨rfl, rfl, rfl, Nat.le_refl _, fun _ _ => rfl⟩)
theorem Kp.cells {T : Nat → Prop} {W W' : World} {C : Nat} {arr : Array Value} (hb : Kp T W W') (h : ∀ o, W.cell? ⟨C, o, none⟩ = arr[o]?) (hlt : C < W.heap.size) (hn : ¬ T C) : ∀ o, W'.cell? ⟨C, o, none⟩ = arr[o]? :=
 fun o => (hb.cell (p := ⟨C, o, none⟩) hlt hn).trans (h o)
end Go.Proofs.YtoebmjgkfkfhjaaGreatDoor.Mem
namespace Go.Proofs.YtoebmjgkfkfhjaaGreatDoor.Nums
open Go.RowKit Go.Proofs.YtoebmjgkfkfhjaaGreatDoor.Mem
theorem info_get {P : Program} {t : TypeId} {z : Value} {s b : Nat} (h : (P.info? t).map (fun i => (i.zero, i.size, i.bytes)) = some (some z, s, b)) : ∃ i0, P.info? t = some i0 ∧ i0.zero = some z ∧ i0.size = s ∧ i0.bytes = b := by
 cases hi : P.info? t with
 | none => rw [hi] at h; cases h
 | some i0 =>
  rw [hi] at h
  simp at h
  exact ⟨i0, rfl, h.1, h.2.1, h.2.2⟩
theorem infoI : (Tryz.prog.info? 3).map (fun i => (i.zero, i.size, i.bytes)) = some (some (.int .i64 0), 1, 8) := by kernel_rfl
theorem int1 (a : Int) : ∀ x ∈ [Value.int .i64 a], x.oneCell' = true := by
 intro x hx
 simp at hx
 subst hx
 rfl
theorem own_below {w w' : World} {B e size n : Nat} {v : Value} {xs : List Value} (h : w.ownsRow B e size v n xs) (hb : Below w.heap.size w w') : w'.ownsRow B e size v n xs := by
 refine ⟨h.1, ?_⟩
 rcases h.2 with h2 | ⟨g, cap, cur, h1, h2, h3, h4⟩
 ·exact .inl h2
 ·have hl : g < w.heap.size := by
   by_cases hl : g < w.heap.size
   ·exact hl
   ·rw [Array.getElem?_eq_none (by omega)] at h3; cases h3
  exact .inr ⟨g, cap, cur, h1, h2, (hb.block g hl).trans h3, h4⟩
def ints (l : List Int) : List Value := l.map (.int .i64)
/-- A slice of numbers that was handed in. -/
def RawIn (w : World) (v : Value) (zs : List Int) : Prop := ∃ q b off cap, v = .slice q zs.length cap ∧ (0 < zs.length → q = some ⟨b, off, none⟩) ∧ IntsAt w b off zs ∧ ∀ z ∈ zs, -9223372036854775808 ≤ z ∧ z ≤ 9223372036854775807
theorem RawIn.below {w w' : World} {v : Value} {zs : List Int} (h : RawIn w v zs) (hb : Below w.heap.size w w') : RawIn w' v zs := by
 obtain ⟨q, b, off, cap, h1, h2, h3, h4⟩ := h
 exact ⟨q, b, off, cap, h1, h2, h3.below hb, h4⟩
set_option maxHeartbeats 2000000 in
theorem same_yes (q q2 : Option Addr) (b b2 off off2 cap cap2 : Nat) (zs : List Int) (w : World) (hq : 0 < zs.length → q = some ⟨b, off, none⟩) (hq2 : 0 < zs.length → q2 = some ⟨b2, off2, none⟩) (hz : IntsAt w b off zs) (hz2 : IntsAt w b2 off2 zs) (hl : zs.length ≤ 100000) :
  Calls Tryz.prog 27 #[.slice q zs.length cap, .slice q2 zs.length cap2] w fun e w' => e = .returned (.bool true) ∧ Below w.heap.size w w' := by
 have HQ := hid hq
 have HQ2 := hid hq2
 have HZ := hid hz
 have HZ2 := hid hz2
 clear hq hq2 hz hz2
 go_enter Tryz.func27, Tryz.ntmps27
 go_wp2_with fail
 go_loopw [5] (fun i wr => ∃ k : Nat, k ≤ zs.length ∧ i = .int .i64 k ∧ Below w.heap.size w wr) (fun i _ => zs.length - (intOf i).toNat)
 case atStart => exact ⟨0, by omega, rfl, Below.refl _ _⟩
 case round =>
  obtain ⟨k, hk, rfl, hB⟩ := hrel
  have HB := hid hB
  clear hB
  by_cases hlt : k < zs.length
  ·have hlt2 : (k : Int) < (zs.length : Int) := by omega
   have hqe := HQ.out (by omega)
   have hqe2 := HQ2.out (by omega)
   subst hqe hqe2
   have hc := (HZ.out.below HB.out) k hlt
   have hc2 := (HZ2.out.below HB.out) k hlt
   generalize zs[k] = z at hc hc2
   go_wp2_with fail
   go_quiet (fail)
   go_wp2_with fail
   exact ⟨⟨k + 1, by omega, by go_num, below_drewN HB.out nq⟩, by simp [intOf]; omega⟩
  ·obtain rfl : k = zs.length := by omega
   have hge : ¬ ((zs.length : Int) < (zs.length : Int)) := by omega
   go_wp2_with fail
   go_ret
   exact ⟨rfl, HB.out⟩
end Go.Proofs.YtoebmjgkfkfhjaaGreatDoor.Nums
