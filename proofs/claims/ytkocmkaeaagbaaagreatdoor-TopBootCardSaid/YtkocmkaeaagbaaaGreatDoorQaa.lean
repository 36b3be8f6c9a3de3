/- Words and their bits: what '&', '|' and '^' are at numbers below 65536, in plain numbers. · Small laws on worlds: cells behind stores, new blocks and calls. · Numbers in memory; keyholdref.Pick, walked. · Worlds in which all that lay there is as it was, but for some blocks. · keyholdlaw.words, keyholdref.Blank and keyholdref.Same, walked. · mmu.Entry, mmu.Walk and the document's answer on walking tables, walked. · What cores remember: entries in memory; what is looked for; slices.IndexFunc over them, walked. · mmu.Find, keyholdref.Found, keyholdref.Dropped, keyholdref.SameTlb, walked. · keyholdref.Found walked: the same findR. · keyholdref.Dropped walked: what is left of what is remembered. · keyholdref.SameTlb walked, where both are the same list. -/
import Derived.WalkKit
import Derived.Laws.BitsLemmas
import Derived.OrdersHeld
import Derived.WalkSpells
import Derived.WalkLawsBesides
import Derived.Test.YtkocmkaeaagbaaaGreatDoorChecked
import Derived.Below
import Derived.Deep.QuietTactic
import Derived.BigQuiet
import Derived.OwnWalk
import Derived.Laws.OwnMore
import Derived.Laws.StructEq
namespace Go.Proofs.YtkocmkaeaagbaaaGreatDoor.Bw
open Go.RowKit
theorem mask (n : Int) (i : Nat) (hi : i ≤ 62) : bits .and .i64 n ((2 ^ i - 1 : Nat) : Int) = n % ((2 ^ i : Nat) : Int) := by
 have hp : 2 ^ i ≤ 2 ^ 62 := Nat.pow_le_pow_right (by decide) hi
 have hq : 0 < 2 ^ i := Nat.two_pow_pos i
 have hm : (BitVec.ofInt 64 ((2 ^ i - 1 : Nat) : Int)).toNat = 2 ^ i - 1 := by
  rw [BitVec.ofInt_natCast, BitVec.toNat_ofNat]
  exact Nat.mod_eq_of_lt (by have : (2 : Nat) ^ 62 < 2 ^ 64 := (by decide); omega)
 have key : (BitVec.ofInt 64 n &&& BitVec.ofInt 64 ((2 ^ i - 1 : Nat) : Int)).toNat = (n % ((2 ^ 64 : Nat) : Int)).toNat % 2 ^ i := by
  rw [BitVec.toNat_and, BitVec.toNat_ofInt, hm, Nat.and_two_pow_sub_one_eq_mod]
 show IntKind.i64.wrap ((BitVec.ofInt 64 n &&& BitVec.ofInt 64 ((2 ^ i - 1 : Nat) : Int)).toNat : Nat) = n % ((2 ^ i : Nat) : Int)
 have hdvd : ((2 ^ i : Nat) : Int) ∣ ((2 ^ 64 : Nat) : Int) := by
  rw [Int.natCast_dvd_natCast]
  exact Nat.pow_dvd_pow 2 (by omega)
 have h3 : (((n % ((2 ^ 64 : Nat) : Int)).toNat % 2 ^ i : Nat) : Int) = n % ((2 ^ i : Nat) : Int) := by
  rw [Int.natCast_emod, Int.toNat_of_nonneg (Int.emod_nonneg _ (by decide)), Int.emod_emod_of_dvd _ hdvd]
 rw [key, IntKind.wrap_i64, h3]
 have h4 : 0 ≤ n % ((2 ^ i : Nat) : Int) := Int.emod_nonneg _ (by omega)
 have h5 : n % ((2 ^ i : Nat) : Int) < ((2 ^ i : Nat) : Int) := Int.emod_lt_of_pos _ (by omega)
 have h6 : ((2 ^ i : Nat) : Int) ≤ ((2 ^ 62 : Nat) : Int) := Int.ofNat_le.2 hp
 have h7 : ((2 ^ 62 : Nat) : Int) = 4611686018427387904 := by decide
 omega
theorem mask10 (n : Int) : bits .and .i64 n 1023 = n % 1024 := mask n 10 (by decide)
theorem wraps_i64 (n : Int) (h₀ : 0 ≤ n) (h₁ : n < 2 ^ 62) : IntKind.i64.wrap n = n := by
 rw [IntKind.wrap_i64]
 have : (2 : Int) ^ 62 = 4611686018427387904 := by decide
 omega
theorem lt62 {a : Nat} (h : a < 65536) : a < 2 ^ 62 := Nat.lt_of_lt_of_le h (by decide)
theorem and_nat (a b : Nat) (ha : a < 65536) (hb : b < 65536) : bits .and .i64 (a : Int) (b : Int) = ((a &&& b : Nat) : Int) :=
 (bits_nat .i64 62 (by decide) wraps_i64 a b (lt62 ha) (lt62 hb)).1
/-- One bit more. -/
def bt (a k : Nat) : Nat := a / 2 ^ k % 2
theorem bt_le (a k : Nat) : bt a k ≤ 1 := by unfold bt; omega
theorem bt_test (a k : Nat) : a.testBit k = decide (bt a k = 1) := by rw [Nat.testBit_eq_decide_div_mod_eq]; rfl
theorem and_pow (w : Nat) (i : Nat) : w &&& 2 ^ i = bt w i * 2 ^ i := by
 have := bt_le w i
 have ht := bt_test w i
 have h3 : bt w i = 0 ∨ bt w i = 1 := by omega
 apply Nat.eq_of_testBit_eq
 intro j
 rw [Nat.testBit_and, Nat.testBit_two_pow]
 by_cases hj : i = j
 ·subst hj
  rcases h3 with h3 | h3 <;> rw [ht] <;> simp [h3]
 ·rcases h3 with h3 | h3 <;> simp [h3, hj]
theorem bit15 (w : Nat) (h : w < 65536) : bits .and .i64 (w : Int) 32768 = ((w / 32768 % 2 * 32768 : Nat) : Int) := by
 rw [show (32768 : Int) = ((2 ^ 15 : Nat) : Int) from by decide, and_nat w _ h (by decide), and_pow]
 rfl
theorem bit14 (w : Nat) (h : w < 65536) : bits .and .i64 (w : Int) 16384 = ((w / 16384 % 2 * 16384 : Nat) : Int) := by
 rw [show (16384 : Int) = ((2 ^ 14 : Nat) : Int) from by decide, and_nat w _ h (by decide), and_pow]
 rfl
theorem or15 (t : Int) (h0 : 0 ≤ t) (h1 : t < 1024) : bits .or .i64 32768 t = 32768 + t :=
 bits_join .i64 62 (by decide) wraps_i64 10 32768 t (by decide) (by decide) (by decide) h0 (by omega) (by omega)
theorem or14 (t : Int) (h0 : 0 ≤ t) (h1 : t < 1024) : bits .or .i64 49152 t = 49152 + t :=
 bits_join .i64 62 (by decide) wraps_i64 10 49152 t (by decide) (by decide) (by decide) h0 (by omega) (by omega)
end Go.Proofs.YtkocmkaeaagbaaaGreatDoor.Bw
namespace Go.Proofs.YtkocmkaeaagbaaaGreatDoor.Mem
open Go.RowKit
theorem jD {α : Type} (l : List α) (i : Nat) (a : α) : l.toArray.setIfInBounds i a = (l.set i a).toArray := List.setIfInBounds_toArray ..
theorem jE {α : Type} (a b : α) (t : List α) : (a :: t).set 0 b = b :: t := rfl
theorem jF {α : Type} (a b : α) (t : List α) (n : Nat) : (a :: t).set (n + 1) b = a :: t.set n b := rfl
/-- What the walks of regions simplify by, as one. -/
theorem jj : (∀ (a : Act) (d : Tmp) (v : Value), a.put (some d) v = { a with tmps := a.tmps.setIfInBounds d v }) ∧ (∀ (a : Act) (v : Value), a.put none v = a) ∧
  (∀ {α : Type} {xs : List α} {i : Nat} (h : i < xs.toArray.size), xs.toArray[i] = xs[i]'(by simpa using h)) ∧
  (∀ {α : Type} (a : α) (t : List α) (i : Nat) (h : i + 1 < (a :: t).length), getElem (a :: t) (i + 1) h = getElem t i (Nat.lt_of_succ_lt_succ h)) ∧
  (∀ {α : Type} (a : α) (t : List α) (h : 0 < (a :: t).length), getElem (a :: t) 0 h = a) ∧
  (∀ {α : Type} (l : List α) (i : Nat) (a : α), l.toArray.setIfInBounds i a = (l.set i a).toArray) ∧
  (∀ {α : Type} (a b : α) (t : List α), (a :: t).set 0 b = b :: t) ∧ (∀ {α : Type} (a b : α) (t : List α) (n : Nat), (a :: t).set (n + 1) b = a :: t.set n b) :=
 ⟨fun _ _ _ => rfl, fun _ _ => rfl, fun h => List.getElem_toArray h, fun _ _ _ _ => rfl, fun _ _ _ => rfl, fun _ _ _ => List.setIfInBounds_toArray .., fun _ _ _ => rfl, fun _ _ _ _ => rfl⟩
section
variable {P : Program} {ops : Array Oper} {Q : Exit → Act → World → Prop} {md : Region.Mode} {S : World → Prop}
/-- wpAnyH_take, with what it asks of closed things found by itself. -/
theorem tg (i : Nat) (v : Value) {oi : Oper} {fuel : Nat} {listed : Array Bool} {a : Act} {w : World} (hi : ops[i]? = some oi) (hy : YieldsIf P ops S oi v a) (hS : S w)
  (h : wpAnyH P md ops Q S fuel (listed.setIfInBounds i true) (a.put oi.dst v) w) (hs : Region.noSelect ops = true := by kernel_rfl) (hf : Region.free md ops listed i = true := by kernel_rfl)
  (hr : (Region.ready md ops listed).contains i = true := by kernel_rfl) (hQ : ∀ c a w, Q (.panic c) (a.put oi.dst v) w → Q (.panic c) a w := by exact fun _ _ _ h => h) : wpAnyH P md ops Q S (fuel + 1) listed a w :=
 wpAnyH_take hi hs hf hr hQ hy hS h
/-- Of an operation that no world matters to. -/
theorem tk (i : Nat) (v : Value) {oi : Oper} {fuel : Nat} {listed : Array Bool} {a : Act} {w : World} (hi : ops[i]? = some oi) (hS : S w)
  (h : wpAnyH P md ops Q S fuel (listed.setIfInBounds i true) (a.put oi.dst v) w) (hy : YieldsIf P ops S oi v a := by exact Or.inl ⟨by rfl, fun W h => by clear h; go_simp⟩) (hs : Region.noSelect ops = true := by kernel_rfl)
  (hf : Region.free md ops listed i = true := by kernel_rfl) (hr : (Region.ready md ops listed).contains i = true := by kernel_rfl)
  (hQ : ∀ c a w, Q (.panic c) (a.put oi.dst v) w → Q (.panic c) a w := by exact fun _ _ _ h => h) : wpAnyH P md ops Q S (fuel + 1) listed a w :=
 wpAnyH_take hi hs hf hr hQ hy hS h
/-- Of an operation that is not done. -/
theorem tn (i : Nat) (v : Value) {oi : Oper} {fuel : Nat} {listed : Array Bool} {a : Act} {w : World} (hi : ops[i]? = some oi) (hS : S w)
  (h : wpAnyH P md ops Q S fuel (listed.setIfInBounds i true) (a.put oi.dst v) w) (hy : YieldsIf P ops S oi v a := by exact Or.inr ⟨by rfl, rfl⟩) (hs : Region.noSelect ops = true := by kernel_rfl)
  (hf : Region.free md ops listed i = true := by kernel_rfl) (hr : (Region.ready md ops listed).contains i = true := by kernel_rfl)
  (hQ : ∀ c a w, Q (.panic c) (a.put oi.dst v) w → Q (.panic c) a w := by exact fun _ _ _ h => h) : wpAnyH P md ops Q S (fuel + 1) listed a w :=
 wpAnyH_take hi hs hf hr hQ hy hS h
end
theorem ret_bool {a b : Bool} (h : a = b) : Ending.returned (.bool a) = .returned (.bool b) := by rw [h]
theorem bcell {W w1 : World} (hb : Below W.heap.size W w1) : (∀ b o, b < W.heap.size → w1.cell? ⟨b, o, none⟩ = W.cell? ⟨b, o, none⟩) ∧ (∀ b o, b < W.heap.size → w1.frozen? ⟨b, o, none⟩ = W.frozen? ⟨b, o, none⟩) :=
 ⟨fun b o h => hb.cell (p := ⟨b, o, none⟩) h, fun b o h => hb.frozen (p := ⟨b, o, none⟩) h⟩
theorem bal {w w' : World} (h : Below w.heap.size w w') (o : Obj) : Below w.heap.size w (w'.alloc o) := h.alloc h.size o
theorem btr {w w1 w2 : World} (h : Below w.heap.size w w1) (h2 : Below w1.heap.size w1 w2) : Below w.heap.size w w2 := h.trans (h2.mono h.size)
theorem bset {w w' : World} (h : Below w.heap.size w w') {b o : Nat} (hb : w.heap.size ≤ b) (v : Value) : Below w.heap.size w (w'.setCell ⟨b, o, none⟩ v) := h.setCell hb v
theorem hid {p : Prop} (h : p) : Hid p := h
theorem cells_set {W : World} {B : Nat} {arr : Array Value} (h : ∀ o, W.cell? ⟨B, o, none⟩ = arr[o]?) (i : Nat) (hi : i < arr.size) (v : Value) :
  ∀ o, (W.setCell ⟨B, i, none⟩ v).cell? ⟨B, o, none⟩ = (arr.setIfInBounds i v)[o]? := by
 intro o
 by_cases ho : i = o
 ·subst ho
  rw [World.cell?_setCell_same W _ _ ((h i).trans (Array.getElem?_eq_getElem hi))]
  simp [hi]
 ·rw [World.cell?_setCell_other W _ _ _ (by intro e; cases e; exact ho rfl), h o]
  simp [ho]
theorem two_set {W : World} {B : Nat} {v0 v1 x0 x1 : Value} (h : ∀ o, W.cell? ⟨B, o, none⟩ = (#[x0, x1] : Array Value)[o]?) :
  ∀ o, ((W.setCell ⟨B, 0, none⟩ v0).setCell ⟨B, 1, none⟩ v1).cell? ⟨B, o, none⟩ = (#[v0, v1] : Array Value)[o]? :=
 cells_set (cells_set h 0 (by simp) v0) 1 (by simp) v1
theorem four_set {W : World} {B : Nat} {v0 v1 v2 v3 x0 x1 x2 x3 : Value} (h : ∀ o, W.cell? ⟨B, o, none⟩ = (#[x0, x1, x2, x3] : Array Value)[o]?) :
  ∀ o, ((((W.setCell ⟨B, 0, none⟩ v0).setCell ⟨B, 1, none⟩ v1).setCell ⟨B, 2, none⟩ v2).setCell ⟨B, 3, none⟩ v3).cell? ⟨B, o, none⟩ = (#[v0, v1, v2, v3] : Array Value)[o]? :=
 cells_set (cells_set (cells_set (cells_set h 0 (by simp) v0) 1 (by simp) v1) 2 (by simp) v2) 3 (by simp) v3
theorem cells_far {W : World} {B C i : Nat} {arr : Array Value} (h : ∀ o, W.cell? ⟨C, o, none⟩ = arr[o]?) (hne : B ≠ C) (v : Value) :
  ∀ o, (W.setCell ⟨B, i, none⟩ v).cell? ⟨C, o, none⟩ = arr[o]? := by
 intro o
 rw [World.cell?_setCell_other W _ _ _ (by intro e; cases e; exact hne rfl), h o]
theorem cells_alloc {W : World} {C : Nat} {arr : Array Value} (h : ∀ o, W.cell? ⟨C, o, none⟩ = arr[o]?) (hlt : C < W.heap.size) (ob : Obj) :
  ∀ o, (W.alloc ob).cell? ⟨C, o, none⟩ = arr[o]? := by
 intro o
 rw [World.cell?_alloc_lt _ _ ⟨C, o, none⟩ hlt, h o]
theorem froz_alloc {W : World} {C : Nat} (h : ∀ o, W.frozen? ⟨C, o, none⟩ = false) (hlt : C < W.heap.size) (ob : Obj) :
  ∀ o, (W.alloc ob).frozen? ⟨C, o, none⟩ = false := by
 intro o
 rw [World.frozen?_alloc_old _ _ ⟨C, o, none⟩ (Nat.ne_of_lt hlt), h o]
theorem cells_next {W W' : World} {C : Nat} {arr : Array Value} (h : ∀ o, W.cell? ⟨C, o, none⟩ = arr[o]?) (hlt : C < W.heap.size) (hb : Below W.heap.size W W') : ∀ o, W'.cell? ⟨C, o, none⟩ = arr[o]? :=
 fun o => (hb.cell (p := ⟨C, o, none⟩) hlt).trans (h o)
theorem cells_new (W : World) (arr : Array Value) (t : TypeId) : ∀ o, (W.alloc (.cells arr t)).cell? ⟨W.heap.size, o, none⟩ = arr[o]? := fun _ => World.cell?_alloc_at _ _ _ _ rfl
theorem cells_at (W : World) (arr : Array Value) (t : TypeId) (n : Nat) (hn : n = W.heap.size) : ∀ o, (W.alloc (.cells arr t)).cell? ⟨n, o, none⟩ = arr[o]? := fun _ => World.cell?_alloc_at _ _ _ _ hn
end Go.Proofs.YtkocmkaeaagbaaaGreatDoor.Mem
namespace Go.Proofs.YtkocmkaeaagbaaaGreatDoor.Nums
open Go.RowKit Go.Proofs.YtkocmkaeaagbaaaGreatDoor.Mem
/-- Numbers in memory. -/
def IntsAt (w : World) (b off : Nat) (zs : List Int) : Prop := ∀ j (h : j < zs.length), w.cell? ⟨b, off + j, none⟩ = some (.int .i64 zs[j])
theorem IntsAt.below {w w' : World} {b off : Nat} {zs : List Int} (h : IntsAt w b off zs) (hb : Below w.heap.size w w') : IntsAt w' b off zs :=
 fun j hj => (hb.cell (World.block_lt_of_cell? _ _ (h j hj))).trans (h j hj)
theorem IntsAt.far {w : World} {b off B i : Nat} {zs : List Int} (h : IntsAt w b off zs) (hne : B ≠ b) (v : Value) : IntsAt (w.setCell ⟨B, i, none⟩ v) b off zs := fun j hj => by
 rw [World.cell?_setCell_other w _ _ _ (by intro e; cases e; exact hne rfl)]
 exact h j hj
theorem IntsAt.set {w : World} {b k : Nat} {zs : List Int} (h : IntsAt w b 0 zs) (hk : k < zs.length) (x : Int) : IntsAt (w.setCell ⟨b, k, none⟩ (.int .i64 x)) b 0 (zs.set k x) := fun j hj => by
 rw [List.length_set] at hj
 by_cases e : k = j
 ·subst e
  have := h k hk
  rw [Nat.zero_add] at this ⊢
  rw [World.cell?_setCell_same w _ _ this]
  simp
 ·rw [World.cell?_setCell_other w _ _ _ (by intro h; cases h; omega), h j hj]
  rw [List.getElem_set_ne e]
theorem below_drew (w : World) (n : Nat) : Below w.heap.size w (w.drewN n) := ⟨rfl, rfl, rfl, Nat.le_refl _, fun _ _ => rfl⟩
/-- A list of numbers as a slice: a row of the call's own, or nil. -/
def Row1 (w : World) (v : Value) (zs : List Int) : Prop := ∃ p cap, v = .slice p zs.length cap ∧ (0 < zs.length → ∃ b, p = some ⟨b, 0, none⟩ ∧ IntsAt w b 0 zs)
theorem Row1.below {w w' : World} {v : Value} {zs : List Int} (h : Row1 w v zs) (hb : Below w.heap.size w w') : Row1 w' v zs := by
 obtain ⟨p, cap, h1, h2⟩ := h
 exact ⟨p, cap, h1, fun hl => let ⟨b, h3, h4⟩ := h2 hl; ⟨b, h3, h4.below hb⟩⟩
end Go.Proofs.YtkocmkaeaagbaaaGreatDoor.Nums
namespace Go.Proofs.YtkocmkaeaagbaaaGreatDoor.Mem
open Go.RowKit
/-- All blocks that lay in w are as they were, but for those of which T speaks. -/
structure Kp (T : Nat → Prop) (w w' : World) : Prop where
 os : w'.os = w.os
 tape : w'.tape = w.tape
 output : w'.output = w.output
 size : w.heap.size ≤ w'.heap.size
 block : ∀ k, k < w.heap.size → ¬ T k → w'.heap[k]? = w.heap[k]?
theorem Kp.refl (T : Nat → Prop) (w : World) : Kp T w w := ⟨rfl, rfl, rfl, Nat.le_refl _, fun _ _ _ => rfl⟩
theorem Kp.trans {T : Nat → Prop} {a b c : World} (h : Kp T a b) (k : Kp T b c) : Kp T a c :=
 ⟨k.os.trans h.os, k.tape.trans h.tape, k.output.trans h.output, Nat.le_trans h.size k.size, fun i hi ht => (k.block i (Nat.lt_of_lt_of_le hi h.size) ht).trans (h.block i hi ht)⟩
theorem Kp.of_below {T : Nat → Prop} {w w' : World} (h : Below w.heap.size w w') : Kp T w w' := ⟨h.os, h.tape, h.output, h.size, fun k hk _ => h.block k hk⟩
theorem Kp.wider {T U : Nat → Prop} {w w' : World} (h : Kp T w w') (hu : ∀ k, k < w.heap.size → T k → U k) : Kp U w w' := ⟨h.os, h.tape, h.output, h.size, fun k hk hn => h.block k hk fun ht => hn (hu k hk ht)⟩
theorem Kp.cell {T : Nat → Prop} {w w' : World} (h : Kp T w w') {p : Addr} (hp : p.block < w.heap.size) (hn : ¬ T p.block) : w'.cell? p = w.cell? p := World.cell?_of_block (w := w) (h.block p.block hp hn)
theorem Kp.frozen {T : Nat → Prop} {w w' : World} (h : Kp T w w') {p : Addr} (hp : p.block < w.heap.size) (hn : ¬ T p.block) : w'.frozen? p = w.frozen? p := World.frozen?_of_block (w := w) (h.block p.block hp hn)
theorem Kp.below {T : Nat → Prop} {w w' : World} (h : Kp T w w') {B : Nat} {a : World} (hb : Below B a w) (hB : B ≤ w.heap.size) (ht : ∀ k, k < B → ¬ T k) : Below B a w' :=
 ⟨h.os.trans hb.os, h.tape.trans hb.tape, h.output.trans hb.output, Nat.le_trans hb.size h.size, fun k hk => (h.block k (Nat.lt_of_lt_of_le hk hB) (ht k hk)).trans (hb.block k hk)⟩
theorem Kp.all {w w' : World} (h : Kp (fun _ => False) w w') : Below w.heap.size w w' := ⟨h.os, h.tape, h.output, h.size, fun k hk => h.block k hk id⟩
theorem Kp.alloc {T : Nat → Prop} {w w' : World} (h : Kp T w w') (o : Obj) : Kp T w (w'.alloc o) := h.trans (.of_below (bal (Below.refl _ _) o))
theorem Kp.setCell {T : Nat → Prop} {w w' : World} (h : Kp T w w') {b o : Nat} (hb : T b ∨ w.heap.size ≤ b) (v : Value) : Kp T w (w'.setCell ⟨b, o, none⟩ v) :=
 ⟨h.os, h.tape, h.output, by simp [World.setCell]; exact h.size, fun k hk hn => (Below.heap_setCell w' ⟨b, o, none⟩ v k (by intro e; simp at e; subst e; rcases hb with hb | hb; exact hn hb; omega)).trans (h.block k hk hn)⟩
theorem Kp.drew {T : Nat → Prop} {w w' : World} (h : Kp T w w') (n : Nat) : Kp T w (w'.drewN n) := h.trans (.of_below ⟨rfl, rfl, rfl, Nat.le_refl _, fun _ _ => rfl⟩)
theorem Kp.cells {T : Nat → Prop} {W W' : World} {C : Nat} {arr : Array Value} (hb : Kp T W W') (h : ∀ o, W.cell? ⟨C, o, none⟩ = arr[o]?) (hlt : C < W.heap.size) (hn : ¬ T C) : ∀ o, W'.cell? ⟨C, o, none⟩ = arr[o]? :=
 fun o => (hb.cell (p := ⟨C, o, none⟩) hlt hn).trans (h o)
end Go.Proofs.YtkocmkaeaagbaaaGreatDoor.Mem
namespace Go.Proofs.YtkocmkaeaagbaaaGreatDoor.Nums
open Go.RowKit Go.Proofs.YtkocmkaeaagbaaaGreatDoor.Mem
theorem info_get {P : Program} {t : TypeId} {z : Value} {s b : Nat} (h : (P.info? t).map (fun i => (i.zero, i.size, i.bytes)) = some (some z, s, b)) : ∃ i0, P.info? t = some i0 ∧ i0.zero = some z ∧ i0.size = s ∧ i0.bytes = b := by
 cases hi : P.info? t with
 | none => rw [hi] at h; cases h
 | some i0 =>
  rw [hi] at h
  simp at h
  exact ⟨i0, rfl, h.1, h.2.1, h.2.2⟩
theorem infoI : (Tryz.prog.info? 3).map (fun i => (i.zero, i.size, i.bytes)) = some (some (.int .i64 0), 1, 8) := by kernel_rfl
theorem int1 (a : Int) : ∀ x ∈ [Value.int .i64 a], x.oneCell' = true := by
 intro x hx
 simp at hx
 subst hx
 rfl
theorem own_below {w w' : World} {B e size n : Nat} {v : Value} {xs : List Value} (h : w.ownsRow B e size v n xs) (hb : Below w.heap.size w w') : w'.ownsRow B e size v n xs := by
 refine ⟨h.1, ?_⟩
 rcases h.2 with h2 | ⟨g, cap, cur, h1, h2, h3, h4⟩
 ·exact .inl h2
 ·have hl : g < w.heap.size := by
   by_cases hl : g < w.heap.size
   ·exact hl
   ·rw [Array.getElem?_eq_none (by omega)] at h3; cases h3
  exact .inr ⟨g, cap, cur, h1, h2, (hb.block g hl).trans h3, h4⟩
def ints (l : List Int) : List Value := l.map (.int .i64)
/-- A slice of numbers that was handed in. -/
def RawIn (w : World) (v : Value) (zs : List Int) : Prop := ∃ q b off cap, v = .slice q zs.length cap ∧ (0 < zs.length → q = some ⟨b, off, none⟩) ∧ IntsAt w b off zs ∧ ∀ z ∈ zs, -9223372036854775808 ≤ z ∧ z ≤ 9223372036854775807
theorem RawIn.below {w w' : World} {v : Value} {zs : List Int} (h : RawIn w v zs) (hb : Below w.heap.size w w') : RawIn w' v zs := by
 obtain ⟨q, b, off, cap, h1, h2, h3, h4⟩ := h
 exact ⟨q, b, off, cap, h1, h2, h3.below hb, h4⟩
end Go.Proofs.YtkocmkaeaagbaaaGreatDoor.Nums
namespace Go.Proofs.YtkocmkaeaagbaaaGreatDoor.Mmu
open Go.RowKit Go.Proofs.YtkocmkaeaagbaaaGreatDoor.Mem Go.Proofs.YtkocmkaeaagbaaaGreatDoor.Bw Go.Proofs.YtkocmkaeaagbaaaGreatDoor.Nums
/-- A memory of words. -/
structure RamAt (w : World) (v : Value) (zs : List Int) : Prop where
 row : ∃ q b cap, v = .slice q zs.length cap ∧ (0 < zs.length → q = some ⟨b, 0, none⟩) ∧ IntsAt w b 0 zs
 word : ∀ z ∈ zs, 0 ≤ z ∧ z < 65536
 len : zs.length ≤ 600
theorem RamAt.below {w w' : World} {v : Value} {zs : List Int} (h : RamAt w v zs) (hb : Below w.heap.size w w') : RamAt w' v zs :=
 ⟨by obtain ⟨q, b, cap, h1, h2, h3⟩ := h.row; exact ⟨q, b, cap, h1, h2, h3.below hb⟩, h.word, h.len⟩
/-- Is the address one of a space of that memory? -/
abbrev inb (n s a : Int) : Prop := n % 16 = 0 ∧ n ≤ 384 ∧ 0 ≤ s ∧ s < n / 16 ∧ 0 ≤ a ∧ a < 4096
/-- Which frame an entry tells, if it is one. -/
abbrev isE (x n : Int) : Prop := x / 32768 % 2 = 1 ∧ x % 1024 < n
theorem and15 (x : Int) (x0 : 0 ≤ x) (x1 : x < 65536) : bits .and .i64 x 32768 = x / 32768 % 2 * 32768 := by
 obtain ⟨y, rfl⟩ := Int.eq_ofNat_of_zero_le x0
 rw [bit15 y (by omega)]
 omega
theorem and14 (x : Int) (x0 : 0 ≤ x) (x1 : x < 65536) : bits .and .i64 x 16384 = x / 16384 % 2 * 16384 := by
 obtain ⟨y, rfl⟩ := Int.eq_ofNat_of_zero_le x0
 rw [bit14 y (by omega)]
 omega
theorem leads_yes (x : Int) (w : World) (g1 : (bits .and .i64 x 32768 == 0) = false) :
  Calls Tryz.prog 204 #[.int .i64 x] w fun e w' => e = .returned (.tuple #[.int .i64 (x % 1024), .bool (bits .and .i64 x 16384 != 0), .bool true]) ∧ w = w' := by
 have e10 := mask10 x
 go_enter Tryz.func204, Tryz.ntmps204
 go_wp2_with fail
 go_ret3
 exact ⟨rfl, rfl⟩
theorem leads_no (x : Int) (w : World) (g1 : (bits .and .i64 x 32768 == 0) = true) :
  Calls Tryz.prog 204 #[.int .i64 x] w fun e w' => e = .returned (.tuple #[.int .i64 0, .bool false, .bool false]) ∧ w = w' := by
 go_enter Tryz.func204, Tryz.ntmps204
 go_wp2_with fail
 go_ret3
 exact ⟨rfl, rfl⟩
end Go.Proofs.YtkocmkaeaagbaaaGreatDoor.Mmu
namespace Go.Proofs.YtkocmkaeaagbaaaGreatDoor.Mmu
open Go.RowKit Go.Proofs.YtkocmkaeaagbaaaGreatDoor.Mem Go.Proofs.YtkocmkaeaagbaaaGreatDoor.Bw Go.Proofs.YtkocmkaeaagbaaaGreatDoor.Nums
abbrev Ent := Int × Int × Int × Bool
/-- Entries in memory, four cells each. -/
def EntsAt (w : World) (b off : Nat) (l : List Ent) : Prop :=
 ∀ j (h : j < l.length), w.cell? ⟨b, off + j * 4, none⟩ = some (.int .i64 l[j].1) ∧ w.cell? ⟨b, off + j * 4 + 1, none⟩ = some (.int .i64 l[j].2.1) ∧ w.cell? ⟨b, off + j * 4 + 2, none⟩ = some (.int .i64 l[j].2.2.1) ∧ w.cell? ⟨b, off + j * 4 + 3, none⟩ = some (.bool l[j].2.2.2)
theorem EntsAt.below {w w' : World} {b off : Nat} {l : List Ent} (h : EntsAt w b off l) (hb : Below w.heap.size w w') : EntsAt w' b off l := fun j hj =>
 ⟨(hb.cell (World.block_lt_of_cell? _ _ (h j hj).1)).trans (h j hj).1, (hb.cell (World.block_lt_of_cell? _ _ (h j hj).2.1)).trans (h j hj).2.1, (hb.cell (World.block_lt_of_cell? _ _ (h j hj).2.2.1)).trans (h j hj).2.2.1, (hb.cell (World.block_lt_of_cell? _ _ (h j hj).2.2.2)).trans (h j hj).2.2.2⟩
/-- A list of entries as a slice. -/
def TlbIn (w : World) (v : Value) (l : List Ent) : Prop := ∃ q b off cap, v = .slice q l.length cap ∧ (0 < l.length → q = some ⟨b, off, none⟩) ∧ EntsAt w b off l ∧ l.length ≤ 100
theorem TlbIn.below {w w' : World} {v : Value} {l : List Ent} (h : TlbIn w v l) (hb : Below w.heap.size w w') : TlbIn w' v l := by
 obtain ⟨q, b, off, cap, h1, h2, h3, h4⟩ := h
 exact ⟨q, b, off, cap, h1, h2, h3.below hb, h4⟩
def pg (s p : Int) (e : Ent) : Bool := e.1 == s && e.2.1 == p
/-- What a closure has captured. -/
def PgAt (w : World) (h : Nat) (s p : Int) : Prop := w.cell? ⟨h, 0, none⟩ = some (.int .i64 s) ∧ w.cell? ⟨h + 1, 0, none⟩ = some (.int .i64 p)
theorem PgAt.below {w w' : World} {h : Nat} {s p : Int} (k : PgAt w h s p) (hb : Below w.heap.size w w') : PgAt w' h s p :=
 ⟨(hb.cell (World.block_lt_of_cell? _ _ k.1)).trans k.1, (hb.cell (World.block_lt_of_cell? _ _ k.2)).trans k.2⟩
theorem ofPage_any (s p : Int) (w : World) :
  Calls Tryz.prog 144 #[.int .i64 s, .int .i64 p] w fun e w' => e = .returned (.func (.func 184) #[] #[.pointer (some ⟨w.heap.size, 0, none⟩), .pointer (some ⟨w.heap.size + 1, 0, none⟩)]) ∧ PgAt w' w.heap.size s p ∧ Below w.heap.size w w' := by
 have hmf : ∀ (fn : Fn) (first cap : Array Value) (w : World), (Instr.makeFunc fn first cap).run Tryz.prog w = .ok (.func fn first cap) w := fun _ _ _ _ => rfl
 go_enter Tryz.func144, Tryz.ntmps144
 go_wp2_with fail
 go_ret
 exact ⟨rfl, ⟨cells_alloc (cells_new w #[.int .i64 s] 3) (by simp) _ 0, cells_at (w.alloc (.cells #[.int .i64 s] 3)) #[.int .i64 p] 3 (w.heap.size + 1) (by simp) 0⟩, bal (bal (Below.refl _ _) _) _⟩
theorem isPage (e : Ent) (h : Nat) (s p : Int) (w : World) (hc : PgAt w h s p) :
  Calls Tryz.prog 184 #[.agg #[.int .i64 e.1, .int .i64 e.2.1, .int .i64 e.2.2.1, .bool e.2.2.2], .pointer (some ⟨h, 0, none⟩), .pointer (some ⟨h + 1, 0, none⟩)] w fun r w' => r = .returned (.bool (pg s p e)) ∧ Below w.heap.size w w' := by
 obtain ⟨x, y, z, u⟩ := e
 have k := hc.below (bal (Below.refl _ _) (.cells #[.int .i64 x, .int .i64 y, .int .i64 z, .bool u] 103))
 obtain ⟨k0, k1⟩ := k
 have HP := hid (show pg s p (x, y, z, u) = (x == s && y == p) from rfl)
 cases hx : (x == s) with
 | true =>
  go_enter Tryz.func184, Tryz.ntmps184
  go_wp2_with fail
  go_ret
  exact ⟨by rw [HP.out, hx]; rfl, bal (Below.refl _ _) _⟩
 | false =>
  go_enter Tryz.func184, Tryz.ntmps184
  go_wp2_with fail
  go_ret
  exact ⟨by rw [HP.out, hx]; rfl, bal (Below.refl _ _) _⟩
/-- The first one's number; -1: there is none. -/
def ixV (p : Ent → Bool) (l : List Ent) : Int := if l.findIdx p < l.length then (l.findIdx p : Int) else -1
set_option maxHeartbeats 2000000 in
theorem index_page (v : Value) (l : List Ent) (h : Nat) (s p : Int) (w : World) (hv : TlbIn w v l) (hc : PgAt w h s p) :
  Calls Tryz.prog 143 #[v, .func (.func 184) #[] #[.pointer (some ⟨h, 0, none⟩), .pointer (some ⟨h + 1, 0, none⟩)]] w fun r w' => r = .returned (.int .i64 (ixV (pg s p) l)) ∧ Below w.heap.size w w' := by
 obtain ⟨q, b, off, cap, rfl, hq, hz, hl⟩ := hv
 have HQ := hid hq
 have HZ := hid hz
 have HC := hid hc
 clear hq hz hc
 have hl2 : (l.length : Int) ≤ 100 := by omega
 go_enter Tryz.func143, Tryz.ntmps143
 go_wp2_with fail
 go_loopw [8] (fun i wr => ∃ k : Nat, k ≤ l.length ∧ i = .int .i64 k ∧ Hid ((∀ j (hj : j < l.length), j < k → pg s p l[j] = false) ∧ Below w.heap.size w wr)) (fun i _ => l.length - (intOf i).toNat)
 case atStart => exact ⟨0, by omega, rfl, fun j _ h => by omega, Below.refl _ _⟩
 case round =>
  obtain ⟨k, hk, rfl, hE⟩ := hrel
  by_cases hlt : k < l.length
  ·have hlt2 : (k : Int) < (l.length : Int) := by omega
   have hqe := HQ.out (by omega)
   subst hqe
   obtain ⟨c0, c1, c2, c3⟩ := (HZ.out.below hE.out.2) k hlt
   have HP := hid (fun W (hb : Below w.heap.size w W) => isPage l[k] h s p W (HC.out.below hb))
   have HI := hid (show pg s p l[k] = true → ixV (pg s p) l = k from fun ht => by
    have : l.findIdx (pg s p) = k := (List.findIdx_eq hlt).2 ⟨ht, fun j hj => hE.out.1 j (by omega) hj⟩
    unfold ixV
    rw [this, if_pos hlt])
   have HS := hid (show pg s p l[k] = false → ∀ j (hj : j < l.length), j < k + 1 → pg s p l[j] = false from fun hf j hj hjk => by
    by_cases e : j = k
    ·subst e; exact hf
    ·exact hE.out.1 j hj (by omega))
   generalize l[k] = e at c0 c1 c2 c3 HP HI HS
   go_wp2_with fail
   refine (HP.out _ hE.out.2).mono ?_
   rintro r w1 ⟨rfl, hb⟩
   have B1 := hid (btr hE.out.2 hb)
   clear hb
   cases hpe : pg s p e with
   | true =>
    have HV := hid (HI.out hpe)
    go_wp2_with fail
    go_ret
    exact ⟨by rw [HV.out]; rfl, B1.out⟩
   | false =>
    have HN := hid (HS.out hpe)
    go_wp2_with fail
    exact ⟨⟨k + 1, by omega, by go_num, HN.out, B1.out⟩, by simp [intOf]; omega⟩
  ·obtain rfl : k = l.length := by omega
   have hge : ¬ ((l.length : Int) < (l.length : Int)) := by omega
   have HV := hid (show ixV (pg s p) l = -1 by
    unfold ixV
    rw [if_neg]
    intro hlt2
    have := List.findIdx_getElem (w := hlt2)
    rw [hE.out.1 _ hlt2 hlt2] at this
    cases this)
   go_wp2_with fail
   go_ret
   exact ⟨by rw [HV.out]; rfl, hE.out.2⟩
/-- D2: what is remembered of a page. -/
def findR (l : List Ent) (s p : Int) : Ent × Bool := if h : l.findIdx (pg s p) < l.length then (l[l.findIdx (pg s p)], true) else ((0, 0, 0, false), false)
def foundV (r : Ent × Bool) : Value := .tuple #[.agg #[.int .i64 r.1.1, .int .i64 r.1.2.1, .int .i64 r.1.2.2.1, .bool r.1.2.2.2], .bool r.2]
theorem find_yes {l : List Ent} {s p : Int} {k : Nat} (hk : k < l.length) (h : l.findIdx (pg s p) = k) : findR l s p = (l[k], true) := by
 subst h
 unfold findR
 rw [dif_pos hk]
theorem find_no {l : List Ent} {s p : Int} (h : ¬ l.findIdx (pg s p) < l.length) : findR l s p = ((0, 0, 0, false), false) := by
 unfold findR
 rw [dif_neg h]
theorem there_four (w : World) : ∀ k, k < 4 → (w.alloc (.cells #[.int .i64 0, .int .i64 0, .int .i64 0, .bool false] 103)).frozen? ⟨w.heap.size, k, none⟩ = false := fun k _ => by simp
set_option maxHeartbeats 1000000 in
theorem find_any (v : Value) (l : List Ent) (s p : Int) (w : World) (hv : TlbIn w v l) :
  Calls Tryz.prog 104 #[v, .int .i64 s, .int .i64 p] w fun r w' => r = .returned (foundV (findR l s p)) ∧ Below w.heap.size w w' := by
 have HV := hid hv
 obtain ⟨q, b, off, cap, rfl, hq, hz, hl⟩ := hv
 have HQ := hid hq
 have HZ := hid hz
 clear hq hz
 have B0 := hid (bal (Below.refl w.heap.size w) (.cells #[.int .i64 0, .int .i64 0, .int .i64 0, .bool false] 103))
 have X0 := hid (cells_new w #[.int .i64 0, .int .i64 0, .int .i64 0, .bool false] 103)
 have s0 : (w.alloc (.cells #[.int .i64 0, .int .i64 0, .int .i64 0, .bool false] 103)).heap.size = w.heap.size + 1 := by simp
 have Z0 := hid (there_four w)
 go_enter Tryz.func104, Tryz.ntmps104
 go_wp2_with fail
 refine (ofPage_any s p _).mono ?_
 generalize World.alloc _ _ = W at B0 X0 s0 Z0 ⊢
 rintro r w1 ⟨rfl, hpg, hb1⟩
 have P1 := hid hpg
 have B1 := hid (btr B0.out hb1)
 have X1 := hid (cells_next X0.out (by omega) hb1)
 have Z1 := hid (fun k (hk : k < 4) => (hb1.frozen (p := ⟨w.heap.size, k, none⟩) (by simp; omega)).trans (Z0.out k hk))
 clear hpg hb1 X0 Z0 s0
 go_wp2_with fail
 refine (index_page _ l W.heap.size s p w1 (HV.out.below B1.out) P1.out).mono ?_
 rintro r w2 ⟨rfl, hb2⟩
 have B2 := hid (btr B1.out hb2)
 have s1 : w.heap.size < w1.heap.size := World.block_lt_of_cell? w1 ⟨w.heap.size, 0, none⟩ (X1.out 0)
 have X2 := cells_next X1.out s1 hb2
 have Z2 := hid (fun k (hk : k < 4) => (hb2.frozen (p := ⟨w.heap.size, k, none⟩) s1).trans (Z1.out k hk))
 have z0 := Z2.out 0 (by decide)
 have z1 := Z2.out 1 (by decide)
 have z2 := Z2.out 2 (by decide)
 have z3 := Z2.out 3 (by decide)
 clear hb2 X1 Z1 Z2 P1 B1
 by_cases hlt : l.findIdx (pg s p) < l.length
 ·have hqe := HQ.out (by omega)
  subst hqe
  have HI := hid (show ixV (pg s p) l = (l.findIdx (pg s p) : Int) by unfold ixV; rw [if_pos hlt])
  have HF := hid (find_yes hlt rfl)
  obtain ⟨c0, c1, c2, c3⟩ := (HZ.out.below B2.out) _ hlt
  rw [HI.out]
  generalize l[l.findIdx (pg s p)] = e at HF c0 c1 c2 c3
  generalize l.findIdx (pg s p) = k at *
  have hk2 : (k : Int) < (l.length : Int) := by omega
  have hk3 : ¬ ((k : Int) < 0) := by omega
  obtain ⟨x, y, z, u⟩ := e
  simp only at c0 c1 c2 c3
  go_wp2_with fail
  have four := four_set (v0 := .int .i64 x) (v1 := .int .i64 y) (v2 := .int .i64 z) (v3 := .bool u) X2
  refine bodyPost_ret (v := foundV ((x, y, z, u), true)) (by simp [foundV, results, Tryz.results104, go_sem, four]) rfl ⟨by rw [HF.out], ?_⟩
  exact bset (bset (bset (bset B2.out (Nat.le_refl _) _) (Nat.le_refl _) _) (Nat.le_refl _) _) (Nat.le_refl _) _
 ·have HI := hid (show ixV (pg s p) l = -1 by unfold ixV; rw [if_neg hlt])
  have HF := hid (find_no hlt)
  rw [HI.out]
  clear hlt
  go_wp2_with fail
  have four := four_set (v0 := .int .i64 0) (v1 := .int .i64 0) (v2 := .int .i64 0) (v3 := .bool false) X2
  refine bodyPost_ret (v := foundV ((0, 0, 0, false), false)) (by simp [foundV, results, Tryz.results104, go_sem, four]) rfl ⟨by rw [HF.out], ?_⟩
  exact bset (bset (bset (bset B2.out (Nat.le_refl _) _) (Nat.le_refl _) _) (Nat.le_refl _) _) (Nat.le_refl _) _
theorem infoEnt : (Tryz.prog.info? 103).map (fun i => (i.zero, i.size, i.bytes)) = some (some (.agg #[.int .i64 0, .int .i64 0, .int .i64 0, .bool false]), 4, 32) := by kernel_rfl
def cellsE (l : List Ent) : List Value := l.flatMap fun q => [.int .i64 q.1, .int .i64 q.2.1, .int .i64 q.2.2.1, .bool q.2.2.2]
theorem cellsE_cons (q : Ent) (l : List Ent) : cellsE (q :: l) = .int .i64 q.1 :: .int .i64 q.2.1 :: .int .i64 q.2.2.1 :: .bool q.2.2.2 :: cellsE l := rfl
theorem cellsE_len (l : List Ent) : (cellsE l).length = l.length * 4 := by
 induction l with
 | nil => rfl
 | cons q l ih =>
  rw [cellsE_cons]
  simp only [List.length_cons, ih]
  omega
theorem cellsE_at (l : List Ent) (j : Nat) (h : j < l.length) : (cellsE l)[j * 4]? = some (.int .i64 l[j].1) ∧ (cellsE l)[j * 4 + 1]? = some (.int .i64 l[j].2.1) ∧ (cellsE l)[j * 4 + 2]? = some (.int .i64 l[j].2.2.1) ∧ (cellsE l)[j * 4 + 3]? = some (.bool l[j].2.2.2) := by
 induction l generalizing j with
 | nil => simp at h
 | cons q l ih =>
  rw [cellsE_cons]
  cases j with
  | zero => exact ⟨rfl, rfl, rfl, rfl⟩
  | succ j =>
   have := ih j (by simpa using h)
   have e2 : (j + 1) * 4 = j * 4 + 4 := by omega
   rw [e2]
   exact this
theorem fourE_cell (a b c : Int) (d : Bool) : ∀ x ∈ [Value.int .i64 a, .int .i64 b, .int .i64 c, .bool d], x.oneCell' = true := by
 intro x hx
 simp at hx
 rcases hx with rfl | rfl | rfl | rfl <;> rfl
end Go.Proofs.YtkocmkaeaagbaaaGreatDoor.Mmu
